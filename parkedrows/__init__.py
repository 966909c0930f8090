"""Parkedrows: rows of wishes, and worlds that are one with them."""
