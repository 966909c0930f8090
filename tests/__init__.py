"""Tests of parkedrows; run them by python3 -m unittest."""
