"""Tests of what the document promises between the worlds: [3]."""

import itertools
import math
import random
import unittest

from parkedrows.burning import load_level, load_of_row, row_of_load
from parkedrows.chaincounts import count_begun, count_layers, count_partings
from parkedrows.chains import are_exchanges, chain_of, exchanges_of, row_of_chain, row_of_exchanges
from parkedrows.cluecounts import clued_moves, count_clued
from parkedrows.clueleft import clue_clash, moves_left, spots_left, wishes_left
from parkedrows.circles import is_ring_row, ring_free, ring_spots, ring_turned
from parkedrows.exchangemoves import (exchanges_mirrored, exchanges_round, exchanges_turned, moved_ahead, moved_behind,
                                      moves_to)
from parkedrows.grains import grain_added
from parkedrows.labels import cars_changed, labelled_of, row_of_labelled, second_count
from parkedrows.labelsweeps import labelled_by_sweep, sweep_cells, sweep_of
from parkedrows.lifebenches import Bench
from parkedrows.lifesteps import all_stepped, script_to, step_back
from parkedrows.lifetexts import read_script, read_state, script_text, state_text
from parkedrows.lifevalues import Marked
from parkedrows.loadgroup import akin_load, akin_row, are_akin, load_order, load_sum
from parkedrows.loads import settled, spills_of
from parkedrows.heldrows import count_held
from parkedrows.lots import homes_of_rows, lot_rows
from parkedrows.luckies import zeros_spread
from parkedrows.meshes import all_meshes, mesh_bridges, mesh_with, mesh_without
from parkedrows.meshparts import mesh_of, meshes_by, outer_spread, parts_of
from parkedrows.outcomes import count_of_spots, lows_of_spots, moves_of_spots
from parkedrows.partings import complement, is_finer, parting_turned, partings
from parkedrows.pathcounts import bounce_counts, difference_counts, joint_counts, meeting_counts
from parkedrows.paths import bounce, meeting_pairs, path_area
from parkedrows.planefields import (all_fields, count_closed_fields, count_fields, count_off_planes, field_of,
                                    is_closed_field, middle_field, point_in)
from parkedrows.planelabels import field_by_label, field_label
from parkedrows.planewalls import field_distance, floors_of, plane_crossed, plane_way, planes_between
from parkedrows.rowlists import parked_rows
from parkedrows.rows import displacement, is_parked, is_prime, spots_of
from parkedrows.searches import does_keep, outer_ties, tree_found
from parkedrows.slopes import count_sloped
from parkedrows.soundtables import count_sound, even_table, is_sound, sound_tables, squares_of
from parkedrows.spreads import displacement_spread, displacement_value, overtaking_spread
from parkedrows.sweeps import swept
from parkedrows.tablecounts import count_homes, homes_by_cost, homes_by_lots, homes_for
from parkedrows.tablefills import cost_of, filled_places, steps_of, table_of
from parkedrows.tableshifts import closed_up, homes_with, homes_without, put_in
from parkedrows.trees import children_of, code_of, is_tree, tree_overtakings
from parkedrows.treerows import row_by_queue, row_by_stack, tree_by_queue, tree_by_stack
from parkedrows.webcounts import excess_spread
from parkedrows.webloads import count_web_loads, full_web, web_loads
from parkedrows.webtrees import group_sizes, load_of_tree, tree_of_load, web_trees
from tests.helper import (chains_tried, drawn_row, drawn_state, drawn_step, drive, exchanges_done, exchanges_tried,
                          few_paths, few_rows, few_trees, few_webs, homes_tried, judge, loads_again, present,
                          ring_rows, rows_driven, some_clues, some_homes, spill_by_spill, step_done, tables_by_turns,
                          tally, trees_walked)

SEARCHES = ("queue", "stack", "deep", "rings")


class TestRowsAndTrees(unittest.TestCase):
    def test_as_many_rows_as_trees(self):
        for cars in (1, 2, 3, 4):
            parents = itertools.product(range(cars + 1), repeat=cars)
            many = (cars + 1) ** (cars - 1)
            self.assertEqual([many, many], [len(parked_rows(cars)), len([some for some in parents if is_tree(some)])])

    def test_parked_just_if_no_wish_in_order_is_greater_than_its_place(self):
        for cars in (1, 2, 3, 4, 5):
            for row in itertools.product(range(cars), repeat=cars):
                self.assertIs(all(wish <= place for place, wish in enumerate(sorted(row))), is_parked(row))

    def test_displacement_and_wishes(self):
        for row in few_rows():
            self.assertEqual(len(row) * (len(row) - 1) // 2, displacement(row) + sum(row))

    def test_just_one_turning_is_parked(self):
        for row in (row for cars in (1, 2, 3, 4) for row in ring_rows(cars)):
            self.assertTrue(is_ring_row(row))
            self.assertEqual(1, sum(is_parked(ring_turned(row, steps)) for steps in range(len(row) + 1)))

    def test_rows_trees_and_codes_one_to_one(self):
        for cars in (1, 2, 3, 4):
            rows = parked_rows(cars)
            for tree_of in (tree_by_queue, tree_by_stack):
                self.assertEqual(len(rows), len({tree_of(row) for row in rows}))
                self.assertEqual(set(itertools.product(range(cars + 1), repeat=cars - 1)),
                                 {code_of(tree_of(row)) for row in rows})


class TestPaths(unittest.TestCase):
    def test_a_row_is_known_by_its_labelled_path(self):
        for row in few_rows():
            path, word = labelled_of(row)
            self.assertEqual(row, row_of_labelled((path, word)))
            self.assertEqual(displacement(row), path_area(path))
            self.assertIs(path.count(0) == 1, is_prime(row))

    def test_meeting_pairs_area_and_bounce(self):
        for path in few_paths(6):
            self.assertEqual(len(meeting_pairs(path)), path_area(swept(path)))
            self.assertEqual(path_area(path), bounce(swept(path)))

    def test_a_path_is_known_by_its_sweep(self):
        paths = few_paths(6)
        self.assertEqual(sorted(paths), sorted(swept(path) for path in paths))

    def test_second_count_by_cells(self):
        for row in few_rows():
            labelled = labelled_of(row)
            self.assertEqual(second_count(labelled), len(sweep_cells(sweep_of(labelled))))
            self.assertEqual(labelled, labelled_by_sweep(sweep_of(labelled)))

    def test_counts_with_both_numbers_exchanged(self):
        for count, most in ((joint_counts, 5), (meeting_counts, 9), (bounce_counts, 9)):
            for cars in range(1, most + 1):
                triples = count(cars)
                self.assertEqual(triples, sorted((other, one, many) for one, other, many in triples))

    def test_differences(self):
        for cars in (1, 2, 3, 4, 5):
            rows = rows_driven(cars)
            differences = tally(second_count(labelled_of(row)) - displacement(row) for row in rows)
            middle = cars * (cars - 1) // 2
            sums = tally(sum(some) - middle for some in itertools.product(range(cars + 1), repeat=cars - 1))
            self.assertEqual(sums, differences)
            self.assertEqual(tuple(sums.get(more, 0) for more in range(-middle, middle + 1)), difference_counts(cars))

    def test_cars_with_neighbouring_numbers_exchanged(self):
        for row in few_rows():
            path, word = labelled = labelled_of(row)
            for car in range(len(row) - 1):
                one, other = sorted((word.index(car), word.index(car + 1)))
                if other == one + 1 and path[other] > path[one]:
                    continue
                meet = (one, other) in meeting_pairs(path)
                changed = second_count(cars_changed(labelled, car)) - second_count(labelled)
                self.assertEqual(1 if meet else 0, abs(changed), (labelled, car))


class TestLoads(unittest.TestCase):
    def test_settling_loses_as_many_grains_as_there_are_spills(self):
        for load in ((9, 0, 4), (1000,) * 12, (7,), (5, 5, 5, 5), (0, 1000)):
            self.assertEqual(sum(load) - sum(settled(load)), sum(spills_of(load)))
            for choose in (min, max):
                self.assertEqual((settled(load), spills_of(load)), spill_by_spill(load, choose))

    def test_loads_that_come_again_are_parked_rows_turned(self):
        for corners in (1, 2, 3, 4):
            loads = loads_again(corners)
            self.assertEqual(sorted(load_of_row(row) for row in rows_driven(corners)), loads)
            self.assertEqual((corners + 1) ** (corners - 1), len(loads))
            for load in loads:
                self.assertEqual(displacement(row_of_load(load)), load_level(load))

    def test_sums_are_a_group(self):
        for corners in (1, 2, 3):
            loads = loads_again(corners)
            for one in loads:
                self.assertEqual(loads, sorted(load_sum(one, other) for other in loads))
                for other in loads:
                    self.assertEqual(load_sum(one, other), load_sum(other, one))
        few = loads_again(3)
        for one, other, third in itertools.product(few[::3], few[1::4], few[::5]):
            self.assertEqual(load_sum(load_sum(one, other), third), load_sum(one, load_sum(other, third)))

    def test_orders(self):
        for corners in (1, 2, 3, 4):
            for load in loads_again(corners):
                self.assertEqual(0, (corners + 1) % load_order(load))

    def test_grains_lead_back(self):
        for corners in (1, 2, 3, 4):
            for load in loads_again(corners):
                for corner in range(1, corners + 1):
                    here = load
                    for _ in range(corners + 1):
                        here = grain_added(here, corner)
                    self.assertEqual(load, here)

    def test_akin_just_if_turned_into_one_another(self):
        for corners in (1, 2, 3):
            around = corners + 1
            loads = list(itertools.product(range(0, 2 * corners + 2, 1 if corners < 3 else 2), repeat=corners))
            for one, other in itertools.product(loads, repeat=2):
                rests = tuple(grains % around for grains in one)
                turned = [ring_turned(rests, steps) for steps in range(around)]
                self.assertIs(tuple(grains % around for grains in other) in turned, are_akin(one, other))

    def test_just_one_that_comes_again_and_one_parked_row_are_akin(self):
        for corners in (1, 2, 3):
            rows, loads = rows_driven(corners), loads_again(corners)
            for load in itertools.product(range(corners + 2), repeat=corners):
                self.assertEqual([akin_row(load)], [row for row in rows if are_akin(row, load)])
                self.assertEqual([akin_load(load)], [again for again in loads if are_akin(again, load)])

    def test_rows_drive_as_told(self):
        for row in few_rows():
            self.assertIsNotNone(drive(akin_row(row)))
            self.assertEqual(row, akin_row(row))


class TestWebs(unittest.TestCase):
    def test_as_many_loads_as_trees(self):
        for web in few_webs() + [full_web(5)]:
            loads, trees = web_loads(web), web_trees(web)
            self.assertEqual([len(loads)] * 3, [len(trees), count_web_loads(web), math.prod(group_sizes(web))])
            self.assertEqual(trees, sorted(tree_of_load(web, load) for load in loads))
            self.assertEqual(loads, sorted(load_of_tree(web, tree) for tree in trees))

    def test_full_webs_by_the_queue(self):
        for corners in (1, 2, 3, 4, 5):
            for row in parked_rows(corners):
                self.assertEqual(tree_by_queue(row), tree_of_load(full_web(corners), load_of_row(row)))


class TestFields(unittest.TestCase):
    def test_how_many(self):
        for things in (1, 2, 3, 4):
            fields = all_fields(things)
            closed = [field for field in fields if is_closed_field(field)]
            self.assertEqual([(things + 1) ** (things - 1), (things - 1) ** (things - 1)], [len(fields), len(closed)])
            self.assertEqual([len(fields), len(closed)], [count_fields(things), count_closed_fields(things)])
            for field in fields:
                self.assertEqual(field, field_of(point_in(field)))

    def test_labels(self):
        for things in (1, 2, 3, 4):
            fields = all_fields(things)
            middle = field_by_label((0,) * things)
            self.assertEqual(rows_driven(things), sorted(field_label(field) for field in fields))
            for field in fields:
                self.assertEqual(sum(field_label(field)), field_distance(middle, field))
                self.assertIs(field == middle, floors_of(field) == [])

    def test_ways(self):
        for things in (1, 2, 3):
            for field, other in itertools.product(all_fields(things), repeat=2):
                way = plane_way(field, other)
                self.assertEqual(planes_between(field, other), sorted(way))
                for plane in way:
                    field = plane_crossed(field, plane)
                self.assertEqual(other, field)

    def test_remainders(self):
        for things in range(1, 13):
            for number in (1, things - 1, things, things + 1, 2 * things, 10 ** 30):
                if number >= 1:
                    many = number * (number - things) ** (things - 1) if number >= things else 0
                    self.assertEqual(many, count_off_planes(things, number))


class TestChains(unittest.TestCase):
    def test_rows_chains_and_exchanges(self):
        for cars in (1, 2, 3, 4):
            rows = rows_driven(cars)
            self.assertEqual(rows, sorted(row_of_chain(chain) for chain in chains_tried(cars + 1)))
            self.assertEqual(rows, sorted(row_of_exchanges(exchanges) for exchanges in exchanges_tried(cars)))
            for row in rows:
                self.assertEqual(row, tuple(a for a, _ in exchanges_of(row)))
                self.assertEqual(len(chain_of(row)), len(exchanges_done(exchanges_of(row))))

    def test_what_stays_a_row_of_exchanges(self):
        for cars in (1, 2, 3, 4):
            for exchanges in exchanges_tried(cars):
                self.assertTrue(are_exchanges(exchanges_turned(exchanges, 1)))
                self.assertTrue(are_exchanges(exchanges_mirrored(exchanges)))
                self.assertTrue(are_exchanges(exchanges_round(exchanges)))
                for index in range(cars - 1):
                    ahead, behind = moved_ahead(exchanges, index), moved_behind(exchanges, index)
                    self.assertTrue(are_exchanges(ahead) and are_exchanges(behind))
                    self.assertEqual([exchanges] * 2, [moved_behind(ahead, index), moved_ahead(behind, index)])

    def test_moves_lead_everywhere(self):
        rows = exchanges_tried(4)
        for exchanges, other in zip(rows, rows[40:] + rows[:40]):
            here = exchanges
            for word, index in moves_to(exchanges, other):
                here = moved_ahead(here, index) if word == "ahead" else moved_behind(here, index)
            self.assertEqual(other, here)

    def test_complements(self):
        for points in (2, 3, 4, 5, 6, 7):
            every = partings(points)
            for one in every:
                self.assertEqual(parting_turned(one, -1), complement(complement(one)))
            for one, other in itertools.product(every[::1 if points < 6 else 9], every[::1 if points < 6 else 4]):
                self.assertIs(is_finer(one, other), is_finer(complement(other), complement(one)))

    def test_counts(self):
        for points in range(2, 14):
            lots = [count_partings(points, many) for many in range(points + 1)]
            self.assertEqual([math.comb(points, many) * math.comb(points, many - 1) // points
                              for many in range(1, points + 1)], lots[1:])
            for many in range(1, 21):
                self.assertEqual(math.comb(points * (many + 1), points - 1), points * count_layers(points, many))
            self.assertEqual(sum(lots), count_layers(points, 1))

    def test_beginnings_depend_on_the_difference(self):
        for cars in range(1, 13):
            for a, b in itertools.combinations(range(cars + 1), 2):
                self.assertEqual(count_begun(cars, (0, b - a)), count_begun(cars, (a, b)))


class TestTables(unittest.TestCase):
    def test_the_same_places_at_the_same_cost(self):
        for places, homes in some_homes():
            for table in sound_tables(places, homes):
                steps = [(table.index(thing) - homes[thing]) % places for thing in present(homes)]
                self.assertEqual(cost_of(places, homes), sum(steps))
                self.assertEqual(filled_places(places, homes),
                                 [place for place in range(places) if table[place] is not None])
            self.assertEqual(len(tables_by_turns(places, homes)), count_sound(places, homes))

    def test_lots_tell_the_homes(self):
        for places, homes in some_homes():
            triples = lot_rows(places, homes)
            self.assertEqual(homes, homes_of_rows(places, len(homes), tuple(triples)))
            self.assertEqual(cost_of(places, homes), sum(displacement(row) for _, _, row in triples))

    def test_any_lots_with_free_places_between(self):
        for first, other in itertools.product(rows_driven(2), rows_driven(3)):
            for things in itertools.combinations(range(5), 2):
                rest = tuple(thing for thing in range(5) if thing not in things)
                lots = ((3, things, first), (6, rest, other))
                self.assertEqual(list(lots), lot_rows(9, homes_of_rows(9, 5, lots)))

    def test_homes_of_tables_by_a_product(self):
        for places, many in ((1, 0), (2, 1), (3, 2), (4, 3), (5, 3), (5, 4)):
            tables = tally(table_of(places, homes) for homes in homes_tried(places, many))
            for table in tables:
                product = 1
                for thing in range(many):
                    place, ahead = table.index(thing), 1
                    while table[place - ahead] is not None and table[place - ahead] < thing:
                        ahead += 1
                    product *= ahead
                self.assertEqual([tables[table]] * 3, [product, count_homes(table), len(homes_for(table))])

    def test_even_tables(self):
        for places, homes in some_homes():
            tables = sound_tables(places, homes)
            self.assertEqual(min(squares_of(places, homes, table) for table in tables),
                             squares_of(places, homes, even_table(places, homes)))

    def test_taken_out_and_put_in(self):
        for places, homes in some_homes()[::2]:
            for table in sound_tables(places, homes):
                for thing in range(len(homes)):
                    if homes[thing] is not None:
                        without = homes_without(places, homes, thing)
                        self.assertTrue(is_sound(places, without, closed_up(places, homes, table, thing)))
                    elif len(present(homes)) < places - 1:
                        for home in range(places):
                            more = put_in(places, homes, table, thing, home)
                            changed = homes_with(places, homes, thing, home)
                            self.assertTrue(is_sound(places, changed, more))
                            self.assertEqual(table, closed_up(places, changed, more, thing))

    def test_ring_rows_are_homes(self):
        for cars in (1, 2, 3, 4):
            for row in ring_rows(cars):
                self.assertEqual(tuple((spot - wish) % (cars + 1) for wish, spot in zip(row, ring_spots(row))),
                                 steps_of(cars + 1, row))
                self.assertEqual(ring_free(row), table_of(cars + 1, row).index(None))
            # Just the parked rows leave the last place free.
            self.assertEqual(rows_driven(cars), [row for row in ring_rows(cars)
                                                 if table_of(cars + 1, row)[cars] is None])

    def test_sums_of_counts(self):
        for places in range(1, 13):
            for many in range(places):
                self.assertEqual([places ** many] * 2, [sum(homes_by_cost(places, many)),
                                                        sum(homes_by_lots(places, many))])


class TestMeshes(unittest.TestCase):
    def test_excess_by_displacement(self):
        for corners in (1, 2, 3, 4, 5):
            spread = excess_spread(corners)
            for number in (-3, -2, -1, 0, 1, 2, 5):
                self.assertEqual(sum((number + 1) ** displacement(row) for row in rows_driven(corners)),
                                 sum(many * number ** excess for excess, many in enumerate(spread)))

    def test_as_many_displacements_as_overtakings(self):
        for cars in (1, 2, 3, 4, 5):
            moves = tally(displacement(row) for row in rows_driven(cars))
            many = tally(len(tree_overtakings(tree)) for tree in trees_walked(cars))
            self.assertEqual(moves, many)
            self.assertEqual([tuple(moves[more] for more in sorted(moves))] * 2,
                             [displacement_spread(cars), overtaking_spread(cars)])

    def test_orders_that_rise_and_fall_by_turns(self):
        for things in range(1, 9):
            turns = [order for order in itertools.permutations(range(things))
                     if all((order[at] < order[at + 1]) == (at % 2 == 0) for at in range(things - 1))]
            self.assertEqual(len(turns), abs(displacement_value(things, -1)))

    def test_rows_within_bounds_by_a_step(self):
        for first, step, many in itertools.product((1, 2, 5), (0, 1, 4), (1, 2, 3, 6, 12)):
            told = first * (first + many * step) ** (many - 1)
            bounds = tuple(first + step * at for at in range(many))
            self.assertEqual([told, told], [count_held(bounds), count_sloped(first, step, many)])

    def test_zeros_beside_children_of_the_root(self):
        for cars in (1, 2, 3, 4, 5):
            zeros = tally(row.count(0) for row in rows_driven(cars))
            self.assertEqual(zeros, tally(len(children_of(tree, 0)) for tree in trees_walked(cars)))
            self.assertEqual(tuple(zeros.get(many, 0) for many in range(cars + 1)), zeros_spread(cars))

    def test_each_mesh_is_that_of_one_tree(self):
        for corners, search in itertools.product((1, 2, 3, 4), SEARCHES):
            meshes, trees = all_meshes(corners), trees_walked(corners)
            self.assertEqual(len(meshes), sum(2 ** len(outer_ties(tree, search)) for tree in trees))
            self.assertEqual(meshes, sorted(mesh for tree in trees for mesh in meshes_by(tree, search)))
            for mesh in meshes:
                tree, ties = parts_of(mesh, search)
                self.assertEqual(mesh, mesh_of(tree, search, ties))

    def test_as_many_outer_ties_as_displacements(self):
        for corners, search in itertools.product((1, 2, 3, 4), SEARCHES):
            self.assertEqual(displacement_spread(corners), outer_spread(corners, search))

    def test_outer_ties_beside_displacement_and_overtakings(self):
        for tree in few_trees() + [(6, 6, 6, 6, 6, 0, 6, 7, 7, 7, 7, 7), (0,) * 12, tuple(range(2, 13)) + (0,)]:
            self.assertEqual([displacement(row_by_queue(tree)), displacement(row_by_stack(tree)),
                              len(tree_overtakings(tree))],
                             [len(outer_ties(tree, search)) for search in ("queue", "stack", "deep")])

    def test_outer_ties_leave_the_tree(self):
        for mesh, search in itertools.product(all_meshes(3) + all_meshes(4)[::25], SEARCHES):
            tree, bridges = tree_found(mesh, search), mesh_bridges(mesh)
            outer = outer_ties(tree, search)
            for tie in itertools.combinations(range(len(tree) + 1), 2):
                self.assertIs(tie in outer, does_keep(mesh, tie, search))
                if tie not in bridges:
                    changed = mesh_without(mesh, tie) if tie in mesh else mesh_with(mesh, tie)
                    self.assertIs(tie in outer, tree_found(changed, search) == tree)


class TestSpotsAndClues(unittest.TestCase):
    def test_rows_by_which_all_cars_come_to_spots(self):
        for cars in (1, 2, 3, 4, 5):
            rows = rows_driven(cars)
            for spots in itertools.permutations(range(cars)):
                ranges = [range(low, spot + 1) for low, spot in zip(lows_of_spots(spots), spots)]
                led = list(itertools.product(*ranges))
                self.assertEqual([spots] * len(led), [spots_of(row) for row in led])
                self.assertEqual([len(led), len(led)], [count_of_spots(spots), sum(moves_of_spots(spots))])
            self.assertEqual(len(rows), sum(map(count_of_spots, itertools.permutations(range(cars)))))

    def test_products_come_to_all_rows(self):
        for cars in range(1, 8):
            orders = itertools.permutations(range(cars))
            self.assertEqual((cars + 1) ** (cars - 1), sum(count_of_spots(spots) for spots in orders))

    def test_clues_that_go_together(self):
        draw = random.Random(3)
        for cars in (1, 2, 3, 4):
            rows = rows_driven(cars)
            for clues in some_clues(draw, cars, 30):
                kept = [row for row in rows if judge(row, clues)]
                together = bool(kept)
                self.assertEqual([together] * 4, [moves_left(cars, clues) is not None, clue_clash(cars, clues) is None,
                                                  wishes_left(cars, clues) is not None, count_clued(cars, clues) > 0])

    def test_without_clues(self):
        for cars in range(1, 10):
            self.assertEqual([(cars + 1) ** (cars - 1), displacement_spread(cars), (0, cars * (cars - 1) // 2)],
                             [count_clued(cars, ()), clued_moves(cars, ()), moves_left(cars, ())])

    def test_clues_that_tell_all_spots(self):
        for spots in itertools.permutations(range(4)):
            clues = tuple(("spot", car, spot, spot) for car, spot in enumerate(spots))
            moves = moves_of_spots(spots)
            self.assertEqual([count_of_spots(spots), moves + (0,) * (7 - len(moves)), tuple((spot,) for spot in spots)],
                             [count_clued(4, clues), clued_moves(4, clues), spots_left(4, clues)])
            self.assertEqual(tuple(tuple(range(low, spot + 1)) for low, spot in zip(lows_of_spots(spots), spots)),
                             wishes_left(4, clues))


class TestStates(unittest.TestCase):
    def test_scripts_led_back(self):
        draw = random.Random(4)
        for cars in (1, 2, 3, 5, 8, 11, 12):
            for _ in range(12):
                states, script = [drawn_state(draw, cars)], []
                while len(script) < 30:
                    step = drawn_step(draw, len(states[-1][0]))
                    if step[0] != "leave" and step_done(states[-1], step) is not None:
                        script.append(step)
                        states = all_stepped(states[0], tuple(script))
                backward = [step_back(state, step) for state, step in zip(states, script)][::-1]
                self.assertEqual(states[::-1], all_stepped(states[-1], tuple(backward)))
                self.assertEqual(tuple(script), read_script(script_text(tuple(script))))

    def test_each_state_from_each_other_one(self):
        states = [(row, spot, marks) for row in rows_driven(3)[::3] for spot in range(3)
                  for marks in ((0, 0, 0), (1, 99, 0))]
        for one, other in itertools.product(states, repeat=2):
            self.assertEqual(other, all_stepped(one, script_to(one, other))[-1])
            bench = Bench(one)
            bench += script_to(one, other)
            self.assertEqual(other, bench.state)
            bench.undo()
            self.assertEqual(one, bench.state)

    def test_texts(self):
        draw = random.Random(5)
        for cars in range(1, 13):
            state = drawn_state(draw, cars)
            self.assertEqual(state, read_state(state_text(state)))
            row, _, marks = state
            self.assertEqual(Marked(row, marks), Marked.read(str(Marked(row, marks))))


class TestAllTogether(unittest.TestCase):
    def rows(self):
        """All rows of one to four cars, and some of more."""
        draw = random.Random(6)
        return few_rows() + [drawn_row(draw, cars) for cars in (5, 6, 7, 8) for _ in range(6)]

    def test_the_displacement_of_a_row(self):
        for row in self.rows():
            cars, moves = len(row), displacement(row)
            self.assertEqual([moves] * 6, [path_area(labelled_of(row)[0]), load_level(load_of_row(row)),
                                           cost_of(cars + 1, row), len(outer_ties(tree_by_queue(row), "queue")),
                                           len(outer_ties(tree_by_stack(row), "stack")),
                                           sum(spots_of(row)) - sum(row)])
            self.assertEqual(cars * (cars - 1) // 2 - moves, field_distance(middle_field(cars), field_by_label(row)))

    def test_there_and_back(self):
        for row in self.rows():
            self.assertEqual([row] * 9, [row_of_labelled(labelled_of(row)), row_of_load(load_of_row(row)),
                                         row_by_queue(tree_by_queue(row)), row_by_stack(tree_by_stack(row)),
                                         field_label(field_by_label(row)), row_of_chain(chain_of(row)),
                                         row_of_exchanges(exchanges_of(row)), akin_row(row),
                                         Marked(row, (0,) * len(row)).row])

    def test_how_many_of_each(self):
        for cars in (1, 2, 3, 4):
            many = [count_fields(cars), count_web_loads(full_web(cars)), count_held(tuple(range(1, cars + 1))),
                    count_sloped(1, 1, cars), count_clued(cars, ()), sum(displacement_spread(cars)),
                    sum(zeros_spread(cars)), excess_spread(cars)[0], sum(outer_spread(cars, "rings")),
                    displacement_value(cars, 1), len(exchanges_tried(cars))]
            self.assertEqual([len(parked_rows(cars))] * len(many), many)
