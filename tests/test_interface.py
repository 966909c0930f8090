"""Tests that all names of the interface are there, with their arguments, defined where they are listed."""

import ast
import importlib
import inspect
import pathlib
import unittest

FOLDER = pathlib.Path(__file__).resolve().parent.parent / "parkedrows"

INTERFACE = {
    "rows": "are_wishes(value) is_parked(value) spots_of(row) cars_at(row) displacement(row) lucky_cars(row) "
            "is_prime(row) put_in_order(row)",
    "rowlists": "parked_rows(cars) rising_rows(cars) row_number(row) row_with(cars,number) count_parked(cars) "
                "count_rising(cars) count_prime(cars) count_first(cars,wish)",
    "circles": "is_ring_row(value) ring_spots(value) ring_free(value) ring_turned(value,steps) parked_turn(value)",
    "trees": "is_tree(value) children_of(tree,corner) above_of(tree,corner) tree_leaves(tree) tree_overtakings(tree) "
             "code_of(tree) tree_of_code(code) swung(tree,corner,other)",
    "treerows": "tree_by_queue(row) tree_by_stack(row) row_by_queue(tree) row_by_stack(tree) queue_of(tree) "
                "stack_of(tree)",
    "paths": "is_path(value) all_paths(cars) path_steps(path) path_by_steps(value) path_area(path) "
             "meeting_pairs(path) path_cells(path) bounce_spots(path) bounce(path)",
    "sweeps": "sweep_order(path) swept(path) swept_back(path) sweeps_home(path)",
    "labels": "is_labelled(value) labelled_of(row) row_of_labelled(labelled) counting_pairs(labelled) "
              "second_count(labelled) reading_word(labelled) falling_cars(labelled) cars_changed(labelled,car) "
              "labels_of(path) count_labels(path)",
    "labelsweeps": "sweep_of(labelled) is_sweep(value) labelled_by_sweep(value) sweep_cells(value)",
    "pathcounts": "joint_counts(cars) meeting_counts(cars) bounce_counts(cars) second_counts(path) "
                  "difference_counts(cars)",
    "loads": "is_load(value) is_settled(load) unsteady_corners(load) spilled(load,corner) settled(load) "
             "spills_of(load)",
    "burning": "comes_again(load) burning_rounds(load) turned_load(load) row_of_load(load) load_of_row(row) "
               "load_level(load) stuck_corners(load) made_again(load) steps_again(load)",
    "grains": "grain_added(load,corner) spills_by_grain(load,corner) grain_taken(load,corner) rain(load,corners)",
    "loadgroup": "load_sum(one,other) load_opposite(load) load_times(load,times) load_order(load) "
                 "neutral_load(cars) are_akin(one,other) akin_row(load) akin_load(load) akin_lots(loads)",
    "webloads": "is_web(value) full_web(corners) web_settled(web,load) web_spills(web,load) "
                "web_comes_again(web,load) web_loads(web) count_web_loads(web)",
    "webtrees": "is_web_tree(web,value) tree_of_load(web,load) load_of_tree(web,tree) web_trees(web) group_sizes(web)",
    "planefields": "is_field(value) middle_field(things) field_of(point) point_in(field) near_things(field) "
                   "far_things(field) is_closed_field(field) all_fields(things) count_fields(many) "
                   "count_closed_fields(many) count_off_planes(things,number)",
    "planewalls": "planes_between(field,other_field) field_distance(field,other_field) walls_of(field) "
                  "floors_of(field) ceilings_of(field) plane_crossed(field,plane) plane_way(field,other_field)",
    "planelabels": "field_label(field) field_by_label(row) label_item(plane)",
    "partings": "is_parting(value) parting_turn(parting) parting_by_turn(value) parting_turned(parting,steps) "
                "complement(parting) is_finer(parting,other) parting_meet(parting,other) parting_join(parting,other) "
                "joinings(parting) splittings(parting) partings(points)",
    "chains": "is_chain(value) chain_of(row) row_of_chain(value) are_exchanges(value) exchanges_of(row) "
              "row_of_exchanges(value)",
    "exchangemoves": "moved_ahead(exchanges,index) moved_behind(exchanges,index) exchanges_turned(exchanges,steps) "
                     "exchanges_mirrored(exchanges) exchanges_round(exchanges) moves_to(exchanges,other)",
    "chaincounts": "count_partings(points,lots) count_layers(points,many) count_through(parting) "
                   "count_begun(cars,exchange) count_with(cars,exchange)",
    "tablefills": "are_homes(places,value) is_table(value) table_of(places,homes) steps_of(places,homes) "
                  "cost_of(places,homes) filled_places(places,homes) place_for(places,homes,home)",
    "tablecounts": "homes_for(table) home_ranges(table) count_homes(table) count_filling(places,value) "
                   "homes_by_cost(places,many) homes_by_lots(places,many) total_cost(places,many) "
                   "total_miss(places,many)",
    "lots": "lots_of(places,homes) lot_rows(places,homes) homes_of_rows(places,things,value)",
    "soundtables": "is_sound(places,homes,value) sound_tables(places,homes) count_sound(places,homes) "
                   "even_table(places,homes) squares_of(places,homes,table) turn_for(places,homes,table) "
                   "is_turn_for(places,homes,table,value)",
    "tableshifts": "homes_without(places,homes,thing) freed_place(places,homes,thing) "
                   "closed_up(places,homes,table,thing) homes_with(places,homes,thing,home) "
                   "put_in(places,homes,table,thing,home)",
    "spreads": "displacement_spread(few_cars) wish_sum_spread(few_cars) overtaking_spread(few_cars) "
               "total_displacement(few_cars) displacement_value(few_cars,number)",
    "webcounts": "excess_spread(corners) count_connected(corners,ties)",
    "luckies": "lucky_spread(many_cars) zeros_spread(many_cars) count_beginning(many_cars,wishes) "
               "count_by_counts(counts)",
    "heldrows": "are_bounds(value) is_held(bounds,value) count_held(bounds) count_held_rising(bounds) "
                "held_rows(bounds) held_rising(bounds) held_spread(bounds)",
    "slopes": "count_sloped(first,step,cars) sloped_rest(first,step,far_cars,modulus) parked_rest(far_cars,modulus) "
              "prime_rest(far_cars,modulus)",
    "meshes": "is_mesh(value) tree_mesh(tree) full_mesh(corners) mesh_excess(mesh) mesh_bridges(mesh) "
              "mesh_with(mesh,tie) mesh_without(mesh,tie) all_meshes(corners)",
    "searches": "tree_found(mesh,search) line_found(mesh,search) outer_ties(tree,search) does_keep(mesh,tie,search)",
    "meshparts": "mesh_of(tree,search,ties) parts_of(mesh,search) meshes_by(tree,search) carried(mesh,one,other) "
                 "mesh_number(mesh,search) mesh_with_number(corners,search,number) outer_spread(corners,search)",
    "clues": "are_clues(cars,value) keeps_clues(row,clues)",
    "cluecounts": "count_clued(cars,clues) clued_moves(cars,clues) first_clued(cars,clues) last_clued(cars,clues) "
                  "clued_with(cars,clues,number) clued_number(row,clues) clued_rows(cars,clues)",
    "clueleft": "wishes_left(cars,clues) spots_left(cars,clues) moves_left(cars,clues) clue_clash(cars,clues)",
    "outcomes": "are_spots(value) count_of_spots(spots) lows_of_spots(spots) moves_of_spots(spots)",
    "rowpapers": "row_questions(cars,clues) next_question(cars,clues) row_paper(cars,clues) "
                 "is_row_paper(cars,clues,value)",
    "lifesteps": "is_state(value) is_step(value) is_script(value) seen_car(state) stepped(state,step) "
                 "all_stepped(state,script) step_back(state,step) script_to(one,other) steps_that_can(state,steps)",
    "lifetexts": "state_text(state) script_text(script) read_state(value) read_script(value)",
}

# The classes, each with its methods, its class method, its operators, its properties and its class value.
CLASSES = {
    "lifevalues": ("Marked", {"__init__": ["self", "row", "marks"], "__call__": ["self", "corner"],
                              "read": ["cls", "value"]},
                   "add iadd mul invert xor sub lshift le getitem contains iter len bool str eq",
                   "row marks spots load",
                   12),
    "lifebenches": ("Bench", {"__init__": ["self", "state"], "do": ["self", "step"], "undo": ["self"],
                              "redo": ["self"], "attempt": ["self", "action"], "lines": ["self"]},
                    "iadd getitem contains iter len bool eq", "state row spot marks seen spots log", 60),
}


class TestInterface(unittest.TestCase):
    def test_functions_and_their_arguments(self):
        for module, listed in INTERFACE.items():
            found = importlib.import_module("parkedrows." + module)
            for told in listed.split():
                name, names = told.rstrip(")").split("(")
                function = getattr(found, name)
                self.assertTrue(inspect.isfunction(function), told)
                self.assertEqual("parkedrows." + module, function.__module__, told)
                parameters = inspect.signature(function).parameters.values()
                self.assertEqual(names.split(","), [parameter.name for parameter in parameters], told)
                for parameter in parameters:
                    self.assertIs(inspect.Parameter.empty, parameter.default, told)

    def test_defined_in_the_file_that_lists_them(self):
        for module, listed in INTERFACE.items():
            tree = ast.parse((FOLDER / (module + ".py")).read_text())
            defined = [node.name for node in tree.body if isinstance(node, ast.FunctionDef)]
            for told in listed.split():
                self.assertEqual(1, defined.count(told.split("(")[0]), told)

    def test_no_other_modules(self):
        helpers = ["__init__", "checks", "errors"]
        self.assertEqual(sorted(list(INTERFACE) + list(CLASSES) + helpers),
                         sorted(path.stem for path in FOLDER.glob("*.py")))

    def test_classes(self):
        for module, (name, methods, operators, properties, most) in CLASSES.items():
            tree = ast.parse((FOLDER / (module + ".py")).read_text())
            body, = [node.body for node in tree.body if isinstance(node, ast.ClassDef) and node.name == name]
            defined = {node.name: node for node in body if isinstance(node, ast.FunctionDef)}
            for method, names in methods.items():
                self.assertEqual(names, [arg.arg for arg in defined[method].args.args], method)
                self.assertEqual([], defined[method].args.defaults, method)
            for operator in operators.split():
                self.assertIn(f"__{operator}__", defined)
            found = getattr(importlib.import_module("parkedrows." + module), name)
            for told in properties.split():
                self.assertIn(told, defined)
                self.assertIsInstance(vars(found)[told], property)
                self.assertIsNone(vars(found)[told].fset)
            self.assertEqual([(object,), most], [found.__bases__, vars(found)["MOST"]])
        self.assertIsInstance(vars(importlib.import_module("parkedrows.lifevalues").Marked)["read"], classmethod)
        self.assertTrue(inspect.isgeneratorfunction(importlib.import_module("parkedrows.lifebenches").Bench.lines))
