"""The names of the interface stand where it lists them, and are called as it says."""

import ast
import pathlib
import unittest

PACKAGE = pathlib.Path(__file__).resolve().parent.parent / "crossties"

FUNCTIONS = {
    "words": {"is_word": 1, "is_number": 1},
    "maps": {
        "pieces_of": 1, "part_map": 2, "map_without": 2, "joined_maps": 2, "both_near": 3, "with_tie": 3,
        "without_tie": 3},
    "lexemes": {"lexemes": 1},
    "maptexts": {"map_text": 1, "read_map": 1},
    "peelings": {
        "can_peel": 2, "first_posts": 1, "good": 1, "peeling_of": 1, "judge_peeling": 2, "all_peelings": 1,
        "later_near": 2},
    "longrings": {"is_ring": 2, "cross_ties": 2, "judge_ring": 2, "long_ring_of": 1, "all_long_rings": 1},
    "crowds": {"is_crowd": 2, "crowds_of": 1, "crowds_with": 2, "map_of_crowds": 2},
    "crowdtrees": {"crowd_tree_of": 1, "judge_crowd_tree": 2, "count_crowd_trees": 1},
    "distances": {"distance": 3, "levels": 2, "judge_levels": 3, "greatest_distance": 1},
    "roads": {"road_of": 3, "all_roads": 3, "count_roads": 3, "road_at": 4, "is_road": 2, "road_number": 2},
    "lists": {
        "are_open": 1, "is_open_list": 2, "distance_within": 4, "road_within": 4, "not_open_paper": 1,
        "judge_not_open": 2},
    "parties": {"party_pieces": 1, "party_part": 2, "with_bond": 3, "without_bond": 3},
    "stands": {"loose_bonds": 3, "moved": 3, "gathered": 3},
    "standtexts": {"party_text": 1, "stand_text": 1, "read_party": 1, "read_stand": 3},
    "plainwalks": {
        "within": 2, "reached": 1, "fewest_by_walks": 3, "walk_by_walks": 3, "cheapest_by_walks": 3,
        "cheapest_walk": 3},
    "steps": {"is_step": 2, "done": 2, "step_back": 2, "steps_of": 2, "all_steps": 1, "is_stuck": 1},
    "scripts": {
        "stands_along": 2, "walked": 2, "script_back": 2, "first_bad": 2, "price": 3, "script_text": 1,
        "read_script": 1},
    "ways": {
        "apart": 2, "price_apart": 3, "at_goal": 2, "fewest_steps": 2, "any_roads": 2, "wrong_road": 3, "way_by": 3,
        "any_way": 2, "way_within": 3, "judge_way": 3},
    "between": {
        "change_of": 3, "begins": 3, "first_steps": 2, "is_between": 3, "all_between": 2, "nearest_stand": 2},
    "pairs": {
        "low_high": 6, "pairs_of": 3, "judge_order": 4, "any_order": 3, "order_script": 4, "steps_ahead": 4,
        "which_ahead": 5},
    "ordercounts": {
        "count_orders": 3, "moments": 3, "order_at": 4, "order_number": 4, "next_order": 4, "drawn_order": 4,
        "orders_beginning": 4},
    "breaking": {"breaking": 1, "judge_breaking": 2},
    "changes": {
        "changed": 3, "can_untie": 3, "can_tie": 3, "change_paper": 3, "judge_change": 4, "good_changes": 1},
    "makers": {
        "map_of_kinds": 1, "map_of_spans": 1, "map_of_window": 2, "map_of_subtrees": 2, "kinds_peeling": 1,
        "spans_peeling": 1, "window_peeling": 2, "subtrees_peeling": 2, "subtree_form": 1},
    "matrices": {
        "near_table": 1, "table_product": 2, "table_power": 2, "row_counts": 2, "row_count": 2, "ring_count": 2},
    "standcounts": {
        "count_stands": 2, "count_within": 3, "chance_of_post": 4, "mean_apart": 2, "count_amid": 2, "count_ways": 2,
        "farthest": 2},
    "standnumbers": {
        "stand_at": 3, "stand_number": 1, "next_stand": 1, "stands_from": 2, "drawn_stand": 3, "stand_within_at": 4,
        "number_within": 2},
    "goals": {"gaps_after": 3, "wasted": 3, "barred_things": 3},
    "acts": {"act_word": 2, "state_after": 2, "good_acts": 1},
}

# Parameters behind a star, with their default values.
KEYWORDS = {"standnumbers": {"stands_from": {"number": 0, "many": 10}}}

# The numbers count the object itself.
CLASSES = {
    "errors": {
        "TieError": {}, "UnlikeMaps": {}, "UnlikeParties": {}, "TooGreat": {}, "NothingDone": {}, "BadMap": {},
        "BadParty": {}, "BadStand": {}, "BadLists": {}, "BadRoads": {}, "BadMade": {}, "NotGood": {}, "NoRoad": {},
        "BadStep": {}, "BadOrder": {}, "BadText": {}, "BadAct": {}, "NameMissing": {}, "UnknownName": {}},
    "maps": {
        "Map": {
            "__init__": 3, "posts": 1, "ties": 1, "number": 2, "is_near": 3, "near": 2, "tied": 2, "__eq__": 2}},
    "lists": {"Lists": {"__init__": 3, "map": 1, "lists": 1, "posts_of": 2, "__eq__": 2}},
    "parties": {
        "Party": {
            "__init__": 3, "things": 1, "bonds": 1, "number": 2, "bonded": 2, "are_bonded": 3, "__eq__": 2}},
    "stands": {
        "Stand": {
            "__init__": 4, "map": 1, "party": 1, "posts": 1, "post": 2, "things_at": 2, "__eq__": 2}},
    "house": {
        "House": {
            "__init__": 2, "stand": 1, "goal": 1, "nails": 1, "state": 1, "do": 2, "undo": 1, "redo": 1, "done": 1,
            "undone": 1, "tried": 2, "would": 2, "paid": 1, "gap": 1, "waste": 1, "left": 1, "way": 1, "next_steps": 1,
            "keep": 2, "marks": 1, "marked": 2, "gap_to": 2, "twin": 1, "__eq__": 2}},
    "console": {"Console": {"__init__": 2, "house": 1, "say": 2}},
}


def body_of(name):
    return ast.parse((PACKAGE / f"{name}.py").read_text(encoding="ascii")).body


def arities(body):
    """The functions that are defined in a body, with the number of their arguments."""
    return {node.name: len(node.args.args) for node in body if isinstance(node, ast.FunctionDef)}


def keywords(node):
    """The parameters of a function behind a star, with their default values."""
    names = [part.arg for part in node.args.kwonlyargs]
    return dict(zip(names, [ast.literal_eval(value) for value in node.args.kw_defaults]))


class InterfaceTest(unittest.TestCase):
    def test_functions(self):
        for module, wanted in FUNCTIONS.items():
            found = arities(body_of(module))
            for name, many in wanted.items():
                self.assertEqual(found.get(name), many, f"{module}.{name}")

    def test_classes_and_their_methods(self):
        for module, wanted in CLASSES.items():
            found = {node.name: node.body for node in body_of(module) if isinstance(node, ast.ClassDef)}
            for name, methods in wanted.items():
                self.assertIn(name, found, module)
                defined = arities(found[name])
                for method, many in methods.items():
                    self.assertEqual(defined.get(method), many, f"{module}.{name}.{method}")

    def test_parameters_behind_a_star(self):
        for module in FUNCTIONS:
            wanted = KEYWORDS.get(module, {})
            for node in body_of(module):
                if isinstance(node, ast.FunctionDef):
                    self.assertEqual(keywords(node), wanted.get(node.name, {}), f"{module}.{node.name}")
                    self.assertEqual(node.args.defaults, [])
