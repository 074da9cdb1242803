import importlib
import inspect
import unittest

# The functions of the interface, by their modules, with their arguments.
FUNCTIONS = {
    "words": {
        "is_name": "value", "is_integer": "value", "is_number": "value", "is_fraction": "value",
        "step_points": "word", "claim_points": "word",
    },
    "sheets": {"check_sheet": "value", "part_named": "sheet name", "names_of": "sheet word"},
    "layouts": {
        "size_of": "sheet", "figure_of": "sheet", "places_of": "sheet", "place_named": "sheet name",
        "claim_laid": "sheet name",
    },
    "lexemes": {"lexemes": "text"},
    "sheettexts": {
        "sheet_text": "sheet", "claim_text": "claim", "fractions_text": "numbers", "read_claim": "text",
        "read_fractions": "text", "read_sheet": "text",
    },
    "fractions": {
        "fraction": "a b", "plus": "x y", "minus": "x y", "times": "x y", "over": "x y", "less": "x y",
    },
    "figures": {
        "check_figure": "value", "check_position": "figure value", "check_claim": "figure value",
        "parameters_of": "figure", "named": "step",
    },
    "building": {"made": "figure position", "built": "figure position", "holds": "places claim"},
    "moves": {
        "moved_place": "move place", "moved_position": "figure move position", "moved_figure": "figure move",
    },
    "polynomials": {
        "check_polynomial": "m value", "constant": "m n", "unknown": "m k", "poly_sum": "p q",
        "poly_less": "p q", "poly_times": "p q", "poly_power": "m p n", "poly_by": "p n",
        "value_at": "p place", "whole_value": "p place", "degrees_of": "m p", "height_of": "p",
    },
    "putting": {
        "put_in": "p k n", "put_all": "m p others", "first_place": "m p", "is_nought_on": "m p limits",
    },
    "quotients": {
        "divisor_of": "p", "least_form": "p", "quotient": "p q", "rest_paper": "p q",
        "judge_rest": "m p q value",
    },
    "tables": {
        "table_of": "p limits", "from_table": "limits table", "strides": "limits", "packed": "p limits b",
        "unpacked": "number limits b",
    },
    "table": {
        "point_degrees": "figure", "point_heights": "figure", "claim_degree": "figure claim",
        "claim_height": "figure claim", "terms": "degree",
    },
    "coordinates": {
        "point_triples": "figure", "triple_of": "figure point", "claim_polynomials": "figure claim",
    },
    "settling": {
        "grid": "figure claims", "settle": "figure claim", "least_position": "figure claim",
        "always": "figure claims", "common_position": "figure claims",
    },
    "answers": {"judge_answer": "figure claim value", "judge_common": "figure claims value"},
    "reaches": {
        "reach_of": "figure claims", "joined": "one other", "is_within": "one other", "size_of": "reach",
    },
    "witnesses": {
        "witness": "reach", "triples_at": "figure numbers", "holds_at": "triples claim", "settled": "figure claim",
        "all_settled": "figure claims",
    },
    "fixing": {"can_fix": "figure", "fixed": "figure"},
    "books": {
        "list_claims": "figure", "list_reach": "figure", "book": "figure", "shows": "told claim",
        "news": "figure k", "book_claims": "told",
    },
    "leavings": {
        "check_leaving": "figure value", "under": "figure leaving", "blocked": "figure leaving", "slope": "p k",
        "spread": "figure leaving point u v",
    },
    "paths": {
        "kind_of": "figure leaving point", "kinds": "figure leaving", "path_numbers": "figure leaving point",
        "path_paper": "figure leaving point", "judge_path": "figure leaving point value",
    },
    "twofigures": {
        "pair_grid": "one other pairs", "settle_pair": "one other a b", "judge_pair": "one other a b value",
        "agreements": "one other", "are_alike": "one other", "parting": "one other",
        "judge_parting": "one other value",
    },
    "shortening": {"twins": "figure", "shortened": "figure"},
    "menus": {
        "menu": "points", "lengthened": "figure steps", "makes": "figure known z steps", "fewest": "figure known z",
        "shortest": "figure known z",
    },
}

# The classes, by their modules, with the arguments of each method behind the object.
CLASSES = {
    ("desk", "Desk"): {
        "__init__": "", "sheet": "", "act_word": "act", "do": "act", "undo": "", "redo": "", "acts": "",
        "answer": "claim", "holds_at": "claim position", "where": "point position", "always": "", "work": "",
        "mark": "name", "since": "name", "marks": "", "twin": "",
    },
    ("console", "Console"): {"__init__": "desk", "answer": "line"},
}


class InterfaceTest(unittest.TestCase):
    def test_each_function_stands_in_its_module(self):
        for module, functions in FUNCTIONS.items():
            there = importlib.import_module("figureclaims." + module)
            for name, arguments in functions.items():
                function = getattr(there, name)
                self.assertEqual(function.__module__, there.__name__, name)
                self.assertEqual(list(inspect.signature(function).parameters), arguments.split(), name)

    def test_each_method_stands_in_its_class(self):
        for (module, name), methods in CLASSES.items():
            there = importlib.import_module("figureclaims." + module)
            made = getattr(there, name)
            self.assertEqual(made.__module__, there.__name__)
            for method, arguments in methods.items():
                self.assertIn(method, vars(made))
                parameters = list(inspect.signature(vars(made)[method]).parameters)
                self.assertEqual(parameters[1:], arguments.split(), method)
