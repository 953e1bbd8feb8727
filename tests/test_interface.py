"""The names of the interface, their parameters, and that each one is defined in its own file."""

import ast
import importlib
import inspect
import pathlib
import unittest

PACKAGE = pathlib.Path(__file__).parent.parent / "bendsigns"

FUNCTIONS = {
    "checks": {
        "is_integer": ["value"], "is_within": ["value", "least", "most"], "is_place": ["value"],
        "are_integers": ["value"], "is_word": ["value"], "is_name": ["value"], "rest": ["number", "by"],
        "common_divisor": ["values"], "whole_root": ["number"],
    },
    "papers": {"fixed": ["value"]},
    "words": {"is_running": ["word"], "is_rising": ["four", "word"]},
    "leasts": {
        "least": ["four"], "rim": ["four"], "least_bends": ["four"], "alike": ["one", "other"],
        "shows_least": ["four", "value"],
    },
    "leastforms": {
        "least_form": ["form"], "alike_forms": ["one", "other"], "shows_least_form": ["form", "value"],
        "shows_alike_forms": ["one", "other", "value"],
    },
    "around": {"form_at": ["four", "place"], "four_from": ["form", "is_rim"]},
    "touching": {
        "touching": ["four", "place", "most"], "word_to": ["four", "place", "x", "y"],
        "touches": ["four", "place", "number"],
    },
    "check_touching": {"shows_touches": ["four", "place", "number", "value"]},
    "rims": {"least_forms": ["side"], "rim_fours": ["rim"], "is_own_mirror": ["four"]},
    "counts": {
        "prime_powers": ["number"], "many_least_forms": ["side"], "many_own_mirrors": ["rim"],
        "many_rim_fours": ["rim"], "many_touching": ["four", "place", "number"],
    },
    "check_rims": {"shows_least_forms": ["side", "value"], "shows_rim_fours": ["rim", "value"]},
    "turned": {"turned": ["four", "place"], "turned_out": ["four", "bend"]},
    "pedigrees": {"pedigree": ["four"], "built": ["base", "steps"], "shows_pedigree": ["four", "value"]},
    "kinds": {"kind_of": ["four"]},
    "rests": {
        "fours_by": ["four", "modulus"], "rests": ["four", "modulus"], "many_fours": ["modulus"],
        "met": ["four", "modulus", "row"],
    },
    "check_rests": {"shows_met": ["four", "modulus", "row", "value"]},
    "symbols": {"symbol": ["number", "by"], "steps_of": ["number", "by"]},
    "fans": {"fan": ["four", "place", "other"], "between": ["four", "place", "other"]},
    "signs": {
        "pair_sign": ["one", "other"], "sign": ["four"], "turn_sign": ["bend"], "pedigree_sign": ["four"],
    },
    "check_signs": {
        "shows_steps": ["number", "by", "value"], "shows_between": ["four", "place", "other", "value"],
        "shows_sign": ["four", "value"],
    },
    "lists": {"circles": ["four", "most"]},
    "families": {
        "need": ["kind", "k"], "family_of": ["number"], "families": ["four"], "first_member": ["four", "k", "most"],
    },
    "fourthsymbols": {
        "fourth_symbol": ["number", "by"], "fourth_steps": ["number", "by"],
        "shows_fourth_steps": ["number", "by", "value"],
    },
    "leads": {"lead": ["four", "place", "other"]},
    "fourthsigns": {"fourth_sign": ["four"], "fourth_turn": ["bend"]},
    "fourthfamilies": {
        "fourth_need": ["kind", "k"], "fourth_family_of": ["number"], "fourth_families": ["four"],
    },
    "check_fourthsigns": {"shows_fourth_sign": ["four", "value"]},
    "products": {
        "idle_form": ["side"], "product": ["one", "other"], "contrary": ["form"], "power": ["form", "times"],
        "order": ["form"], "gasket_product": ["one", "other"],
    },
    "localsigns": {"local_signs": ["form"], "sign_by_rim": ["four"]},
    "squares": {"square_root_of": ["form"], "shows_root": ["form", "value"]},
    "verdicts": {"verdict": ["four", "number"], "barred": ["four", "number"]},
    "check_verdicts": {"shows_verdict": ["four", "number", "value"]},
    "desk_lines": {"read_line": ["line"]},
    "desk_deeds": {"changed": ["shelf", "line"]},
    "desk_asks": {"answer_of": ["shelf", "line"]},
    "stories": {"replay": ["lines"], "parting": ["one", "other"]},
}

CLASSES = {
    "errors": {
        "BendError": {}, "BadNumber": {"__init__": ["part"]}, "BadFour": {"__init__": ["part"]},
        "BadWord": {"__init__": ["part"]}, "BadForm": {"__init__": ["part"]}, "BadKind": {"__init__": ["part"]},
        "BadPair": {"__init__": ["part"]}, "BadPaper": {"__init__": ["part"]}, "BadDesk": {"__init__": ["part"]},
        "Misfit": {"__init__": ["part"]}, "Missing": {"__init__": ["value"]}, "NoPlace": {"__init__": ["value"]},
        "NoName": {"__init__": ["value"]}, "Twice": {"__init__": ["value"]}, "Impossible": {"__init__": ["paper"]},
        "TooMany": {"__init__": ["what", "most"]}, "Flat": {}, "Nothing": {},
        "BadText": {"__init__": ["line", "item"]}, "BadLine": {"__init__": ["line", "error"]},
    },
    "papers": {
        "Paper": {"__init__": ["word", "parts"], "__eq__": ["other"], "__bool__": []},
        "Denial": {"__init__": ["word", "parts"], "__eq__": ["other"], "__bool__": []},
    },
    "fours": {
        "Four": {
            "__init__": ["bends"], "__eq__": ["other"], "__str__": [], "read": ["text"], "exchanged": ["place"],
            "after": ["word"], "in_order": ["places"],
        },
    },
    "leasts": {
        "Least": {"__init__": ["four", "letters"]}, "Alike": {"__init__": ["places"]},
        "Unlike": {"__init__": ["bends", "other_bends"]},
    },
    "forms": {
        "Form": {
            "__init__": ["first", "half", "last"], "__eq__": ["other"], "__str__": [], "read": ["text"],
            "worth": ["x", "y"], "changed": ["p", "q", "r", "s"], "mirrored": [],
        },
    },
    "leastforms": {
        "LeastForm": {"__init__": ["form", "change"]}, "AlikeForms": {"__init__": ["change"]},
        "UnlikeForms": {"__init__": ["form", "other_form"]},
    },
    "touching": {
        "Way": {"__init__": ["letters", "at"]}, "Touching": {"__init__": ["x", "y"]},
        "Untouched": {"__init__": ["forms"]},
    },
    "pedigrees": {"Pedigree": {"__init__": ["rims", "base", "steps"]}},
    "kinds": {"Kind": {"__init__": ["odd", "third"], "__eq__": ["other"], "__str__": [], "read": ["text"]}},
    "rests": {"Met": {"__init__": ["letters"]}, "Unmet": {"__init__": ["by"]}},
    "symbols": {"Steps": {"__init__": ["rows", "value"]}},
    "fans": {"Between": {"__init__": ["letters", "at"]}},
    "signs": {"Sign": {"__init__": ["value", "letters", "place", "at"]}},
    "pairs": {
        "Pair": {
            "__init__": ["one", "other"], "__eq__": ["other"], "__add__": ["other"], "__sub__": ["other"],
            "__mul__": ["other"], "__neg__": [], "__str__": [], "read": ["text"], "flipped": [], "times_i": ["power"],
            "is_primary": [], "divided": ["by"], "common": ["other"], "odd_part": [], "primary": [],
        },
    },
    "fourthsymbols": {"FourthSteps": {"__init__": ["rows", "value"]}},
    "fourthsigns": {"FourthSign": {"__init__": ["value", "letters", "place", "at"]}},
    "squares": {"RootOf": {"__init__": ["form"]}, "NoRoot": {"__init__": ["by"]}},
    "verdicts": {
        "Comes": {"__init__": ["letters", "place"]}, "ByRest": {"__init__": ["rest"]},
        "BySign": {"__init__": ["k", "root"]}, "ByFourth": {"__init__": ["k", "root"]},
        "ByList": {"__init__": ["many"]},
    },
    "shelves": {"Shelf": {"__init__": ["fours"], "__eq__": ["other"], "kept": ["name"]}},
    "desk": {
        "Desk": {
            "__init__": [], "__call__": ["line"], "__len__": [], "__contains__": ["x"], "__eq__": ["other"],
            "told": ["lines"], "tried": ["lines"], "undo": [], "redo": [], "twin": [],
        },
    },
}


def defined(name):
    """The functions and classes that a file defines, by their names."""
    tree = ast.parse((PACKAGE / f"{name}.py").read_text())
    return {node.name: node for node in tree.body if isinstance(node, (ast.FunctionDef, ast.ClassDef))}


class Interface(unittest.TestCase):
    """Each name of the interface."""

    def test_functions(self):
        for name, functions in FUNCTIONS.items():
            module = importlib.import_module(f"bendsigns.{name}")
            for function, wanted in functions.items():
                self.assertIsInstance(defined(name).get(function), ast.FunctionDef, (name, function))
                told = inspect.signature(getattr(module, function)).parameters
                self.assertEqual(list(told), wanted, (name, function))
                self.assertTrue(all(each.default is each.empty for each in told.values()))

    def test_classes(self):
        for name, classes in CLASSES.items():
            module = importlib.import_module(f"bendsigns.{name}")
            for made, methods in classes.items():
                self.assertIsInstance(defined(name).get(made), ast.ClassDef, (name, made))
                own = vars(getattr(module, made))
                for method, wanted in methods.items():
                    self.assertIn(method, own, (name, made))
                    told = list(inspect.signature(getattr(getattr(module, made), method)).parameters)
                    self.assertEqual([each for each in told if each != "self"], wanted, (name, made, method))

    def test_package(self):
        self.assertEqual(defined("__init__"), {})
        importlib.import_module("bendsigns")


if __name__ == "__main__":
    unittest.main()
