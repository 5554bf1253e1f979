"""The interface: each name stands in its file, with its parameters, each method in its class."""

import importlib
import inspect
import unittest

FUNCTIONS = {
    "basics": {"is_integer": ["value"], "is_count": ["value"]},
    "ratios": {"is_number": ["value"]},
    "polys": {
        "is_poly": ["value"], "told": ["poly"], "degree": ["poly"], "plus": ["poly", "other"], "minus": ["poly", "other"],
        "scaled": ["poly", "number"], "derived": ["poly"], "times": ["poly", "other"], "put_in": ["poly", "other"],
        "worth": ["poly", "number"], "divided": ["poly", "other"],
    },
    "parts": {
        "common": ["poly", "other"], "shares": ["poly", "other"], "is_shares": ["poly", "other", "value"], "has_square": ["poly"],
    },
    "solved": {
        "steps": ["rows"], "kernel": ["rows", "wide"], "solution": ["rows", "goals"], "is_solution": ["rows", "goals", "value"],
    },
    "primes": {"is_prime": ["value"], "serves": ["poly", "prime"], "piece_degrees": ["poly", "prime"]},
    "factors": {"factors": ["poly"], "is_whole": ["poly"], "roots": ["poly"]},
    "dividers": {"dividers": ["poly", "many"], "is_divider": ["poly", "value"]},
    "fractions": {"letter": [], "put": ["fraction", "other"], "slope": ["fraction"]},
    "places": {"is_place": ["value"], "told_place": ["place"], "worth": ["fraction", "place"]},
    "moves": {
        "is_move": ["value"], "move_by": ["places", "goals"], "undone": ["move"], "fixed_places": ["move"],
        "power": ["move", "many"], "order": ["move"],
    },
    "forms": {
        "is_form": ["value"], "told_form": ["form"], "are_like": ["form", "other"], "product": ["form", "other"],
        "divides": ["form", "other"], "rest_form": ["form", "other"], "common_form": ["form", "other"], "places_of": ["form"],
    },
    "twins": {
        "part": ["fraction", "place"], "taken": ["fraction", "place"], "common_part": ["fractions", "place"],
        "twins": ["fractions", "place"], "are_twins": ["fractions", "place", "second"],
    },
    "turning": {"fibre": ["fraction", "worth"], "turning": ["fraction"]},
    "outer": {
        "outer": ["fraction", "inner"], "is_inner": ["fraction", "inner"], "parting_place": ["fraction", "inner"],
        "is_parting_place": ["fraction", "inner", "value"],
    },
    "classes": {"class_of": ["fraction"], "same_class": ["fraction", "other"], "move_between": ["fraction", "other"]},
    "halves": {"inner_ones": ["fraction", "many"], "all_inner": ["fraction"], "is_whole_fraction": ["fraction"]},
    "ones": {
        "the_one": ["fractions"], "outers": ["fractions"], "tells_letter": ["fractions"],
        "is_the_one": ["fractions", "fraction"], "lone_place": ["fractions"], "is_lone_place": ["fractions", "value"],
    },
    "made": {
        "is_made": ["fractions", "fraction"], "made_steps": ["fractions", "fraction"],
        "is_made_steps": ["fractions", "fraction", "value"], "is_finer": ["fractions", "others"],
    },
    "kept": {"kept_apart": ["fractions", "fraction"], "is_kept_apart": ["fractions", "fraction", "value"]},
    "lattices": {"joined": ["fraction", "other"], "met": ["fraction", "inner", "other"], "chains": ["fraction"]},
    "own": {
        "own_moves": ["fraction"], "is_own_move": ["fraction", "value"], "is_round": ["fraction"],
        "inside_move": ["fraction", "other"],
    },
    "groups": {"grown": ["moves"], "is_group": ["moves"], "one_of_group": ["moves"]},
    "equations": {
        "equation": ["curve"], "is_on": ["curve", "point"], "places_at": ["curve", "point"], "letter_back": ["curve"],
        "is_letter_back": ["curve", "value"],
    },
    "doubles": {
        "double_form": ["curve"], "same_curve": ["curve", "other"], "is_same_move": ["curve", "other", "value"],
        "other_place": ["curve", "other"], "is_other_place": ["curve", "other", "value"],
    },
    "texts": {"sorts": [], "is_of_sort": ["sort", "value"], "written": ["sort", "value"]},
    "readers": {"read": ["text"]},
    "claims": {
        "words": [], "is_claim": ["value"], "is_true": ["claim"], "contrary": ["claim"], "paper_of": ["claim"],
        "is_paper_of": ["claim", "value"],
    },
    "commands": {"is_name": ["value"], "is_command": ["value"], "is_deed": ["value"]},
    "desk": {"tried": ["desk", "action"]},
}
# Of each class its parameters, and of each method its parameters; None marks a property.
CLASSES = {
    ("ratios", "Ratio"): (["top", "bottom"], {
        "top": None, "bottom": None, "sign": None, "is_whole": None, "__add__": ["other"], "__radd__": ["other"],
        "__sub__": ["other"], "__rsub__": ["other"], "__mul__": ["other"], "__rmul__": ["other"], "__neg__": [],
        "over": ["other"], "size": [], "is_below": ["other"], "is_at_most": ["other"], "__eq__": ["other"],
        "total": ["numbers"], "__str__": [], "__repr__": [],
    }),
    ("fractions", "Fraction"): (["top", "bottom"], {
        "degree": None, "is_full": None, "is_move": None, "upper": [], "lower": [], "__add__": ["other"], "__radd__": ["other"],
        "__sub__": ["other"], "__rsub__": ["other"], "__mul__": ["other"], "__rmul__": ["other"], "__neg__": [],
        "over": ["other"], "__eq__": ["other"], "__repr__": [],
    }),
    ("curves", "Curve"): (["first", "second"], {
        "first": [], "second": [], "point": ["place"], "plain": [], "passes": [], "__eq__": ["other"], "__repr__": [],
    }),
    ("desk", "Desk"): ([], {
        "names": None, "labels": None, "__len__": [], "__getitem__": ["at"], "__contains__": ["x"], "__call__": ["command"],
        "claim_of": ["label"], "do": ["command"], "do_all": ["commands"], "attempt": ["commands"], "attach": ["label", "paper"],
        "fits": ["label"], "lines": [], "copy": [], "again": ["lines"],
    }),
    ("desk", "Trial"): (["desk"], {"__enter__": [], "__exit__": ["kind", "value", "trace"]}),
}


def module_of(name):
    return importlib.import_module("innerfractions." + name)


class Interface(unittest.TestCase):
    def test_functions(self):
        for file, functions in FUNCTIONS.items():
            for name, parameters in functions.items():
                function = getattr(module_of(file), name)
                self.assertTrue(inspect.isfunction(function), name)
                self.assertEqual(function.__module__, "innerfractions." + file)
                self.assertEqual(list(inspect.signature(function).parameters), parameters)

    def test_classes(self):
        for (file, name), (parameters, methods) in CLASSES.items():
            held = getattr(module_of(file), name)
            self.assertEqual(held.__module__, "innerfractions." + file)
            self.assertEqual(list(inspect.signature(held).parameters), parameters)
            for method, own in methods.items():
                self.assertIn(method, vars(held))
                if own is None:
                    self.assertIsInstance(vars(held)[method], property)
                else:
                    told = [one for one in inspect.signature(getattr(held, method)).parameters if one != "self"]
                    self.assertEqual(told, own, method)

    def test_class_methods(self):
        self.assertIsInstance(vars(module_of("ratios").Ratio)["total"], classmethod)
        self.assertIsInstance(vars(module_of("desk").Desk)["again"], classmethod)


if __name__ == "__main__":
    unittest.main()
