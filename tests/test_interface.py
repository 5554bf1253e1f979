"""The interface: each name stands in its file, with its parameters, each method in its class."""

import importlib
import inspect
import unittest

FUNCTIONS = {
    "basics": {"is_integer": ["value"], "is_count": ["value"]},
    "ratios": {"is_number": ["value"]},
    "polys": {
        "is_poly": ["value"], "told": ["poly"], "degree": ["poly"], "plus": ["poly", "other"], "minus": ["poly", "other"],
        "scaled": ["poly", "number"], "derived": ["poly"], "times": ["poly", "other"], "put_in": ["poly", "other"],
        "worth": ["poly", "number"], "divided": ["poly", "other"],
    },
    "parts": {
        "common": ["poly", "other"], "shares": ["poly", "other"], "is_shares": ["poly", "other", "value"], "has_square": ["poly"],
    },
    "solved": {
        "steps": ["rows"], "kernel": ["rows", "wide"], "solution": ["rows", "goals"], "is_solution": ["rows", "goals", "value"],
    },
    "primes": {"is_prime": ["value"], "serves": ["poly", "prime"], "piece_degrees": ["poly", "prime"]},
    "factors": {"factors": ["poly"], "is_whole": ["poly"], "roots": ["poly"]},
    "dividers": {"dividers": ["poly", "many"], "is_divider": ["poly", "value"]},
    "fractions": {"letter": [], "put": ["fraction", "other"], "slope": ["fraction"]},
}
# Of each class its parameters, and of each method its parameters; None marks a property.
CLASSES = {
    ("ratios", "Ratio"): (["top", "bottom"], {
        "top": None, "bottom": None, "sign": None, "is_whole": None, "__add__": ["other"], "__radd__": ["other"],
        "__sub__": ["other"], "__rsub__": ["other"], "__mul__": ["other"], "__rmul__": ["other"], "__neg__": [],
        "over": ["other"], "size": [], "is_below": ["other"], "is_at_most": ["other"], "__eq__": ["other"],
        "total": ["numbers"], "__str__": [], "__repr__": [],
    }),
    ("fractions", "Fraction"): (["top", "bottom"], {
        "degree": None, "is_full": None, "is_move": None, "upper": [], "lower": [], "__add__": ["other"], "__radd__": ["other"],
        "__sub__": ["other"], "__rsub__": ["other"], "__mul__": ["other"], "__rmul__": ["other"], "__neg__": [],
        "over": ["other"], "__eq__": ["other"], "__repr__": [],
    }),
}


def module_of(name):
    return importlib.import_module("innerfractions." + name)


class Interface(unittest.TestCase):
    def test_functions(self):
        for file, functions in FUNCTIONS.items():
            for name, parameters in functions.items():
                function = getattr(module_of(file), name)
                self.assertTrue(inspect.isfunction(function), name)
                self.assertEqual(function.__module__, "innerfractions." + file)
                self.assertEqual(list(inspect.signature(function).parameters), parameters)

    def test_classes(self):
        for (file, name), (parameters, methods) in CLASSES.items():
            held = getattr(module_of(file), name)
            self.assertEqual(held.__module__, "innerfractions." + file)
            self.assertEqual(list(inspect.signature(held).parameters), parameters)
            for method, own in methods.items():
                self.assertIn(method, vars(held))
                if own is None:
                    self.assertIsInstance(vars(held)[method], property)
                else:
                    told = [one for one in inspect.signature(getattr(held, method)).parameters if one != "self"]
                    self.assertEqual(told, own, method)

    def test_class_method(self):
        self.assertIsInstance(vars(module_of("ratios").Ratio)["total"], classmethod)


if __name__ == "__main__":
    unittest.main()
