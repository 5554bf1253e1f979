"""The examples of the interface, word for word, in the sequence in which it tells them."""

import doctest
import os
import unittest

FOLDER = os.path.join(os.path.dirname(os.path.abspath(__file__)), "examples")
# Names stand for what they were in the last example that gave them: so one dict serves all.
SEQUENCE = [
    "ratios", "polys", "parts", "solved", "primes", "factors", "dividers", "fractions", "places", "moves", "forms",
    "twins",
    "turning", "outer", "classes", "halves", "ones", "made", "kept", "lattices", "own", "groups", "curves", "equations",
    "doubles", "texts", "readers", "claims", "commands", "desk",
]


class Examples(unittest.TestCase):
    def test_all_files_are_run(self):
        self.assertEqual(sorted(SEQUENCE), sorted(name[:-4] for name in os.listdir(FOLDER)))

    def test_examples(self):
        kept, parser = {}, doctest.DocTestParser()
        for name in SEQUENCE:
            with open(os.path.join(FOLDER, name + ".txt"), encoding="ascii") as file:
                text = file.read()
            with self.subTest(name=name):
                case = parser.get_doctest(text, kept, name, name, 0)
                told = []
                done = doctest.DocTestRunner(verbose=False).run(case, out=told.append, clear_globs=False)
                self.assertGreater(done.attempted, 1)
                self.assertEqual(done.failed, 0, "".join(told))
                kept = case.globs


if __name__ == "__main__":
    unittest.main()
