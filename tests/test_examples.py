"""Every example of the document, as it stands there, in examples.txt."""

import importlib
import pathlib
import unittest

from bendsigns import errors
from tests.helps import kept

HERE = pathlib.Path(__file__).parent


def sections():
    """The pairs of a file's name and its examples, each one a pair of what is told and what comes."""
    for section in (HERE / "examples.txt").read_text().split("## ")[1:]:
        name, *rows = section.rstrip("\n").split("\n")
        told = []
        for row in rows:
            if row.startswith(">>> "):
                told.append((row[4:], None))
            else:
                told[-1] = (told[-1][0], row)
        yield name, told


class Examples(unittest.TestCase):
    """One namespace for all sections, as examples use names as earlier examples made them last."""

    def run_one(self, names, code, wanted):
        """Run one example and compare what comes of it."""
        if wanted is None:
            exec(code, names)
        elif wanted.startswith("raises "):
            expected = eval(wanted[7:], names)
            with self.assertRaises(type(expected)) as caught:
                eval(code, names)
            self.assertIs(type(caught.exception), type(expected))
            self.assertEqual(kept(caught.exception), kept(expected))
        else:
            self.assertEqual(repr(eval(code, names)), wanted)

    def test_every_example(self):
        names = dict(vars(errors))
        many = 0
        for name, told in sections():
            module = importlib.import_module(name[:-3].replace("/", "."))
            names.update({key: value for key, value in vars(module).items() if not key.startswith("_")})
            for code, wanted in told:
                with self.subTest(name=name, code=code):
                    self.run_one(names, code, wanted)
                many += 1
        self.assertGreater(many, 0)


if __name__ == "__main__":
    unittest.main()
