"""Every example of the document, with its answer."""

import doctest
import importlib
import os
import unittest

from handlepairs import errors
from tests.test_interface import CLASSES, FUNCTIONS

EXAMPLES = os.path.join(os.path.dirname(__file__), "examples.txt")
README = os.path.join(os.path.dirname(os.path.dirname(os.path.abspath(__file__))), "README.md")


def read_examples():
    """Triples (line number, source, answer or None)."""
    found = []
    with open(EXAMPLES, encoding="ascii") as file:
        for at, line in enumerate(file.read().splitlines(), 1):
            if line.startswith(">>> "):
                found.append([at, line[4:], None])
            elif line:
                found[-1][2] = line
    return found


def names_of_package():
    names = {}
    for told in (FUNCTIONS, CLASSES):
        for module_name, own in told.items():
            module = importlib.import_module("handlepairs." + module_name)
            names.update({name: getattr(module, name) for name in own})
    return names


class ExamplesTest(unittest.TestCase):
    def test_there_are_all_of_the_document(self):
        told = read_examples()
        self.assertEqual(len(told), 194)
        self.assertEqual(sum(1 for _, _, answer in told if answer and answer.startswith("raises ")), 45)

    def test_each_has_its_answer(self):
        names = names_of_package()
        for at, source, answer in read_examples():
            with self.subTest(line=at, source=source):
                if answer is None:
                    exec(source, names)
                elif answer.startswith("raises "):
                    self.check_raised(source, answer[len("raises "):], names)
                else:
                    # By repr: a list is not a tuple here, and True is not 1.
                    self.assertEqual(repr(eval(source, names)), repr(eval(answer, {})))

    def check_raised(self, source, answer, names):
        wanted = eval(answer, dict(vars(errors)))
        with self.assertRaises(type(wanted)) as caught:
            eval(source, names)
        self.assertIs(type(caught.exception), type(wanted))
        self.assertEqual(vars(caught.exception), vars(wanted))

    def test_those_of_the_readme(self):
        failed, tried = doctest.testfile(README, module_relative=False)
        self.assertEqual(failed, 0)
        self.assertGreater(tried, 4)


if __name__ == "__main__":
    unittest.main()
