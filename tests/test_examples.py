"""Every example of the document's sections that have landed, with its answer."""

import os
import unittest

from handlepairs import corners, errors, signs, skins

EXAMPLES = os.path.join(os.path.dirname(__file__), "examples.txt")


def read_examples():
    """Triples (line number, source, answer or None)."""
    found = []
    with open(EXAMPLES, encoding="ascii") as file:
        for at, line in enumerate(file.read().splitlines(), 1):
            if line.startswith(">>> "):
                found.append([at, line[4:], None])
            elif line:
                found[-1][2] = line
    return found


def names_of_package():
    names = {}
    for module in (signs, skins, corners):
        names.update({name: value for name, value in vars(module).items() if not name.startswith("_")})
    return names


class ExamplesTest(unittest.TestCase):
    def test_there_are_all_of_sections_3_to_5(self):
        told = read_examples()
        self.assertEqual(len(told), 23)
        self.assertEqual(sum(1 for _, _, answer in told if answer and answer.startswith("raises ")), 8)

    def test_each_has_its_answer(self):
        names = names_of_package()
        for at, source, answer in read_examples():
            with self.subTest(line=at, source=source):
                if answer is None:
                    exec(source, names)
                elif answer.startswith("raises "):
                    self.check_raised(source, answer[len("raises "):], names)
                else:
                    # By repr: a list is not a tuple here, and True is not 1.
                    self.assertEqual(repr(eval(source, names)), repr(eval(answer, {})))

    def check_raised(self, source, answer, names):
        wanted = eval(answer, dict(vars(errors)))
        with self.assertRaises(type(wanted)) as caught:
            eval(source, names)
        self.assertIs(type(caught.exception), type(wanted))
        self.assertEqual(vars(caught.exception), vars(wanted))


if __name__ == "__main__":
    unittest.main()
