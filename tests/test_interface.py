import inspect
import unittest

from blankform.notes import read, shown
from blankform.terms import blanks_of, part_at
from samples import PAIR, name

ARGUMENTS = [
    (part_at, ["term", "path"]),
    (blanks_of, ["term"]),
    (shown, ["term"]),
    (read, ["line"]),
]


class Interface(unittest.TestCase):
    def test_the_arguments_have_their_names_and_order(self):
        for function, arguments in ARGUMENTS:
            parameters = inspect.signature(function).parameters.values()
            self.assertEqual([parameter.name for parameter in parameters], arguments)
            self.assertTrue(all(parameter.default is parameter.empty for parameter in parameters))

    def test_the_arguments_may_be_told_by_name(self):
        self.assertEqual(part_at(term=PAIR, path=[1, 0]), name("oak"))
        self.assertEqual(blanks_of(term=PAIR), ["x"])
        self.assertEqual(shown(term=PAIR), "pair(?x,f(oak),-3)")
        self.assertEqual(read(line="pair(?x,f(oak),-3)"), PAIR)
