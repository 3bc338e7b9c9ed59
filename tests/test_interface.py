import inspect
import unittest

from blankform.alike import alike
from blankform.filling import filled, joined
from blankform.lines import is_clash, is_ring, sound
from blankform.matching import matched
from blankform.naming import renamed, same_but_names
from blankform.notes import read, shown
from blankform.terms import blanks_of, part_at
from samples import PAIR, blank, name, thing

ARGUMENTS = [
    (part_at, ["term", "path"]),
    (blanks_of, ["term"]),
    (shown, ["term"]),
    (read, ["line"]),
    (filled, ["term", "filling"]),
    (joined, ["first", "second"]),
    (matched, ["pattern", "term"]),
    (sound, ["lines", "one", "other"]),
    (is_clash, ["lines", "number"]),
    (is_ring, ["lines", "numbers"]),
    (alike, ["one", "other"]),
    (renamed, ["term", "names"]),
    (same_but_names, ["one", "other"]),
]


class Interface(unittest.TestCase):
    def test_the_arguments_have_their_names_and_order(self):
        for function, arguments in ARGUMENTS:
            parameters = inspect.signature(function).parameters.values()
            self.assertEqual([parameter.name for parameter in parameters], arguments)
            self.assertTrue(all(parameter.default is parameter.empty for parameter in parameters))

    def test_the_arguments_may_be_told_by_name(self):
        self.assertEqual(part_at(term=PAIR, path=[1, 0]), name("oak"))
        self.assertEqual(blanks_of(term=PAIR), ["x"])
        self.assertEqual(shown(term=PAIR), "pair(?x,f(oak),-3)")
        self.assertEqual(read(line="pair(?x,f(oak),-3)"), PAIR)
        self.assertEqual(filled(term=blank("x"), filling=[("x", name("oak"))]), name("oak"))
        self.assertEqual(joined(first=[("x", blank("y"))], second=[("y", blank("x"))]), [("y", blank("x"))])
        self.assertEqual(matched(pattern=blank("x"), term=name("oak")), ("match", [("x", name("oak"))]))
        lines = [(blank("x"), thing("f", blank("x")), ("given",))]
        self.assertIs(sound(lines=lines, one=blank("x"), other=thing("f", blank("x"))), True)
        self.assertIs(is_clash(lines=lines, number=0), False)
        self.assertIs(is_ring(lines=lines, numbers=[0]), True)
        self.assertEqual(alike(one=blank("x"), other=name("oak"))[:2], ("alike", [("x", name("oak"))]))
        self.assertEqual(renamed(term=blank("x"), names=[("x", "y")]), blank("y"))
        self.assertEqual(same_but_names(one=blank("x"), other=blank("y")), [("x", "y")])
