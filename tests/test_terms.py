import itertools
import unittest

from blankform.errors import FormError, NoPart
from blankform.notes import read
from blankform.terms import blanks_of, part_at, same
from samples import (
    LETTERS, PAIR, blank, comb, count_parts, deep, long_number, long_word, name, number, thing, wide, word_of,
)

LEAVES = [number(0), number(7), number(-7), name("oak"), blank("x")]


class PartAt(unittest.TestCase):
    def assertNoPart(self, term, path):
        before = list(path)
        with self.assertRaises(NoPart) as caught:
            part_at(term, path)
        self.assertIsInstance(caught.exception, FormError)
        self.assertIsInstance(caught.exception, ValueError)
        self.assertEqual(path, before)

    def test_the_empty_path_leads_to_the_term(self):
        for term in LEAVES + [PAIR]:
            self.assertEqual(part_at(term, []), term)

    def test_one_step(self):
        self.assertEqual(part_at(PAIR, [0]), blank("x"))
        self.assertEqual(part_at(PAIR, [1]), thing("f", name("oak")))
        self.assertEqual(part_at(PAIR, [2]), number(-3))

    def test_several_steps(self):
        term = thing("f", thing("g", number(1), thing("h", name("a"), blank("b"))), thing("g", number(2)), number(3))
        self.assertEqual(part_at(PAIR, [1, 0]), name("oak"))
        self.assertEqual(part_at(term, [0, 0]), number(1))
        self.assertEqual(part_at(term, [0, 1]), thing("h", name("a"), blank("b")))
        self.assertEqual(part_at(term, [0, 1, 0]), name("a"))
        self.assertEqual(part_at(term, [0, 1, 1]), blank("b"))
        self.assertEqual(part_at(term, [1, 0]), number(2))
        self.assertEqual(part_at(term, [2]), number(3))

    def test_places_below_nought(self):
        for place in (-1, -2, -3, -4, -10 ** 30):
            self.assertNoPart(PAIR, [place])
        self.assertNoPart(PAIR, [1, -1])
        self.assertNoPart(PAIR, [-2, 0])

    def test_places_past_the_parts(self):
        for place in (3, 4, 1000, 10 ** 30, 10 ** 5000):
            self.assertNoPart(PAIR, [place])
        self.assertNoPart(PAIR, [1, 1])
        self.assertNoPart(PAIR, [3, 0])
        self.assertNoPart(thing("f", name("oak")), [1])

    def test_places_where_no_thing_stands(self):
        for leaf in LEAVES:
            for place in (0, 1, 2, -1, 50):
                self.assertNoPart(leaf, [place])
                self.assertNoPart(thing("f", leaf), [0, place])
            self.assertNoPart(leaf, [0, 0, 0])
        self.assertNoPart(PAIR, [0, 0])
        self.assertNoPart(PAIR, [2, 0])
        self.assertNoPart(PAIR, [1, 0, 0])

    def test_the_path_stays_as_it_is(self):
        path = [1, 0]
        self.assertEqual(part_at(PAIR, path), name("oak"))
        self.assertEqual(path, [1, 0])
        self.assertEqual(part_at(PAIR, path), name("oak"))

    def test_deep_terms(self):
        for depth in (200, 260):
            term = deep(depth, name("end"))
            path = [1] * depth
            self.assertEqual(part_at(term, path), name("end"))
            self.assertEqual(path, [1] * depth)
            self.assertEqual(part_at(term, path[1:] + [0]), number(0))
            self.assertNoPart(term, path + [0])
            self.assertNoPart(term, path[1:] + [3])

    def test_many_parts(self):
        term, _ = wide(12000)
        self.assertEqual(count_parts(term), 12000)
        for place, part in enumerate(term[2]):
            self.assertEqual(part_at(term, [place]), part)
            if part[0] == "thing":
                self.assertEqual(part_at(term, [place, 0]), blank(part[1]))
        self.assertNoPart(term, [len(term[2])])
        flat = ("thing", "flat", tuple(number(n) for n in range(12000)))
        self.assertEqual(part_at(flat, [11999]), number(11999))
        self.assertNoPart(flat, [12000])

    def test_long_words_and_numbers(self):
        for length in (200, 260):
            word = long_word(length)
            n = long_number(length)
            term = thing(word, number(n), number(-n), name(word), blank(word), thing(word, name(word)))
            self.assertEqual(part_at(term, [0]), ("number", n))
            self.assertEqual(part_at(term, [1]), ("number", -n))
            self.assertEqual(part_at(term, [2]), ("name", word))
            self.assertEqual(part_at(term, [3]), ("blank", word))
            self.assertEqual(part_at(term, [4, 0]), ("name", word))


class BlanksOf(unittest.TestCase):
    def test_terms_without_a_blank(self):
        for term in (number(0), number(-5), name("x"), thing("x", name("x"), number(1), thing("f", name("y")))):
            self.assertEqual(blanks_of(term), [])

    def test_a_blank_alone(self):
        for word in list(LETTERS) + ["xyz"]:
            self.assertEqual(blanks_of(blank(word)), [word])

    def test_a_blank_that_stands_twice_is_told_once(self):
        self.assertEqual(blanks_of(thing("f", blank("x"), blank("x"))), ["x"])
        term = thing("f", blank("y"), thing("g", blank("x"), blank("y")), blank("x"), blank("a"), blank("y"))
        self.assertEqual(blanks_of(term), ["y", "x", "a"])

    def test_blanks_within_things(self):
        self.assertEqual(blanks_of(PAIR), ["x"])
        self.assertEqual(blanks_of(thing("f", thing("g", thing("h", blank("u"))), thing("g", blank("v")))), ["u", "v"])

    def test_the_order_is_from_the_left_to_the_right(self):
        term = thing("f", thing("g", name("n"), thing("h", blank("z"), blank("m"))), blank("b"), thing("g", blank("a")))
        self.assertEqual(blanks_of(term), ["z", "m", "b", "a"])
        self.assertEqual(blanks_of(thing("f", blank("b"), thing("g", blank("a")), blank("c"))), ["b", "a", "c"])

    def test_names_and_things_with_the_word_of_a_blank(self):
        self.assertEqual(blanks_of(thing("x", name("x"), name("y"), blank("x"))), ["x"])
        self.assertEqual(blanks_of(thing("f", name("x"), blank("y"), name("y"), blank("x"))), ["y", "x"])
        self.assertEqual(blanks_of(thing("x", blank("y"), name("x"))), ["y"])

    def test_words_with_the_same_beginning_are_kept_apart(self):
        self.assertEqual(blanks_of(thing("f", blank("xx"), blank("x"), blank("xxx"))), ["xx", "x", "xxx"])

    def test_the_answer_is_a_new_list_each_time(self):
        for term in (PAIR, name("oak")):
            first = blanks_of(term)
            expected = list(first)
            first.append("more")
            self.assertIs(type(first), list)
            self.assertEqual(blanks_of(term), expected)

    def test_deep_terms(self):
        for depth in (200, 260):
            expected = ["end"] + [word_of(level) for level in range(depth)]
            self.assertEqual(blanks_of(deep(depth, blank("end"))), expected)

    def test_many_parts(self):
        term, _ = wide(12000)
        expected = [part[1] for part in term[2] if part[0] in ("blank", "thing")]
        self.assertEqual(len(set(expected)), len(expected))
        self.assertEqual(blanks_of(term), expected)
        words = [word_of(count) for count in range(12000)]
        self.assertEqual(blanks_of(("thing", "f", tuple(blank(word) for word in words))), words)

    def test_long_words(self):
        for length in (200, 260):
            word = long_word(length)
            other = word[:-1] + "b"
            self.assertNotEqual(word, other)
            self.assertEqual(blanks_of(thing(word, number(long_number(length)), blank(word), blank(other))), [word, other])


class Same(unittest.TestCase):
    def test_small_terms(self):
        lines = [
            "0", "1", "-1", "x", "?x", "y", "?y", "xx", "x(x)", "x(?x)", "x(0)", "y(x)", "x(x,x)", "x(x,?x)", "x(?x,x)",
            "x(x(x))", "x(x(x),x)", "x(x,x(x))", "x(x,x(x,x))", "x(x,x(x),x)", "x(x,y,x)", "x(y,x,x)", "x(x,x,y)",
        ]
        for one, other in itertools.product(lines, repeat=2):
            self.assertIs(same(read(one), read(other)), one == other, (one, other))

    def test_deep_terms(self):
        # So deep that Python's own == would fail.
        one = comb(5000, name("oak"))
        self.assertIs(same(one, comb(5000, name("oak"))), True)
        self.assertIs(same(one, comb(5000, name("ash"))), False)
        self.assertIs(same(one, comb(4999, name("oak"))), False)

    def test_many_parts(self):
        one, _ = wide(12000)
        other, _ = wide(12000)
        self.assertIs(same(one, other), True)
        self.assertIs(same(one, ("thing", "wide", other[2][:-1] + (name("end"),))), False)
        self.assertIs(same(one, ("thing", "wide", (name("end"),) + other[2][1:])), False)


class TermsStayAsTheyAre(unittest.TestCase):
    def test_a_term_is_the_same_after_each_call(self):
        def make():
            return thing("f", blank("x"), thing("g", blank("y"), name("x")), number(-1))

        term = make()
        blanks_of(term)
        part_at(term, [1, 0])
        with self.assertRaises(NoPart):
            part_at(term, [1, 2])
        self.assertEqual(term, make())
