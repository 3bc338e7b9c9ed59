import itertools
import re
import unittest

from blankform.naming import renamed, same_but_names
from blankform.notes import read, shown
from blankform.terms import blanks_of
from samples import (
    PAIR, Picker, blank, comb, deep, long_number, long_word, name, number, picked_term, thing, wide, word_of,
)

WORDS = ["x", "y", "z"]
BLANK = r"\?([a-z]+)"


def renamed_by_hand(term, names):
    """By texts: a `?` stands ahead of a blank's word alone."""
    words = dict(names)
    return re.sub(BLANK, lambda found: "?" + words.get(found[1], found[1]), shown(term))


def names_by_hand(one, other):
    """By texts too: which blank stands where which stood, if all else is the same."""
    lines = (shown(one), shown(other))
    if re.sub(BLANK, "?", lines[0]) != re.sub(BLANK, "?", lines[1]):
        return None
    pairs = set(zip(re.findall(BLANK, lines[0]), re.findall(BLANK, lines[1])))
    olds = set(old for old, _ in pairs)
    news = set(new for _, new in pairs)
    return sorted(pairs) if len(pairs) == len(olds) == len(news) else None


class Renamed(unittest.TestCase):
    def made(self, term, names):
        """What is made, once it has been seen that nothing handed in was changed."""
        before = (shown(term), list(names))
        answer = renamed(term, names)
        self.assertEqual((shown(term), names), before)
        self.assertEqual(shown(answer), renamed_by_hand(term, names))
        return answer

    def assertMade(self, line, names, expected):
        self.assertEqual(self.made(read(line), names), read(expected))

    def test_one_word(self):
        self.assertMade("?x", [("x", "y")], "?y")
        self.assertMade("f(?x,g(?x,1),?y)", [("x", "oak")], "f(?oak,g(?oak,1),?y)")
        made = self.made(PAIR, [("x", "yy")])
        self.assertEqual(made, thing("pair", blank("yy"), thing("f", name("oak")), number(-3)))

    def test_words_changed_round_all_at_once(self):
        names = [("x", "y"), ("y", "z"), ("z", "x")]
        for order in itertools.permutations(names):
            self.assertMade("f(?x,g(?y,?z),?x,?w)", list(order), "f(?y,g(?z,?x),?y,?w)")
        self.assertMade("f(?x,?y)", [("x", "y"), ("y", "x")], "f(?y,?x)")
        self.assertMade("f(?x,?y,?z)", [("x", "y"), ("y", "z")], "f(?y,?z,?z)")
        self.assertMade("?x", names, "?y")

    def test_two_old_words_with_the_same_new_one(self):
        self.assertMade("f(?x,?y,?z)", [("x", "w"), ("y", "w")], "f(?w,?w,?z)")
        self.assertMade("f(?x,?y,?z)", [("x", "z"), ("y", "z")], "f(?z,?z,?z)")
        self.assertMade("f(?x,?y)", [("y", "x")], "f(?x,?x)")

    def test_a_word_that_is_its_own_new_one(self):
        self.assertMade("f(?x,?y)", [("x", "x")], "f(?x,?y)")
        self.assertMade("f(?x,?y)", [("x", "x"), ("y", "x")], "f(?x,?x)")
        self.assertMade("f(?x,?y)", [("x", "y"), ("y", "y")], "f(?y,?y)")

    def test_an_old_word_that_is_no_blank_of_the_term(self):
        self.assertMade("f(?x,1)", [("y", "x")], "f(?x,1)")
        self.assertMade("f(?x,1)", [("f", "g"), ("xx", "y")], "f(?x,1)")
        self.assertMade("-3", [("x", "y")], "-3")

    def test_names_and_things_with_the_word_of_a_blank_stay(self):
        self.assertMade("x(x,?x,x(?x))", [("x", "y")], "x(x,?y,x(?y))")
        self.assertMade("x", [("x", "y")], "x")

    def test_the_empty_list(self):
        for line in ("0", "oak", "?x", "f(?x,x,g(?y))"):
            self.assertMade(line, [], line)

    def test_words_of_several_letters(self):
        self.assertMade("f(?x,?xx,?xy)", [("x", "xx"), ("xx", "x")], "f(?xx,?x,?xy)")

    def test_many_picked_terms(self):
        picker = Picker(11)
        for _ in range(1500):
            term = picked_term(picker, WORDS, 3)
            names = [(old, picker.one_of(WORDS + ["xx"])) for old in picker.one_of(list(itertools.permutations(WORDS)))]
            self.made(term, names[:picker.below(4)])

    def test_deep_terms(self):
        for depth in (200, 260):
            term = deep(depth, blank("x"))
            names = [(word, "v" + word) for word in blanks_of(term)]
            self.assertEqual(blanks_of(self.made(term, names)), [new for _, new in names])

    def test_many_parts(self):
        for count in (12000, 12500):
            term, _ = wide(count)
            names = [(word, "v" + word) for word in blanks_of(term)]
            self.assertEqual(blanks_of(self.made(term, names)), [new for _, new in names])

    def test_long_words(self):
        for length in (200, 260):
            word = long_word(length)
            close = word[:-1] + "b"
            term = thing(word, blank(word), name(word), number(long_number(length)), blank(close))
            made = self.made(term, [(word, close), (close, word)])
            self.assertEqual(made, thing(word, blank(close), name(word), number(long_number(length)), blank(word)))


class SameButNames(unittest.TestCase):
    def told(self, one, other):
        """What is told, once it has been seen that it shows what it says."""
        before = (shown(one), shown(other))
        names = same_but_names(one, other)
        self.assertEqual((shown(one), shown(other)), before)
        self.assertEqual(names, names_by_hand(one, other))
        if names is None:
            return None
        self.assertIs(type(names), list)
        self.assertTrue(all(type(pair) is tuple for pair in names))
        self.assertEqual([old for old, _ in names], sorted(blanks_of(one)))
        self.assertEqual(len(set(new for _, new in names)), len(names))
        self.assertEqual(shown(renamed(one, names)), shown(other))
        return names

    def assertTold(self, one, other, *expected):
        self.assertEqual(self.told(read(one), read(other)), list(expected))

    def assertNot(self, one, other):
        self.assertIsNone(self.told(read(one), read(other)), (one, other))
        self.assertIsNone(self.told(read(other), read(one)), (other, one))

    def test_pairs_in_their_order(self):
        self.assertTold("f(?x,?a,?m)", "f(?p,?q,?r)", ("a", "q"), ("m", "r"), ("x", "p"))
        self.assertTold("?x", "?y", ("x", "y"))
        self.assertTold("f(?xx,?x,?b)", "f(?c,?b,?a)", ("b", "a"), ("x", "b"), ("xx", "c"))
        self.assertTold("f(?x,g(?y,?x),1,oak)", "f(?b,g(?a,?b),1,oak)", ("x", "b"), ("y", "a"))

    def test_blanks_that_keep_their_words(self):
        self.assertTold("f(?x,?y)", "f(?x,?y)", ("x", "x"), ("y", "y"))
        self.assertTold("f(?y,?x,?z)", "f(?y,?w,?z)", ("x", "w"), ("y", "y"), ("z", "z"))
        self.assertTold("?x", "?x", ("x", "x"))

    def test_words_changed_round(self):
        self.assertTold("f(?x,?y)", "f(?y,?x)", ("x", "y"), ("y", "x"))
        self.assertTold("f(?x,?y,?z,?x)", "f(?y,?z,?x,?y)", ("x", "y"), ("y", "z"), ("z", "x"))

    def test_two_blanks_against_the_same_one(self):
        self.assertNot("f(?x,?y)", "f(?z,?z)")
        self.assertNot("f(?x,?y)", "f(?x,?x)")
        self.assertNot("f(?x,?y)", "f(?y,?y)")
        self.assertNot("f(?x,?y,g(?x))", "f(?x,?y,g(?y))")
        self.assertNot("f(?x,g(?y),?z)", "f(?y,g(?x),?x)")

    def test_other_kinds(self):
        lines = ["1", "x", "?x", "x(?x)"]
        for one, other in itertools.combinations(lines, 2):
            self.assertNot(one, other)
            self.assertNot("f(?y," + one + ")", "f(?y," + other + ")")

    def test_other_numbers_words_and_numbers_of_parts(self):
        for one, other in (
            ("1", "-1"), ("1", "11"), ("x", "y"), ("x", "xx"), ("x(?x)", "y(?x)"), ("x(?x)", "x(?x,?x)"),
            ("x(?x)", "x(?x,?y)"), ("x(x)", "x(x(x))"),
        ):
            self.assertNot(one, other)
            self.assertNot("f(?y," + one + ",?z)", "f(?z," + other + ",?y)")

    def test_terms_without_blanks(self):
        for line in ("0", "-3", "oak", "f(oak,g(1,-2))"):
            self.assertTold(line, line)
        self.assertNot("f(oak,g(1,-2))", "f(oak,g(1,2))")

    def test_names_and_things_with_the_word_of_a_blank(self):
        self.assertTold("x(x,?x)", "x(x,?y)", ("x", "y"))
        self.assertNot("x(x,?x)", "x(y,?y)")
        self.assertNot("x(x,?x)", "y(x,?y)")

    def test_many_picked_couples(self):
        picker = Picker(12)
        counts = {True: 0, False: 0}
        for _ in range(2000):
            one = picked_term(picker, WORDS, 3)
            news = picker.one_of(list(itertools.permutations(WORDS)))
            other = read(renamed_by_hand(one, zip(WORDS, news)))
            self.assertIsNotNone(self.told(one, other))
            merged = read(renamed_by_hand(one, [(word, picker.one_of(WORDS)) for word in WORDS]))
            counts[self.told(one, merged) is None] += 1
            self.told(merged, one)
            self.told(one, picked_term(picker, WORDS, 2))
        self.assertGreater(min(counts.values()), 100)

    def test_every_couple_of_small_terms(self):
        leaves = [blank("x"), blank("y"), blank("z"), name("x"), number(1)]
        rows = [parts for count in (1, 2, 3) for parts in itertools.product(leaves[:4], repeat=count)]
        terms = leaves + [thing("f", *parts) for parts in rows]
        for one, other in itertools.product(terms, repeat=2):
            self.told(one, other)

    def test_deep_terms(self):
        for depth in (200, 260):
            one = deep(depth, blank("x"))
            names = [(word, "v" + word) for word in blanks_of(one)]
            other = renamed(one, names)
            self.assertEqual(self.told(one, other), sorted(names))
            self.assertIsNone(self.told(comb(depth, blank("x")), comb(depth, name("x"))))
            self.assertEqual(self.told(comb(depth, blank("x")), comb(depth, blank("y"))), [("x", "y")])

    def test_many_parts(self):
        for count in (12000, 12500):
            one, _ = wide(count)
            names = [(word, "v" + word) for word in blanks_of(one)]
            other = renamed(one, names)
            self.assertEqual(self.told(one, other), sorted(names))
            self.assertIsNone(self.told(one, ("thing", "wide", other[2][:-1] + (name("end"),))))
            merged = [(old, "v" + word_of(6) if old == word_of(2) else new) for old, new in names]
            self.assertNotEqual(merged, names)
            self.assertIsNone(self.told(one, renamed(one, merged)))

    def test_long_words_and_numbers(self):
        for length in (200, 260):
            word = long_word(length)
            close = word[:-1] + "b"
            n = long_number(length)
            one = thing(word, blank(word), number(n), blank(close))
            names = self.told(one, thing(word, blank(close), number(n), blank(word)))
            self.assertEqual(names, sorted([(word, close), (close, word)]))
            self.assertIsNone(self.told(one, thing(word, blank(word), number(n + 1), blank(close))))
            self.assertIsNone(self.told(one, thing(close, blank(word), number(n), blank(close))))
            self.assertIsNone(self.told(one, thing(word, blank(word), number(n), blank(word))))
