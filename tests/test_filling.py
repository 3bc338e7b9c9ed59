import unittest

from blankform.filling import filled, joined
from blankform.notes import read, shown
from samples import (
    LETTERS, Picker, blank, comb, count_parts, deep, long_number, long_word, name, number, picked_filling, picked_term,
    thing, wide, word_of, written,
)

WORDS = ["x", "y", "z", "xx"]


def filling(**lines):
    """A filling from words and the lines of their terms."""
    return [(word, read(lines[word])) for word in sorted(lines)]


def filled_by_hand(term, terms):
    """What point 7 says, word by word, for small terms."""
    if term[0] == "blank" and term[1] in terms:
        return terms[term[1]]
    if term[0] == "thing":
        return ("thing", term[1], tuple(filled_by_hand(part, terms) for part in term[2]))
    return term


class Filled(unittest.TestCase):
    def assertFilled(self, line, pairs, expected):
        term = read(line)
        before = written(pairs)
        self.assertEqual(shown(filled(term, pairs)), expected)
        self.assertEqual(shown(term), line)
        self.assertEqual(written(pairs), before)

    def test_a_blank_that_stands_in_the_filling(self):
        self.assertFilled("?x", filling(x="oak"), "oak")
        self.assertFilled("?x", filling(x="-7"), "-7")
        self.assertFilled("?x", filling(x="?y"), "?y")
        self.assertFilled("?x", filling(x="f(oak,?y)"), "f(oak,?y)")
        self.assertFilled("f(?x)", filling(x="g(1)"), "f(g(1))")
        self.assertFilled("f(a,g(?x,b),c)", filling(x="oak"), "f(a,g(oak,b),c)")

    def test_a_blank_that_does_not(self):
        self.assertFilled("?x", filling(y="oak"), "?x")
        self.assertFilled("?x", filling(xx="oak"), "?x")
        self.assertFilled("?xx", filling(x="oak"), "?xx")
        self.assertFilled("f(?x,?y,?z)", filling(y="oak"), "f(?x,oak,?z)")

    def test_a_blank_that_stands_twice(self):
        self.assertFilled("f(?x,?x)", filling(x="oak"), "f(oak,oak)")
        self.assertFilled("f(?x,g(?x,?y),?x)", filling(x="h(?z)", y="2"), "f(h(?z),g(h(?z),2),h(?z))")

    def test_several_blanks_keep_their_places(self):
        self.assertFilled("f(?a,?b,g(?c,?d),?e)", filling(a="1", b="2", c="3", d="4", e="5"), "f(1,2,g(3,4),5)")
        self.assertFilled("f(g(1,2),3,g(?x,4,5))", filling(x="h(6,7)"), "f(g(1,2),3,g(h(6,7),4,5))")

    def test_blanks_are_filled_once(self):
        self.assertFilled("f(?x,?y)", filling(x="?y", y="?x"), "f(?y,?x)")
        self.assertFilled("?x", filling(x="f(?x)"), "f(?x)")
        self.assertFilled("f(?x)", filling(x="g(?x,?x)"), "f(g(?x,?x))")
        self.assertFilled("f(?x,?y,?z)", filling(x="g(?y)", y="g(?z)", z="oak"), "f(g(?y),g(?z),oak)")
        self.assertFilled("?x", filling(x="?y", y="?z", z="oak"), "?y")
        self.assertFilled("?y", filling(x="oak", y="?x"), "?x")

    def test_names_and_things_with_the_word_of_a_blank_stay(self):
        self.assertFilled("x", filling(x="oak"), "x")
        self.assertFilled("x(?x,x)", filling(x="oak"), "x(oak,x)")
        self.assertFilled("f(x,x(x),?x)", filling(x="y", y="z"), "f(x,x(x),y)")
        self.assertFilled("x(x(?y))", filling(x="f(1)", y="x(?x)"), "x(x(x(?x)))")

    def test_numbers_stay(self):
        for line in ("0", "-5", "12", "f(0,-5,12)"):
            self.assertFilled(line, filling(x="oak"), line)

    def test_the_empty_filling(self):
        for line in ("0", "oak", "?x", "f(?x,g(?y,oak),-3)"):
            self.assertFilled(line, [], line)

    def test_terms_of_the_filling_that_the_term_lacks(self):
        self.assertFilled("f(oak)", filling(x="1", y="2"), "f(oak)")

    def test_many_picked_terms(self):
        picker = Picker(7)
        for _ in range(3000):
            term = picked_term(picker, WORDS, 3)
            pairs = picked_filling(picker, WORDS, 2)
            self.assertEqual(filled(term, pairs), filled_by_hand(term, dict(pairs)))

    def test_deep_terms(self):
        for depth in (200, 260):
            self.assertEqual(filled(comb(depth, blank("x")), [("x", name("oak"))]), comb(depth, name("oak")))
            self.assertEqual(filled(comb(depth, name("x")), [("x", name("oak"))]), comb(depth, name("x")))
            self.assertEqual(filled(thing("f", blank("x")), [("x", comb(depth, blank("x")))]),
                             thing("f", comb(depth, blank("x"))))
            pairs = sorted((word_of(level), number(-level)) for level in range(depth))
            expected = name("end")
            for level in range(depth):
                expected = thing(word_of(level), number(level), expected, number(-level))
            self.assertEqual(filled(deep(depth, name("end")), pairs), expected)

    def test_many_parts(self):
        for count in (12000, 12500):
            term, line = wide(count)
            self.assertEqual(count_parts(term), count)
            self.assertEqual(shown(filled(term, [])), line)
            words = sorted(part[1] for part in term[2] if part[0] in ("blank", "thing"))
            pairs = [(word, name(word)) for word in words]
            self.assertEqual(shown(filled(term, pairs)), line.replace("?", ""))

    def test_many_parts_that_come_of_the_filling(self):
        part = ("thing", "g", tuple(number(n) for n in range(119)))
        made = filled(("thing", "f", (blank("x"),) * 100), [("x", part)])
        self.assertEqual(count_parts(made), 12000)
        self.assertEqual(made, ("thing", "f", (part,) * 100))

    def test_long_words_and_numbers(self):
        for length in (200, 260):
            word = long_word(length)
            close = word[:-1] + "b"
            n = long_number(length)
            made = filled(thing(word, blank(word), blank(close), name(word)), [(word, number(-n))])
            self.assertEqual(made, thing(word, number(-n), blank(close), name(word)))


class Joined(unittest.TestCase):
    def assertJoined(self, first, second, expected):
        before = (written(first), written(second))
        self.assertEqual(joined(first, second), expected)
        self.assertEqual((written(first), written(second)), before)

    def assertTold(self, pairs):
        """A filling as point 7 asks."""
        self.assertIs(type(pairs), list)
        self.assertTrue(all(type(pair) is tuple and len(pair) == 2 for pair in pairs))
        words = [pair[0] for pair in pairs]
        self.assertEqual(words, sorted(set(words)))
        for word, term in pairs:
            self.assertNotEqual(term, blank(word))

    def test_empty_fillings(self):
        pairs = filling(x="f(?y)", y="?x")
        self.assertJoined([], [], [])
        self.assertJoined(pairs, [], pairs)
        self.assertJoined([], pairs, pairs)

    def test_the_second_fills_the_terms_of_the_first(self):
        self.assertJoined(filling(x="f(?y,?z)"), filling(y="oak"), filling(x="f(oak,?z)", y="oak"))
        self.assertJoined(filling(x="?y"), filling(y="g(?y)"), filling(x="g(?y)", y="g(?y)"))
        self.assertJoined(filling(x="f(?x)"), filling(x="oak"), filling(x="f(oak)"))

    def test_words_of_the_second_that_the_first_does_not_have(self):
        self.assertJoined(filling(m="oak"), filling(a="1", z="2"), filling(a="1", m="oak", z="2"))
        self.assertJoined(filling(a="1", z="2"), filling(m="oak"), filling(a="1", m="oak", z="2"))

    def test_words_of_both(self):
        self.assertJoined(filling(x="oak"), filling(x="ash"), filling(x="oak"))
        self.assertJoined(filling(x="?y"), filling(x="ash"), filling(x="?y"))
        self.assertJoined(filling(x="?y", y="?x"), filling(x="1", y="2"), filling(x="2", y="1"))
        self.assertJoined(filling(x="?y", y="oak"), filling(x="1", y="2", z="3"), filling(x="2", y="oak", z="3"))

    def test_a_blank_that_would_be_filled_by_itself(self):
        self.assertJoined(filling(x="?y"), filling(y="?x"), filling(y="?x"))
        self.assertJoined(filling(x="?y", y="?x"), filling(x="?y", y="?x"), [])
        self.assertJoined(filling(x="?z", y="?z"), filling(z="?x"), filling(y="?x", z="?x"))
        # The second still fills other blanks of this word, but this one comes back as it was.
        self.assertJoined(filling(x="?y"), filling(x="oak", y="?x"), filling(y="?x"))

    def test_names_and_things_are_not_taken_for_the_blank(self):
        self.assertJoined(filling(x="?y"), filling(y="x"), filling(x="x", y="x"))
        self.assertJoined(filling(x="?y"), filling(y="x(?x)"), filling(x="x(?x)", y="x(?x)"))
        self.assertJoined(filling(x="y"), filling(y="?x"), filling(x="y", y="?x"))

    def test_the_order_is_that_of_texts(self):
        self.assertJoined(filling(b="1", xx="2"), filling(a="3", ab="4", x="5", xa="6"),
                          filling(a="3", ab="4", b="1", x="5", xa="6", xx="2"))
        words = [letter for letter in LETTERS]
        first = [(word, number(1)) for word in words[::2]]
        second = [(word, number(2)) for word in words]
        self.assertJoined(first, second, [(word, number(1 + place % 2)) for place, word in enumerate(words)])

    def test_many_picked_fillings(self):
        picker = Picker(11)
        itself = 0
        for _ in range(1500):
            first = picked_filling(picker, WORDS, 1)
            second = picked_filling(picker, WORDS, 1)
            before = (written(first), written(second))
            both = joined(first, second)
            self.assertEqual((written(first), written(second)), before)
            self.assertTold(both)
            terms = [blank(word) for word in WORDS + ["other"]] + [picked_term(picker, WORDS, 3) for _ in range(4)]
            for term in terms:
                one_by_one = filled_by_hand(filled_by_hand(term, dict(first)), dict(second))
                self.assertEqual(filled_by_hand(term, dict(both)), one_by_one)
                self.assertEqual(filled(term, both), filled(filled(term, first), second))
            itself += len(set(word for word, _ in first + second)) - len(both)
        self.assertGreater(itself, 20)

    def test_deep_terms(self):
        for depth in (200, 260):
            self.assertJoined([("x", comb(depth, blank("y")))], [("y", name("oak"))],
                              [("x", comb(depth, name("oak"))), ("y", name("oak"))])
            self.assertJoined([("x", blank("y"))], [("y", comb(depth, blank("x")))],
                              [("x", comb(depth, blank("x"))), ("y", comb(depth, blank("x")))])

    def test_many_parts_and_many_pairs(self):
        term = ("thing", "f", tuple(blank(word_of(count)) for count in range(12000)))
        words = sorted(word_of(count) for count in range(12000))
        second = [(word, name(word)) for word in words]
        made = joined([("a", term)], second)
        self.assertEqual(made[0], ("a", ("thing", "f", tuple(name(word_of(count)) for count in range(12000)))))
        self.assertEqual(made[1:], second)
        first = [(word, blank("a")) for word in words]
        self.assertJoined(first, [("a", number(5))], [("a", number(5))] + [(word, number(5)) for word in words])

    def test_long_words(self):
        for length in (200, 260):
            word = long_word(length)
            close = long_word(length - 1)
            self.assertLess(close, word)
            self.assertJoined([(word, blank(close))], [(close, number(long_number(length)))],
                              [(close, number(long_number(length))), (word, number(long_number(length)))])
