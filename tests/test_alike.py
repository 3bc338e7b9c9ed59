import itertools
import unittest

from blankform.alike import alike
from blankform.filling import filled, joined
from blankform.lines import is_clash, is_ring, sound
from blankform.matching import matched
from blankform.naming import renamed, same_but_names
from blankform.notes import read, shown
from blankform.terms import blanks_of
from samples import (
    LETTERS, Picker, blank, comb, count_parts, long_number, long_word, name, number, picked_filling, picked_term, thing,
    word_of, written,
)

WORDS = ["x", "y", "z"]


def all_blanks(one, other):
    return sorted(set(blanks_of(one)) | set(blanks_of(other)))


def swapped(term, word, by):
    """A term with one blank filled, call within call: plain, and good for small terms alone."""
    if term[0] == "thing":
        return ("thing", term[1], tuple(swapped(part, word, by) for part in term[2]))
    return by if term == blank(word) else term


def common_by_hand(one, other):
    """What two small terms come to when the first two parts that differ are made the same, again and again."""
    while one != other:
        first, second = first_difference(one, other)
        if first[0] != "blank":
            first, second = second, first
        if first[0] != "blank" or first[1] in blanks_of(second):
            return None
        one = swapped(one, first[1], second)
        other = swapped(other, first[1], second)
    return one


def first_difference(one, other):
    if one[0] == other[0] == "thing" and one[1] == other[1] and len(one[2]) == len(other[2]):
        for pair in zip(one[2], other[2]):
            if pair[0] != pair[1]:
                return first_difference(*pair)
    return one, other


def blanked(picker, term, holes):
    """The term with blanks in the place of some of its parts; the filling that undoes it is gathered in `holes`."""
    if picker.below(3) == 0:
        known = [word for word in sorted(holes) if holes[word] == term]
        if known and picker.below(2):
            return blank(picker.one_of(known))
        free = [word for word in LETTERS[:12] if word not in holes]
        if free:
            word = picker.one_of(free)
            holes[word] = term
            return blank(word)
    if term[0] == "thing":
        return ("thing", term[1], tuple(blanked(picker, part, holes) for part in term[2]))
    return term


def doubling(words):
    """Couples of which each first one comes to twice the next word's blank; the last word stays."""
    return [(blank(word), thing("g", blank(after), blank(after))) for word, after in zip(words, words[1:])]


def couple(pairs):
    """Two things with these pairs as their parts."""
    return thing("f", *[pair[0] for pair in pairs]), thing("f", *[pair[1] for pair in pairs])


def picked_couple(picker):
    count = 1 + picker.below(3)
    return couple([(picked_term(picker, WORDS, 2), picked_term(picker, WORDS, 2)) for _ in range(count)])


class Telling(unittest.TestCase):
    """How what is told of two terms is seen to show what it says."""

    def told(self, one, other):
        before = (shown(one), shown(other))
        answer = alike(one, other)
        self.assertEqual((shown(one), shown(other)), before)
        self.assertIs(type(answer), tuple)
        checks = {"alike": self.assertAlike, "clash": self.assertClash, "ring": self.assertRing}
        checks[answer[0]](one, other, answer)
        return answer

    def assertReckoning(self, one, other, lines):
        self.assertIs(type(lines), list)
        for line in lines:
            self.assertEqual((type(line), len(line), type(line[2])), (tuple, 3, tuple))
            # `sound` is told of lines with these reasons alone, so it need not see others.
            self.assertIn((line[2][0], len(line[2])), (("given", 1), ("turn", 2), ("part", 3), ("chain", 3)))
            self.assertTrue(all(type(place) is int for place in line[2][1:]))
        self.assertIs(sound(lines, one, other), True)

    def assertAlike(self, one, other, answer):
        kind, filling, lines, numbers = answer
        self.assertEqual(kind, "alike")
        self.assertReckoning(one, other, lines)
        self.assertFilling(one, other, filling)
        self.assertIs(type(numbers), list)
        self.assertEqual(len(numbers), len(filling))
        for (word, term), place in zip(filling, numbers):
            self.assertIn(place, range(len(lines)))
            self.assertEqual(lines[place][0], blank(word))
            self.assertEqual(shown(filled(lines[place][1], filling)), shown(term))

    def assertFilling(self, one, other, filling):
        self.assertIs(type(filling), list)
        self.assertTrue(all(type(pair) is tuple and len(pair) == 2 for pair in filling))
        words = [word for word, _ in filling]
        self.assertEqual(words, sorted(set(words)))
        self.assertLessEqual(set(words), set(all_blanks(one, other)))
        for _, term in filling:
            self.assertLessEqual(set(blanks_of(term)), set(all_blanks(one, other)) - set(words))
        self.assertEqual(shown(filled(one, filling)), shown(filled(other, filling)))

    def assertClash(self, one, other, answer):
        kind, lines, place = answer
        self.assertEqual(kind, "clash")
        self.assertReckoning(one, other, lines)
        self.assertIn(place, range(len(lines)))
        self.assertIs(is_clash(lines, place), True)

    def assertRing(self, one, other, answer):
        kind, lines, numbers = answer
        self.assertEqual(kind, "ring")
        self.assertReckoning(one, other, lines)
        self.assertIs(type(numbers), list)
        self.assertTrue(all(place in range(len(lines)) for place in numbers))
        self.assertIs(is_ring(lines, numbers), True)

    def assertBest(self, one, other, best, filling):
        """Of a filling that makes the two alike: it makes the same of what the best one makes."""
        self.assertEqual(filled(one, filling), filled(other, filling))
        for term in [one, other] + [blank(word) for word in all_blanks(one, other)]:
            self.assertEqual(filled(filled(term, best), filling), filled(term, filling))

    def assertCommon(self, one_line, other_line, common_line):
        """Made alike, turned about too, and come to this term but for the words."""
        for one, other in ((read(one_line), read(other_line)), (read(other_line), read(one_line))):
            answer = self.told(one, other)
            self.assertEqual(answer[0], "alike", (one_line, other_line))
            made = filled(one, answer[1])
            self.assertIsNotNone(same_but_names(made, read(common_line)), (one_line, other_line, shown(made)))

    def assertKind(self, one_line, other_line, kind):
        self.assertEqual(self.told(read(one_line), read(other_line))[0], kind, (one_line, other_line))
        self.assertEqual(self.told(read(other_line), read(one_line))[0], kind, (other_line, one_line))


class MadeAlike(Telling):
    def assertFilledBy(self, one_line, other_line, **lines):
        expected = [(word, read(lines[word])) for word in sorted(lines)]
        self.assertEqual(self.told(read(one_line), read(other_line))[1], expected)
        self.assertEqual(self.told(read(other_line), read(one_line))[1], expected)

    def test_the_same_terms(self):
        for line in ("0", "-3", "oak", "?x", "f(?x)", "f(?x,g(?y,?x),oak,1)"):
            self.assertFilledBy(line, line)
            answer = alike(read(line), read(line))
            self.assertEqual((answer[0], answer[1], answer[3]), ("alike", [], []))

    def test_a_blank_against_each_kind(self):
        for line in ("0", "-3", "oak", "x", "f(oak)", "x(x)", "f(?y,g(?z))", "f(?y,?y)"):
            self.assertFilledBy("?x", line, x=line)
            self.assertFilledBy("f(?x,1)", "f(" + line + ",1)", x=line)

    def test_a_blank_against_another(self):
        answer = self.told(blank("x"), blank("y"))
        self.assertIn(answer[1], ([("x", blank("y"))], [("y", blank("x"))]))
        self.assertCommon("?x", "?y", "?x")
        self.assertCommon("f(?x,?y)", "f(?y,?z)", "f(?x,?x)")
        self.assertCommon("f(?x,?u)", "f(?y,?v)", "f(?x,?u)")

    def test_filled_from_both_sides(self):
        self.assertFilledBy("f(?x,oak)", "f(1,?y)", x="1", y="oak")
        self.assertCommon("f(?x,g(?z))", "f(g(?y),?x)", "f(g(?x),g(?x))")
        self.assertFilledBy("f(g(?x),h(?z,?y))", "f(g(1),h(?x,?z))", x="1", y="1", z="1")

    def test_blanks_that_go_round_without_a_thing(self):
        self.assertCommon("f(?x,?y)", "f(?y,?x)", "f(?x,?x)")
        self.assertCommon("f(?x,?y,?z)", "f(?y,?z,?x)", "f(?x,?x,?x)")
        self.assertCommon("f(?x,?y,?z,?u)", "f(?y,?x,?u,?z)", "f(?x,?x,?y,?y)")
        self.assertCommon("f(?x,?y,g(?x))", "f(?y,?x,g(?y))", "f(?x,?x,g(?x))")
        self.assertFilledBy("f(?x,?y,?z,?x)", "f(?y,?z,?x,oak)", x="oak", y="oak", z="oak")

    def test_chains_of_blanks_that_come_to_one_term(self):
        words = LETTERS[:8]
        rows = ["?" + word for word in words]
        for place in range(len(words)):
            for end in ("oak", "g(1,h)", "g(?z)"):
                one = "f(" + ",".join(rows + [rows[place]]) + ")"
                other = "f(" + ",".join(rows[1:] + [rows[place], end]) + ")"
                self.assertFilledBy(one, other, **dict.fromkeys(words, end))
        self.assertFilledBy("f(?x,?x,?y)", "f(?y,?z,oak)", x="oak", y="oak", z="oak")

    def test_two_chains_that_meet(self):
        self.assertFilledBy(
            "f(?a,?b,?c,?d,?e,?b)", "f(?b,?c,g(?u),?e,g(1),?d)",
            a="g(1)", b="g(1)", c="g(1)", d="g(1)", e="g(1)", u="1",
        )
        self.assertCommon(
            "f(?a,?b,?c,?d,?e,?a)", "f(?b,?c,g(?u,?v),?e,g(?v,h(?w)),?d)",
            "f(g(h(?w),h(?w)),g(h(?w),h(?w)),g(h(?w),h(?w)),g(h(?w),h(?w)),g(h(?w),h(?w)),g(h(?w),h(?w)))",
        )

    def test_a_blank_that_stands_several_times_in_both(self):
        self.assertCommon("f(?x,?x,g(?x,?y))", "f(?y,g(?z),g(?x,?x))", "f(g(?z),g(?z),g(g(?z),g(?z)))")
        self.assertFilledBy("f(?x,?x,?x)", "f(?x,?x,1)", x="1")
        self.assertFilledBy("f(?x,g(?x),?x)", "f(h(?y),g(h(?y)),h(2))", x="h(2)", y="2")
        self.assertCommon("f(?x,?y,?x,?y)", "f(?y,?x,?x,g(?z))", "f(g(?z),g(?z),g(?z),g(?z))")

    def test_a_filling_that_shows_only_behind_another(self):
        self.assertFilledBy("f(?x,?x)", "f(g(?y),g(1))", x="g(1)", y="1")
        self.assertFilledBy("f(?x,?y,?x)", "f(g(?y,?z),h(1),g(h(?u),?u))", u="1", x="g(h(1),1)", y="h(1)", z="1")
        self.assertFilledBy("f(?a,?b,?c,1)", "f(?b,?c,g(?d),?d)", a="g(1)", b="g(1)", c="g(1)", d="1")

    def test_terms_that_have_more_blanks_than_are_filled(self):
        self.assertFilledBy("f(?x,?y,g(?z))", "f(?x,1,g(?z))", y="1")

    def test_every_couple_of_small_terms(self):
        leaves = [blank("x"), blank("y"), name("x"), number(1)]
        terms = leaves + [thing("f", *parts) for count in (1, 2) for parts in itertools.product(leaves, repeat=count)]
        terms += [thing("f", thing("f", leaf), blank("x")) for leaf in leaves]
        fillings = every_filling(terms[:9])
        for one, other in itertools.product(terms, repeat=2):
            answer = self.told(one, other)
            common = common_by_hand(one, other)
            self.assertEqual(answer[0] == "alike", common is not None)
            for filling in fillings:
                if filled(one, filling) == filled(other, filling):
                    self.assertBest(one, other, answer[1], filling)

    def test_many_picked_couples(self):
        picker = Picker(21)
        counts = {"alike": 0, "clash": 0, "ring": 0}
        for _ in range(3000):
            one, other = picked_couple(picker)
            answer = self.told(one, other)
            counts[answer[0]] += 1
            common = common_by_hand(one, other)
            self.assertEqual(answer[0] == "alike", common is not None)
            if common is not None:
                self.assertIsNotNone(same_but_names(filled(one, answer[1]), common))
                further = joined(answer[1], picked_filling(picker, WORDS, 2))
                self.assertBest(one, other, answer[1], further)
        self.assertGreater(min(counts.values()), 100)

    def test_against_a_term_without_blanks_it_is_matching(self):
        picker = Picker(23)
        counts = {True: 0, False: 0}
        for _ in range(1000):
            pattern = picked_term(picker, WORDS, 3)
            term = filled(picked_term(picker, WORDS, 2), [(word, name(word)) for word in WORDS])
            for whole in (term, filled(pattern, [(word, term) for word in WORDS])):
                expected = matched(pattern, whole)
                answer = self.told(pattern, whole)
                self.assertEqual(answer[0] == "alike", expected[0] == "match")
                counts[answer[0] == "alike"] += 1
                if answer[0] == "alike":
                    self.assertEqual(answer[1], expected[1])
        self.assertGreater(min(counts.values()), 200)

    def test_many_couples_that_a_known_filling_makes_alike(self):
        picker = Picker(22)
        filled_blanks = 0
        for _ in range(3000):
            term = picked_term(picker, ["u", "v", "w"], 4)
            holes = {}
            one = blanked(picker, term, holes)
            other = blanked(picker, term, holes)
            answer = self.told(one, other)
            self.assertEqual(answer[0], "alike")
            self.assertBest(one, other, answer[1], sorted(holes.items()))
            filled_blanks += len(answer[1])
        self.assertGreater(filled_blanks, 2000)


def every_filling(terms):
    """Every filling of x and y by some of the terms, or of one of them, or of none."""
    choices = [[(word, term) for term in terms if term != blank(word)] for word in ("x", "y")]
    fillings = [[]] + [[pair] for pair in choices[0] + choices[1]]
    return fillings + [list(pairs) for pairs in itertools.product(*choices)]


class NotMadeAlike(Telling):
    def assertClashes(self, one_line, other_line):
        self.assertKind(one_line, other_line, "clash")

    def assertRings(self, one_line, other_line):
        self.assertKind(one_line, other_line, "ring")

    def test_clashes_of_each_kind(self):
        for one, other in (
            ("1", "x"), ("1", "f(1)"), ("x", "x(x)"), ("1", "2"), ("1", "-1"), ("oak", "ash"), ("x", "xx"),
            ("f(a)", "g(a)"), ("f(?x)", "g(?x)"), ("f(?x)", "f(?x,?y)"), ("f(?x,?y,?z)", "f(?x,?y)"), ("f(a)", "ff(a)"),
        ):
            self.assertClashes(one, other)
            self.assertClashes("h(?z,k(" + one + ",1))", "h(?z,k(" + other + ",1))")
            self.assertClashes("h(?z,?z)", "h(" + one + "," + other + ")")
            self.assertClashes("h(?z,g(?z))", "h(k(" + one + "),g(k(" + other + ")))")

    def test_a_clash_told_as_it_stands(self):
        answer = alike(number(1), name("oak"))
        self.assertEqual(answer, ("clash", [(number(1), name("oak"), ("given",))], 0))

    def test_a_clash_that_shows_only_behind_several_fillings(self):
        self.assertClashes("f(?a,?b,?c,?a)", "f(?b,?c,1,2)")
        self.assertClashes("f(?a,?b,?c,?d,?e,?b)", "f(?b,?c,g(1),?e,g(2),?d)")
        self.assertClashes("f(?x,?y,?x)", "f(g(?y),h(?z),g(k(?u)))")
        self.assertClashes("f(?x,?y,?z,?x)", "f(g(?y),g(?z),g(1),g(g(g(2))))")
        self.assertClashes("f(?x,?y,?x)", "f(g(?y,?z),h(1),g(?z,oak))")
        self.assertClashes("f(?x,?x,?y,?y,?x)", "f(g(?u),g(?v),h(?u),h(1),g(2))")

    def test_rings_of_one_line(self):
        for other in ("f(?x)", "f(?x,?x)", "f(1,g(h(?x),?y))", "x(?x)", "f(?y,?x)"):
            self.assertRings("?x", other)
            self.assertRings("k(1,?x)", "k(1," + other + ")")

    def test_a_ring_told_as_it_stands(self):
        answer = alike(blank("x"), thing("f", blank("x")))
        self.assertEqual(answer, ("ring", [(blank("x"), thing("f", blank("x")), ("given",))], [0]))

    def test_rings_over_several_blanks(self):
        self.assertRings("f(?x,?y)", "f(g(?y),g(?x))")
        self.assertRings("f(?x,?y)", "f(g(?y),?x)")
        self.assertRings("f(?x,?y,?z)", "f(g(?y),h(1,?z),k(k(?x)))")
        self.assertRings("f(?x,?y,?z,?u)", "f(?y,?z,?u,g(?x))")
        self.assertRings("f(?x,g(?x))", "f(?y,?y)")
        self.assertRings("f(g(?x),?z,?y)", "f(?y,g(?y),?x)")
        for count in (2, 5, 20):
            words = [word_of(place) for place in range(count)]
            pairs = [(blank(word), thing("g", blank(after))) for word, after in zip(words, words[1:] + words[:1])]
            for one, other in (couple(pairs), couple(pairs[::-1])):
                answer = self.told(one, other)
                self.assertEqual((answer[0], len(answer[2])), ("ring", count))

    def test_a_ring_beside_blanks_that_stand_in_none(self):
        self.assertRings("f(?a,?x,?b,?c)", "f(g(?x),g(?x),h(?a,?c),1)")
        self.assertRings("f(?a,?b,?x,?y)", "f(g(?b),g(?x),g(?y),g(?x))")
        self.assertRings("f(?x,?y,?z)", "f(g(?u,?y),g(?u,?x),1)")

    def test_a_ring_that_shows_only_behind_a_filling(self):
        self.assertRings("f(?x,?x)", "f(g(?y),g(h(?y)))")
        self.assertRings("f(?x,?x)", "f(g(?y,h(?z)),g(?z,?y))")
        self.assertRings("f(?a,?b,?a)", "f(g(?u),g(h(?u)),?b)")
        self.assertRings("f(?x,?y,?x)", "f(g(?u,?u),g(?v,h(?v)),?y)")

    def test_a_couple_with_both(self):
        for one, other in (("f(?x,1)", "f(g(?x),2)"), ("f(1,?x)", "f(2,g(?x))"), ("f(?x,?x)", "f(g(?x),1)")):
            self.assertIn(self.told(read(one), read(other))[0], ("clash", "ring"))
            self.assertIn(self.told(read(other), read(one))[0], ("clash", "ring"))


class OrderAndWords(Telling):
    def assertNoDifference(self, one, other, names):
        """The two turned about, and the two with other words: as before but for the words."""
        first = self.told(one, other)
        called = (renamed(one, names), renamed(other, names))
        for again in ((other, one), called, called[::-1]):
            second = self.told(*again)
            self.assertEqual(first[0] == "alike", second[0] == "alike")
            if first[0] == "alike":
                made = (filled(one, first[1]), filled(again[0], second[1]))
                self.assertIsNotNone(same_but_names(*made))

    def test_many_picked_couples(self):
        picker = Picker(31)
        for _ in range(1000):
            one, other = picked_couple(picker)
            for news in (["y", "z", "x"], ["z", "y", "x"], ["b", "a", "xx"]):
                self.assertNoDifference(one, other, list(zip(WORDS, news)))

    def test_many_couples_that_can_be_made_alike(self):
        picker = Picker(32)
        for _ in range(500):
            term = picked_term(picker, WORDS, 4)
            holes = {}
            one = blanked(picker, term, holes)
            other = blanked(picker, term, holes)
            words = all_blanks(one, other)
            self.assertNoDifference(one, other, list(zip(words, words[::-1])))
            self.assertNoDifference(one, other, [(word, word_of(place)) for place, word in enumerate(words[::-1])])


class Bounds(Telling):
    def test_seventy_parts_and_somewhat_more(self):
        for count in (69, 70, 90):
            words = [word_of(place) for place in range(count)]
            one = thing("f", *[blank(word) for word in words])
            for parts in (
                [blank("v" + word) for word in words], [number(place) for place in range(count)],
                [blank(word) for word in words[1:] + words[:1]], [blank("a")] * count,
                [blank(word) for word in words[1:]] + [name("oak")],
            ):
                self.assertEqual(self.told(one, thing("f", *parts))[0], "alike")
                self.assertEqual(self.told(thing("f", *parts), one)[0], "alike")
            clashing = thing("f", *[number(0)] * (count - 1), number(1))
            self.assertEqual(self.told(thing("f", *[blank("a")] * count), clashing)[0], "clash")
            ringed = thing("f", *[thing("g", blank(word)) for word in words[1:] + words[:1]])
            self.assertEqual(len(self.told(one, ringed)[2]), count)

    def test_deep_terms(self):
        for depth in (35, 69, 90, 200, 260):
            leaves = (blank("x"), name("oak"), name("ash"), thing("f", blank("x")))
            ends = [comb(depth, leaf) for leaf in leaves]
            self.assertEqual(self.told(ends[0], ends[1])[1], [("x", name("oak"))])
            self.assertEqual(self.told(ends[1], ends[0])[1], [("x", name("oak"))])
            self.assertEqual(self.told(ends[1], ends[2])[0], "clash")
            self.assertEqual(self.told(ends[0], ends[3])[0], "ring")
            self.assertEqual(self.told(ends[0], ends[0])[1], [])
            self.assertEqual(written(self.told(blank("y"), ends[0])[1]), [("y", shown(ends[0]))])

    def test_a_filling_deeper_than_the_terms(self):
        for depth in (30, 60, 90):
            low = comb(depth, blank("z"))
            one = thing("f", blank("x"), low)
            other = thing("f", comb(depth, blank("y")), blank("y"))
            answer = self.told(one, other)
            self.assertEqual(written(answer[1]), [("x", shown(comb(depth, low))), ("y", shown(low))])

    def test_long_words_and_numbers(self):
        for length in (200, 260):
            word = long_word(length)
            close = word[:-1] + "b"
            n = long_number(length)
            one = thing(word, blank(word), blank(close), blank(word))
            other = thing(word, name(word), number(n), blank("x"))
            pairs = [(word, name(word)), (close, number(n)), ("x", name(word))]
            self.assertEqual(self.told(one, other)[1], sorted(pairs))
            for last in (number(n), number(-n), name(close), thing(word, blank("x"))):
                self.assertEqual(self.told(one, thing(word, name(word), number(n), last))[0], "clash")
            self.assertEqual(self.told(blank(word), thing(word, blank(close)))[0], "alike")
            self.assertEqual(self.told(blank(word), thing(word, blank(word)))[0], "ring")


class Growth(Telling):
    """Blanks that each stand for twice the next one."""

    def assertFewLines(self, lines, one, other):
        self.assertLess(len(lines), 20 * (count_parts(one) + count_parts(other)))

    def test_filled_terms_that_grow_much_larger(self):
        words = [word_of(place) for place in range(12)]
        for pairs in (doubling(words), doubling(words)[::-1], doubling(words[::-1])):
            one, other = couple(pairs)
            for answer in (self.told(one, other), self.told(other, one)):
                self.assertEqual(answer[0], "alike")
                self.assertFewLines(answer[2], one, other)
                self.assertEqual(max(count_parts(term) for _, term in answer[1]), 2 ** 12 - 2)
                self.assertEqual(count_parts(filled(one, answer[1])), 8177)

    def test_two_that_grow_and_meet(self):
        for count in (4, 8, 10):
            words = [word_of(place) for place in range(count)]
            others = ["v" + word for word in words]
            pairs = doubling(words) + doubling(others) + [(blank(words[0]), blank(others[0]))]
            for one, other in (couple(pairs), couple(pairs[::-1])):
                answer = self.told(one, other)
                self.assertEqual(answer[0], "alike")
                self.assertFewLines(answer[2], one, other)

    def test_a_clash_behind_what_would_grow_past_all_bounds(self):
        for count in (11, 30):
            words = [word_of(place) for place in range(count)]
            others = ["v" + word for word in words]
            pairs = doubling(words) + doubling(others) + [(blank(words[0]), blank(others[0]))]
            pairs += [(blank(words[-1]), number(1)), (blank(others[-1]), number(2))]
            for one, other in (couple(pairs), couple(pairs[::-1])):
                for answer in (self.told(one, other), self.told(other, one)):
                    self.assertEqual(answer[0], "clash")
                    self.assertFewLines(answer[1], one, other)

    def test_a_ring_behind_what_would_grow_past_all_bounds(self):
        for count in (16, 22, 30):
            words = [word_of(place) for place in range(count)]
            pairs = doubling(words) + [(blank(words[-1]), thing("g", blank(words[0]), blank("z")))]
            for one, other in (couple(pairs), couple(pairs[::-1])):
                for answer in (self.told(one, other), self.told(other, one)):
                    self.assertEqual((answer[0], len(answer[2])), ("ring", count))
                    self.assertFewLines(answer[1], one, other)

    def test_a_long_chain_of_blanks(self):
        for count in (30, 200):
            words = [word_of(place) for place in range(count)]
            pairs = [(blank(word), blank(after)) for word, after in zip(words, words[1:])]
            pairs.append((blank(words[0]), name("oak")))
            for one, other in (couple(pairs), couple(pairs[::-1])):
                for answer in (self.told(one, other), self.told(other, one)):
                    self.assertEqual(answer[1], [(word, name("oak")) for word in sorted(words)])
                    self.assertFewLines(answer[2], one, other)

    def test_things_that_meet_again_and_again(self):
        # The same blank meets the same thing twice within each meeting of the next ones.
        for depth in (6, 22):
            words = [word_of(level) for level in range(depth)]
            low = name("oak")
            pairs = [(blank(words[0]), low)]
            for word, after in zip(words, words[1:]):
                pairs.append((blank(after), thing("g", blank(word), low)))
                low = thing("g", low, blank(word))
            pairs.append((blank(words[-1]), low))
            for met in (pairs, pairs[::-1]):
                one, other = couple(met + [(number(1), number(2))])
                for answer in (self.told(one, other), self.told(other, one)):
                    self.assertEqual(answer[0], "clash")
                    self.assertEqual(sorted(answer[1][answer[2]][:2]), [number(1), number(2)])
                    self.assertFewLines(answer[1], one, other)
