import itertools
import unittest

from blankform.lines import is_clash, is_ring, sound
from blankform.notes import read, shown
from samples import (
    Picker, blank, comb, long_number, long_word, name, number, picked_term, thing, wide, word_of,
)

GIVEN = ("given",)
FAR = (-1, -2, -3, -10 ** 30, 50, 10 ** 30)


def line(one, other, reason):
    return (read(one), read(other), reason)


def kept(lines):
    """Lines as texts and reasons: what can be held against them later."""
    return [(shown(one), shown(other), reason) for one, other, reason in lines]


def ends_by_hand(reason, earlier, one, other):
    """Every pair of terms that a reason allows behind these earlier lines: at most one."""
    rows = dict(enumerate(earlier))
    if reason == ("given",):
        return [(one, other)]
    if reason[0] == "turn":
        return [(rows[n][1], rows[n][0]) for n in rows if n == reason[1]]
    if reason[0] == "chain":
        return [
            (rows[n][0], rows[m][1]) for n in rows for m in rows
            if n == reason[1] and m == reason[2] and rows[n][1] == rows[m][0]
        ]
    found = []
    for n in rows:
        first, second = rows[n][:2]
        if n == reason[1] and first[0] == second[0] == "thing" and first[1] == second[1]:
            if len(first[2]) == len(second[2]):
                both = enumerate(zip(first[2], second[2]))
                found += [pair for place, pair in both if place == reason[2]]
    return found


def sound_by_hand(lines, one, other):
    return all(
        row[:2] in ends_by_hand(row[2], lines[:place], one, other) for place, row in enumerate(lines)
    )


class Sound(unittest.TestCase):
    def judged(self, lines, one, other):
        """What is answered, once it has been seen that nothing handed in was changed."""
        before = (kept(lines), shown(one), shown(other))
        answer = sound(lines, one, other)
        self.assertIs(type(answer), bool)
        self.assertEqual((kept(lines), shown(one), shown(other)), before)
        return answer

    def assertSound(self, one, other, *lines):
        self.assertIs(self.judged(list(lines), read(one), read(other)), True)

    def assertNotSound(self, one, other, *lines):
        self.assertIs(self.judged(list(lines), read(one), read(other)), False)

    def test_no_lines(self):
        self.assertSound("f(?x)", "oak")
        self.assertSound("oak", "oak")

    def test_given(self):
        self.assertSound("f(?x)", "?y", line("f(?x)", "?y", GIVEN))
        self.assertSound("oak", "oak", line("oak", "oak", GIVEN))
        self.assertSound("f(?x)", "?y", line("f(?x)", "?y", GIVEN), line("f(?x)", "?y", GIVEN))

    def test_given_that_does_not_follow(self):
        for one, other in (
            ("?y", "f(?x)"), ("f(?x)", "?x"), ("f(?y)", "?y"), ("g(?x)", "?y"), ("f(x)", "?y"), ("f(?x)", "y"),
            ("f(?x,?x)", "?y"), ("f(?x)", "f(?x)"), ("?y", "?y"), ("f(f(?x))", "?y"),
        ):
            self.assertNotSound("f(?x)", "?y", line(one, other, GIVEN))
            self.assertNotSound("f(?x)", "?y", line("f(?x)", "?y", GIVEN), line(one, other, GIVEN))

    def test_turn(self):
        first = line("f(?x)", "?y", GIVEN)
        self.assertSound("f(?x)", "?y", first, line("?y", "f(?x)", ("turn", 0)))
        self.assertSound("f(?x)", "?y", first, line("?y", "f(?x)", ("turn", 0)), line("f(?x)", "?y", ("turn", 1)))
        self.assertSound("f(?x)", "?y", first, first, line("?y", "f(?x)", ("turn", 1)))
        self.assertSound("oak", "oak", line("oak", "oak", GIVEN), line("oak", "oak", ("turn", 0)))

    def test_turn_that_does_not_follow(self):
        first = line("f(?x)", "?y", GIVEN)
        for one, other in (
            ("f(?x)", "?y"), ("?y", "?y"), ("f(?x)", "f(?x)"), ("?x", "f(?x)"), ("?y", "f(?y)"), ("y", "f(?x)"),
            ("?y", "f(x)"), ("?y", "f(?x,?x)"),
        ):
            self.assertNotSound("f(?x)", "?y", first, line(one, other, ("turn", 0)))

    def test_part(self):
        first = line("f(?x,g(1),oak)", "f(?y,?z,ash)", GIVEN)
        parts = [line("?x", "?y", ("part", 0, 0)), line("g(1)", "?z", ("part", 0, 1)), line("oak", "ash", ("part", 0, 2))]
        for lines in itertools.permutations(parts):
            self.assertSound("f(?x,g(1),oak)", "f(?y,?z,ash)", first, *lines)
        self.assertSound(
            "f(g(?x,1))", "f(g(2,?y))", line("f(g(?x,1))", "f(g(2,?y))", GIVEN),
            line("g(?x,1)", "g(2,?y)", ("part", 0, 0)), line("1", "?y", ("part", 1, 1)), line("?x", "2", ("part", 1, 0)),
        )

    def test_part_that_does_not_follow(self):
        first = line("f(?x,g(1))", "f(?y,?z)", GIVEN)
        for one, other, place in (
            ("?x", "?y", 1), ("g(1)", "?z", 0), ("?y", "?x", 0), ("?x", "?z", 0), ("?x", "?z", 1), ("g(1)", "?y", 0),
            ("g(1)", "?y", 1), ("x", "?y", 0), ("?x", "y", 0), ("g(2)", "?z", 1), ("f(?x,g(1))", "f(?y,?z)", 0),
            ("1", "?z", 1),
        ):
            self.assertNotSound("f(?x,g(1))", "f(?y,?z)", first, line(one, other, ("part", 0, place)))

    def test_places_that_are_not_there(self):
        first = line("f(?x,?y)", "f(1,2)", GIVEN)
        for place in FAR + (2, 3):
            for one, other in (("?x", "1"), ("?y", "2")):
                self.assertNotSound("f(?x,?y)", "f(1,2)", first, line(one, other, ("part", 0, place)))

    def test_part_of_what_are_not_two_things_alike_but_for_their_parts(self):
        for one, other in (
            ("f(a,b)", "g(a,b)"), ("f(a,b)", "f(a)"), ("f(a)", "f(a,b)"), ("f(a)", "?x"), ("?x", "f(a)"), ("f(a)", "f"),
            ("f", "f(a)"), ("f(a,b)", "f(a,b,c)"), ("f(a)", "1"), ("1", "f(a)"), ("a", "a"), ("?x", "?x"), ("f", "f"),
            ("1", "1"), ("f(a)", "ff(a)"),
        ):
            for last in (("a", "a"), (one, other)):
                self.assertNotSound(one, other, line(one, other, GIVEN), line(last[0], last[1], ("part", 0, 0)))

    def test_chain(self):
        self.assertSound(
            "f(?x,?x)", "f(1,?y)", line("f(?x,?x)", "f(1,?y)", GIVEN), line("?x", "1", ("part", 0, 0)),
            line("?x", "?y", ("part", 0, 1)), line("1", "?x", ("turn", 1)), line("1", "?y", ("chain", 3, 2)),
            line("?y", "?x", ("turn", 2)), line("?y", "1", ("chain", 5, 1)),
        )
        self.assertSound(
            "f(?x)", "f(?x)", line("f(?x)", "f(?x)", GIVEN), line("f(?x)", "f(?x)", ("chain", 0, 0)),
            line("?x", "?x", ("part", 1, 0)), line("?x", "?x", ("chain", 2, 2)),
        )
        self.assertSound(
            "g(?x)", "?y", line("g(?x)", "?y", GIVEN), line("?y", "g(?x)", ("turn", 0)),
            line("g(?x)", "g(?x)", ("chain", 0, 1)), line("?y", "?y", ("chain", 1, 0)),
        )

    def test_chain_that_does_not_follow(self):
        first = line("g(?x)", "?y", GIVEN)
        turned = line("?y", "g(?x)", ("turn", 0))
        for one, other, numbers in (
            ("g(?x)", "?y", (0, 1)), ("?y", "g(?x)", (0, 1)), ("?y", "?y", (0, 1)), ("g(?y)", "g(?x)", (0, 1)),
            ("g(?x)", "g(x)", (0, 1)), ("g(?x)", "g(?x)", (1, 0)), ("?y", "g(?x)", (1, 0)), ("y", "?y", (1, 0)),
        ):
            self.assertNotSound("g(?x)", "?y", first, turned, line(one, other, ("chain",) + numbers))

    def test_a_chain_whose_terms_do_not_meet(self):
        first = line("f(?x,?x)", "f(1,2)", GIVEN)
        parts = [line("?x", "1", ("part", 0, 0)), line("?x", "2", ("part", 0, 1))]
        for numbers, ends in (((1, 2), ("?x", "2")), ((2, 1), ("?x", "1")), ((1, 1), ("?x", "1"))):
            self.assertNotSound("f(?x,?x)", "f(1,2)", first, *parts, line(ends[0], ends[1], ("chain",) + numbers))
        # Of the two terms that have to meet, one is a name and the other a blank, or they differ within.
        for one, other in (("f(?x,y)", "f(x,?y)"), ("f(a,g(1))", "f(g(2),b)"), ("f(a,?y)", "f(?x,b)")):
            both = line(one, other, GIVEN)
            ends = [line(shown(both[0][2][place]), shown(both[1][2][place]), ("part", 0, place)) for place in (0, 1)]
            for near, far in ((0, 1), (1, 0)):
                last = (ends[near][0], ends[far][1], ("chain", near + 1, far + 1))
                self.assertIs(self.judged([both] + ends + [last], both[0], both[1]), False)

    def test_the_numbers_of_a_chain_have_an_order(self):
        first = line("f(?x,?y)", "f(?y,?z)", GIVEN)
        parts = [line("?x", "?y", ("part", 0, 0)), line("?y", "?z", ("part", 0, 1))]
        self.assertSound("f(?x,?y)", "f(?y,?z)", first, *parts, line("?x", "?z", ("chain", 1, 2)))
        self.assertNotSound("f(?x,?y)", "f(?y,?z)", first, *parts, line("?x", "?z", ("chain", 2, 1)))
        self.assertNotSound("f(?x,?y)", "f(?y,?z)", first, *parts, line("?y", "?y", ("chain", 2, 1)))

    def test_numbers_of_the_own_line_or_a_later_one(self):
        # All lines are the same, so that the number alone can be at fault.
        alike = ("oak", "oak")
        given = line(*alike, GIVEN)
        for number_of in (1, 2, 3):
            for reason in (("turn", number_of), ("chain", number_of, 0), ("chain", 0, number_of), ("chain", number_of, number_of)):
                self.assertNotSound("oak", "oak", given, line(*alike, reason), given, given)
                self.assertNotSound("oak", "oak", given, line(*alike, reason))
        self.assertNotSound("oak", "oak", line(*alike, ("turn", 0)))
        self.assertNotSound("oak", "oak", line(*alike, ("turn", 0)), given)
        self.assertNotSound("oak", "oak", line(*alike, ("turn", 1)), given)
        self.assertNotSound("oak", "oak", line(*alike, ("chain", 0, 0)))
        self.assertNotSound("oak", "oak", line(*alike, ("chain", 1, 1)), given)
        self.assertNotSound("f(?x)", "f(1)", line("?x", "1", ("part", 1, 0)), line("f(?x)", "f(1)", GIVEN))
        self.assertNotSound("f(?x)", "f(1)", line("f(?x)", "f(1)", GIVEN), line("?x", "1", ("part", 1, 0)))

    def test_numbers_below_nought_and_past_the_lines(self):
        given = line("oak", "oak", GIVEN)
        for far in FAR + (3, 4):
            for reason in (("turn", far), ("chain", far, 0), ("chain", 0, far), ("chain", far, far)):
                self.assertNotSound("oak", "oak", given, given, line("oak", "oak", reason))
                self.assertNotSound("oak", "oak", given, given, line("oak", "oak", reason), given)
            self.assertNotSound("f(?x)", "f(1)", line("f(?x)", "f(1)", GIVEN), line("?x", "1", ("part", far, 0)))

    def test_every_line_has_to_follow(self):
        good = [
            line("f(?x)", "f(1)", GIVEN), line("?x", "1", ("part", 0, 0)), line("1", "?x", ("turn", 1)),
            line("?x", "?x", ("chain", 1, 2)),
        ]
        self.assertSound("f(?x)", "f(1)", *good)
        for place in range(len(good)):
            lines = list(good)
            lines[place] = (read("?x"), read("2"), good[place][2])
            self.assertNotSound("f(?x)", "f(1)", *lines)
        # A line that leans on one that does not follow, but would follow by itself.
        self.assertNotSound("oak", "ash", line("oak", "oak", GIVEN), line("oak", "oak", ("turn", 0)))

    def test_lines_that_stand_twice_and_lines_on_which_nothing_leans(self):
        first = line("f(?x,?y)", "f(1,2)", GIVEN)
        part = line("?x", "1", ("part", 0, 0))
        other = line("?y", "2", ("part", 0, 1))
        self.assertSound("f(?x,?y)", "f(1,2)", first, part, part, other, first, part, line("1", "?x", ("turn", 2)))

    def test_the_same_terms_made_anew(self):
        self.assertIs(sound([(read("f(?x)"), read("g(1)"), ("given",))], read("f(?x)"), read("g(1)")), True)

    def test_many_picked_lines(self):
        picker = Picker(5)
        counts = {True: 0, False: 0}
        for _ in range(1500):
            one, other = picked_pair(picker)
            lines = picked_lines(picker, one, other)
            self.assertIs(self.judged(lines, one, other), True)
            changed = changed_lines(picker, lines)
            expected = sound_by_hand(changed, one, other)
            self.assertIs(self.judged(changed, one, other), expected)
            counts[expected] += 1
        self.assertGreater(counts[True], 20)
        self.assertGreater(counts[False], 500)

    def test_every_reason_behind_some_lines(self):
        lines = [
            line("f(?x,?x)", "f(1,?x)", GIVEN), line("?x", "1", ("part", 0, 0)), line("?x", "?x", ("part", 0, 1)),
            line("f(1,?x)", "f(?x,?x)", ("turn", 0)),
        ]
        numbers = range(-2, 7)
        reasons = [GIVEN] + [("turn", n) for n in numbers]
        reasons += [(kind, n, m) for kind in ("part", "chain") for n in numbers for m in numbers]
        ends = sorted(set(row[0] for row in lines) | set(row[1] for row in lines), key=shown)
        self.assertTrue(sound_by_hand(lines, lines[0][0], lines[0][1]))
        for reason in reasons:
            for pair in itertools.product(ends, repeat=2):
                more = lines + [pair + (reason,)]
                self.assertIs(sound(more, *lines[0][:2]), sound_by_hand(more, *lines[0][:2]))

    def test_deep_terms(self):
        for depth in (200, 260):
            one = comb(depth, blank("x"))
            other = comb(depth, name("oak"))
            lines = [(one, other, GIVEN)]
            for level in range(depth):
                lines.append((lines[-1][0][2][1], lines[-1][1][2][1], ("part", level, 1)))
            self.assertEqual(lines[-1][:2], (blank("x"), name("oak")))
            lines.append((comb(depth, name("oak")), comb(depth, blank("x")), ("turn", 0)))
            lines.append((comb(depth, blank("x")), comb(depth, blank("x")), ("chain", 0, depth + 1)))
            self.assertIs(self.judged(lines, one, other), True)
            self.assertIs(sound([(one, other, GIVEN)], one, comb(depth, name("ash"))), False)
            lines[-1] = (comb(depth, blank("x")), comb(depth, blank("y")), ("chain", 0, depth + 1))
            self.assertIs(sound(lines, one, other), False)

    def test_many_parts(self):
        for count in (12000, 12500):
            one, _ = wide(count)
            other, _ = wide(count)
            last = len(one[2]) - 1
            lines = [(one, other, GIVEN), (other, one, ("turn", 0)), (one, one, ("chain", 0, 1))]
            lines.append((one[2][last], other[2][last], ("part", 2, last)))
            self.assertIs(self.judged(lines, one, other), True)
            self.assertIs(sound(lines + [(one[2][last], other[2][last], ("part", 2, last + 1))], one, other), False)
            changed = ("thing", "wide", one[2][:-1] + (name("end"),))
            self.assertIs(sound(lines, one, changed), False)

    def test_many_lines(self):
        first = line("f(?x)", "f(?y)", GIVEN)
        lines = [first]
        for place in range(3000):
            lines.append((lines[-1][1], lines[-1][0], ("turn", place)))
        self.assertIs(sound(lines, first[0], first[1]), True)
        lines.append((lines[-1][0], lines[-1][1], ("turn", 3000)))
        self.assertIs(sound(lines, first[0], first[1]), False)

    def test_long_words_and_numbers(self):
        for length in (200, 260):
            word = long_word(length)
            close = word[:-1] + "b"
            n = long_number(length)
            one = thing(word, blank(word), number(n))
            other = thing(word, name(word), number(-n))
            lines = [(one, other, GIVEN), (blank(word), name(word), ("part", 0, 0)), (number(n), number(-n), ("part", 0, 1))]
            self.assertIs(sound(lines, one, other), True)
            self.assertIs(sound(lines[:1] + [(blank(close), name(word), ("part", 0, 0))], one, other), False)
            self.assertIs(sound(lines[:1] + [(number(n + 1), number(-n), ("part", 0, 1))], one, other), False)


def picked_pair(picker):
    count = 1 + picker.below(3)
    sides = [[picked_term(picker, ["x", "y"], 2) for _ in range(count)] for _ in range(2)]
    return thing("f", *sides[0]), thing("f", *sides[1])


def picked_lines(picker, one, other):
    """Lines that follow, by whatever reason leads to two terms."""
    lines = [(one, other, ("given",))]
    for _ in range(20):
        near = picker.below(len(lines))
        far = picker.below(len(lines))
        reason = picker.one_of([("turn", near), ("part", near, picker.below(3)), ("chain", near, far), ("part", far, 0)])
        for pair in ends_by_hand(reason, lines, one, other):
            lines.append(pair + (reason,))
    return lines


def changed_lines(picker, lines):
    """The lines with one of them changed in one of its terms or its reason."""
    changed = list(lines)
    place = picker.below(len(lines))
    row = list(lines[place])
    sort = picker.below(3)
    if sort < 2:
        row[sort] = picker.one_of(lines)[picker.below(2)]
    else:
        numbers = range(-1, len(lines) + 1)
        row[2] = picker.one_of([("given",), ("turn", picker.one_of(numbers))] + [
            (kind, picker.one_of(numbers), picker.one_of(numbers)) for kind in ("part", "chain")
        ])
    changed[place] = tuple(row)
    return changed


class IsClash(unittest.TestCase):
    def judged(self, one, other):
        """What is answered of a line among others, whichever reason it has."""
        lines = [line("a", "b", GIVEN), (one, other, ("turn", 7)), line("a", "a", GIVEN)]
        before = kept(lines)
        answer = is_clash(lines, 1)
        self.assertIs(type(answer), bool)
        self.assertEqual(kept(lines), before)
        self.assertIs(is_clash([(one, other, GIVEN)], 0), answer)
        self.assertIs(is_clash([(other, one, GIVEN)], 0), answer)
        return answer

    def test_lines_that_are_a_clash(self):
        for one, other in (
            ("0", "oak"), ("x", "x(x)"), ("0", "f(0)"), ("0", "1"), ("1", "-1"), ("12", "21"), ("oak", "ash"), ("x", "xx"),
            ("f(a)", "g(a)"), ("f(?x)", "g(?x)"), ("f(a)", "f(a,a)"), ("f(?x)", "f(?x,?y)"), ("f(a)", "f"),
            ("f(?x,?y,?z)", "f(?x,?y)"), ("f(a,b)", "ff(a,b)"),
        ):
            self.assertIs(self.judged(read(one), read(other)), True, (one, other))

    def test_lines_with_a_blank_on_a_side(self):
        for other in ("?x", "?y", "x", "0", "f(?x)", "x(?x)", "f(a,b)"):
            self.assertIs(self.judged(blank("x"), read(other)), False, other)

    def test_lines_with_nothing_different_at_their_tops(self):
        for one, other in (
            ("0", "0"), ("-3", "-3"), ("oak", "oak"), ("f(a)", "f(a)"), ("f(a)", "f(b)"), ("f(a)", "f(1)"),
            ("f(?x,a)", "f(g(?x),b)"), ("f(g(a))", "f(h(a))"), ("f(?x)", "f(a)"),
        ):
            self.assertIs(self.judged(read(one), read(other)), False, (one, other))

    def test_the_line_is_told_by_its_number(self):
        lines = [line("?x", "1", GIVEN), line("1", "2", GIVEN), line("1", "1", GIVEN), line("f(a)", "f", GIVEN)]
        self.assertEqual([is_clash(lines, place) for place in range(4)], [False, True, False, True])

    def test_deep_terms(self):
        for depth in (200, 260):
            self.assertIs(is_clash([(comb(depth, name("a")), comb(depth, name("b")), GIVEN)], 0), False)
            self.assertIs(is_clash([(thing("f", comb(depth, name("a"))), comb(depth, name("a")), GIVEN)], 0), True)

    def test_many_parts(self):
        one, _ = wide(12000)
        shorter = ("thing", "wide", one[2][:-1])
        changed = ("thing", "wide", one[2][:-1] + (name("end"),))
        self.assertIs(is_clash([(one, shorter, GIVEN)], 0), True)
        self.assertIs(is_clash([(one, changed, GIVEN)], 0), False)

    def test_long_words_and_numbers(self):
        for length in (200, 260):
            word = long_word(length)
            close = word[:-1] + "b"
            n = long_number(length)
            self.assertIs(self.judged(name(word), name(close)), True)
            self.assertIs(self.judged(name(word), name(long_word(length))), False)
            self.assertIs(self.judged(number(n), number(n + 1)), True)
            self.assertIs(self.judged(number(n), number(long_number(length))), False)
            self.assertIs(self.judged(thing(word, name("a")), thing(close, name("a"))), True)


def ring_by_hand(lines, numbers):
    """What point 12 says, by texts: the lines of terms have a `?` ahead of their blanks alone."""
    if not numbers:
        return False
    rows = [(shown(lines[number][0]), shown(lines[number][1])) for number in numbers]
    for place, (one, other) in enumerate(rows):
        following = rows[place + 1 - len(rows)][0]
        signs = other.replace("(", ",").replace(")", ",").split(",")
        if one[0] != "?" or following not in signs:
            return False
    return any("(" in other for _, other in rows)


class IsRing(unittest.TestCase):
    def judged(self, lines, numbers):
        before = (kept(lines), list(numbers))
        answer = is_ring(lines, numbers)
        self.assertIs(type(answer), bool)
        self.assertEqual((kept(lines), numbers), before)
        return answer

    def ring(self, numbers, *pairs):
        lines = [line(one, other, ("turn", 9)) for one, other in pairs]
        return self.judged(lines, numbers)

    def test_rings_of_one_line(self):
        for other in ("f(?x)", "f(a,?x)", "f(a,g(h(?x),b))", "f(?x,?x)", "x(?y,?x)"):
            self.assertIs(self.ring([0], ("?x", other)), True, other)
            self.assertIs(self.ring([1], ("a", "b"), ("?x", other), ("a", "b")), True, other)

    def test_one_line_that_is_no_ring(self):
        for one, other in (
            ("?x", "?x"), ("?x", "?y"), ("?x", "x"), ("?x", "1"), ("?x", "f(?y)"), ("?x", "f(x)"), ("?x", "x(x,?xx)"),
            ("f(?x)", "?x"), ("x", "f(?x)"), ("x", "f(x)"), ("f(?x)", "f(?x)"), ("1", "f(1)"), ("f(?x)", "g(f(?x))"),
            ("?xx", "f(?x)"),
        ):
            self.assertIs(self.ring([0], (one, other)), False, (one, other))

    def test_rings_of_several_lines(self):
        pairs = [("?x", "f(?y)"), ("?y", "?z"), ("?z", "g(a,?x)"), ("?w", "?x")]
        for numbers in ([0, 1, 2], [1, 2, 0], [2, 0, 1]):
            self.assertIs(self.ring(numbers, *pairs), True)
        for numbers in ([2, 1, 0], [1, 0, 2], [0, 2, 1], [0, 1], [1, 2], [2, 0], [0], [1], [2], [0, 1, 2, 3], [3, 0, 1, 2]):
            self.assertIs(self.ring(numbers, *pairs), False, numbers)
        self.assertIs(self.ring([0, 1], ("?x", "f(?y)"), ("?y", "?x")), True)
        self.assertIs(self.ring([0, 1], ("?x", "?y"), ("?y", "f(?x)")), True)
        self.assertIs(self.ring([1, 0], ("?x", "?y"), ("?y", "f(?x)")), True)

    def test_a_number_told_twice(self):
        pairs = [("?x", "f(?y)"), ("?y", "?x"), ("?x", "g(?x)")]
        self.assertIs(self.ring([0, 1, 0, 1], *pairs), True)
        self.assertIs(self.ring([2, 2], *pairs), True)
        self.assertIs(self.ring([2, 2, 2], *pairs), True)
        self.assertIs(self.ring([0, 1, 2], *pairs), True)
        self.assertIs(self.ring([2, 0, 1, 2], *pairs), True)
        self.assertIs(self.ring([0, 0], *pairs), False)
        self.assertIs(self.ring([0, 1, 1], *pairs), False)
        self.assertIs(self.ring([0, 0, 1], *pairs), False)

    def test_lines_round_which_no_other_is_a_thing(self):
        self.assertIs(self.ring([0], ("?x", "?x")), False)
        self.assertIs(self.ring([0, 1], ("?x", "?y"), ("?y", "?x")), False)
        self.assertIs(self.ring([0, 1, 2], ("?x", "?y"), ("?y", "?z"), ("?z", "?x")), False)
        # A thing that stands in a line which is not told counts for nothing.
        self.assertIs(self.ring([0, 1], ("?x", "?y"), ("?y", "?x"), ("?x", "f(?y)")), False)

    def test_a_one_that_is_no_blank(self):
        for one in ("y", "1", "f(?y)", "y(?y)"):
            for numbers in ([0, 1], [1, 0]):
                self.assertIs(self.ring(numbers, ("?x", f"g({one},?y)"), (one, "h(?x)")), False, one)

    def test_an_other_without_the_blank_of_the_next(self):
        for other in ("f(?x)", "f(y)", "y", "y(?x)", "1", "?x", "f(?yy)"):
            for numbers in ([0, 1], [1, 0]):
                self.assertIs(self.ring(numbers, ("?x", other), ("?y", "h(?x,?y)")), False, other)

    def test_the_empty_list(self):
        self.assertIs(self.ring([]), False)
        self.assertIs(self.ring([], ("?x", "f(?x)")), False)

    def test_every_short_list_of_numbers(self):
        pairs = [("?x", "f(?y,x)"), ("?y", "?x"), ("?y", "y"), ("?x", "f(?x)"), ("y", "f(?x,?y)"), ("?x", "?x")]
        lines = [line(one, other, GIVEN) for one, other in pairs]
        answers = []
        for length in range(5):
            for numbers in itertools.product(range(len(lines)), repeat=length):
                answers.append(ring_by_hand(lines, numbers))
                self.assertIs(is_ring(lines, list(numbers)), answers[-1], numbers)
        self.assertGreater(answers.count(True), 20)

    def test_many_picked_lines(self):
        picker = Picker(9)
        answers = []
        for _ in range(4000):
            lines = [(picked_term(picker, ["x", "y"], 0), picked_term(picker, ["x", "y"], 2), GIVEN) for _ in range(3)]
            numbers = [picker.below(3) for _ in range(1 + picker.below(3))]
            answers.append(ring_by_hand(lines, numbers))
            self.assertIs(self.judged(lines, numbers), answers[-1])
        self.assertGreater(answers.count(True), 100)

    def test_deep_terms(self):
        for depth in (200, 260):
            self.assertIs(is_ring([(blank("x"), comb(depth, blank("x")), GIVEN)], [0]), True)
            self.assertIs(is_ring([(blank("x"), comb(depth, name("x")), GIVEN)], [0]), False)

    def test_many_parts(self):
        words = [word_of(place) for place in range(12000)]
        lines = [(blank(words[-1]), ("thing", "f", tuple(blank(word) for word in words)), GIVEN)]
        self.assertIs(is_ring(lines, [0]), True)
        lines = [(blank("last"), ("thing", "f", tuple(blank(word) for word in words)), GIVEN)]
        self.assertIs(is_ring(lines, [0]), False)

    def test_many_lines(self):
        count = 2000
        lines = [(blank(word_of(place)), blank(word_of((place + 1) % count)), GIVEN) for place in range(count)]
        self.assertIs(is_ring(lines, list(range(count))), False)
        lines[700] = (lines[700][0], thing("f", lines[700][1]), GIVEN)
        self.assertIs(is_ring(lines, list(range(count))), True)
        self.assertIs(is_ring(lines, list(range(900, count)) + list(range(900))), True)
        self.assertIs(is_ring(lines, list(range(count - 1))), False)

    def test_long_words(self):
        for length in (200, 260):
            word = long_word(length)
            close = word[:-1] + "b"
            self.assertIs(is_ring([(blank(word), thing("f", blank(long_word(length))), GIVEN)], [0]), True)
            self.assertIs(is_ring([(blank(word), thing("f", blank(close)), GIVEN)], [0]), False)
