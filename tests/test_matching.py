import itertools
import unittest

from blankform.filling import filled
from blankform.matching import matched
from blankform.notes import read, shown
from blankform.terms import blanks_of, part_at
from samples import (
    LETTERS, Picker, blank, comb, long_number, long_word, name, number, picked_filling, picked_term, thing, wide,
    word_of,
)

WORDS = ["x", "y", "z"]


class Matched(unittest.TestCase):
    def answer(self, pattern, term):
        """What is answered, once it has been seen that it shows what it says."""
        before = (shown(pattern), shown(term))
        told = matched(pattern, term)
        self.assertEqual((shown(pattern), shown(term)), before)
        self.assertIs(type(told), tuple)
        if told[0] == "match":
            self.assertMatch(pattern, term, told)
        elif told[0] == "differ":
            self.assertDiffer(pattern, term, told)
        else:
            self.assertTwo(pattern, term, told)
        return told

    def assertMatch(self, pattern, term, told):
        self.assertEqual(len(told), 2)
        pairs = told[1]
        self.assertIs(type(pairs), list)
        words = [word for word, _ in pairs]
        self.assertEqual(words, sorted(set(words)))
        self.assertTrue(all(type(pair) is tuple and pair[1] != blank(pair[0]) for pair in pairs))
        self.assertEqual(set(words) - set(blanks_of(pattern)), set())
        self.assertEqual(filled(pattern, pairs), term)

    def assertDiffer(self, pattern, term, told):
        self.assertEqual((told[0], len(told)), ("differ", 2))
        self.assertIs(type(told[1]), list)
        asked = part_at(pattern, told[1])
        part = part_at(term, told[1])
        self.assertNotEqual(asked[0], "blank")
        if asked[0] == part[0] == "thing":
            self.assertNotEqual((asked[1], len(asked[2])), (part[1], len(part[2])))
        else:
            self.assertNotEqual(asked, part)

    def assertTwo(self, pattern, term, told):
        self.assertEqual((told[0], len(told)), ("two", 3))
        self.assertIs(type(told[1]), list)
        self.assertIs(type(told[2]), list)
        self.assertEqual(part_at(pattern, told[1])[0], "blank")
        self.assertEqual(part_at(pattern, told[1]), part_at(pattern, told[2]))
        self.assertNotEqual(part_at(term, told[1]), part_at(term, told[2]))

    def assertAnswer(self, pattern_line, term_line, expected):
        self.assertEqual(self.answer(read(pattern_line), read(term_line)), expected)

    def assertFills(self, pattern_line, term_line, **lines):
        self.assertAnswer(pattern_line, term_line, ("match", [(word, read(lines[word])) for word in sorted(lines)]))

    def assertSort(self, pattern_line, term_line, sort):
        self.assertEqual(self.answer(read(pattern_line), read(term_line))[0], sort)

    def test_the_examples(self):
        self.assertAnswer("f(?x,oak)", "f(g(?x),oak)", ("match", [("x", thing("g", blank("x")))]))
        self.assertAnswer("f(?x)", "f(?x)", ("match", []))
        self.assertAnswer("f(?x,?x)", "f(?y,?x)", ("two", [0], [1]))

    def test_patterns_without_blanks(self):
        for line in ("0", "-3", "oak", "f(oak)", "f(g(1,-2),oak,h(i(j)))"):
            self.assertFills(line, line)
        self.assertAnswer("0", "1", ("differ", []))
        self.assertAnswer("f(g(1,2),oak)", "f(g(1,3),oak)", ("differ", [0, 1]))
        self.assertAnswer("f(g(1,2),oak)", "f(g(1,2),ash)", ("differ", [1]))

    def test_one_blank(self):
        for line in ("0", "oak", "?y", "f(oak)", "f(?x)", "f(?x,?y)", "x", "x(x)"):
            self.assertFills("?x", line, x=line)
        self.assertFills("?x", "?x")
        self.assertFills("f(a,g(?x),b)", "f(a,g(h(1)),b)", x="h(1)")

    def test_several_blanks(self):
        self.assertFills("f(?z,?a,?m)", "f(1,2,3)", z="1", a="2", m="3")
        self.assertFills("f(?x,?y)", "f(?y,?x)", x="?y", y="?x")
        self.assertFills("f(?x,?y)", "f(?x,?x)", y="?x")
        self.assertFills("f(?x,?y)", "f(oak,oak)", x="oak", y="oak")
        self.assertFills("f(?xx,?x,?xa)", "f(1,2,3)", x="2", xa="3", xx="1")

    def test_the_blanks_of_the_term_are_not_filled(self):
        self.assertFills("f(?x,oak)", "f(g(?y),oak)", x="g(?y)")
        self.assertAnswer("f(oak,?x)", "f(?y,oak)", ("differ", [0]))
        self.assertAnswer("oak", "?x", ("differ", []))
        self.assertAnswer("3", "?x", ("differ", []))
        self.assertAnswer("f(?x)", "?x", ("differ", []))
        self.assertAnswer("f(?x,g(?x))", "f(?y,?y)", ("differ", [1]))

    def test_a_blank_that_stands_twice(self):
        self.assertFills("f(?x,?x)", "f(oak,oak)", x="oak")
        self.assertFills("f(?x,?x)", "f(?x,?x)")
        self.assertFills("f(?x,?x)", "f(?y,?y)", x="?y")
        self.assertFills("f(?x,g(?x,?y),?y)", "f(h(1,?z),g(h(1,?z),oak),oak)", x="h(1,?z)", y="oak")
        self.assertFills("f(?x,?x,?x)", "f(g(?x),g(?x),g(?x))", x="g(?x)")

    def test_a_blank_against_two_parts_that_differ(self):
        parts = ["0", "1", "oak", "x", "?x", "?y", "f(oak)", "f(0)", "g(oak)", "f(oak,oak)", "f(f(oak))", "x(x)"]
        for one, other in itertools.permutations(parts, 2):
            self.assertSort("f(?x,?x)", f"f({one},{other})", "two")
            self.assertSort("f(?x,a,?x)", f"f(g({one}),a,g({other}))", "two")
        for place in range(3):
            line = ",".join("ash" if place == count else "oak" for count in range(3))
            self.assertSort("f(?x,?x,?x)", f"f({line})", "two")

    def test_the_same_blank_first_met_by_itself(self):
        self.assertSort("f(?x,?x)", "f(?x,oak)", "two")
        self.assertSort("f(?x,?x)", "f(oak,?x)", "two")
        self.assertSort("f(?x,?y,?x)", "f(?x,?x,?y)", "two")

    def test_the_paths_of_a_blank_that_stands_twice(self):
        told = self.answer(read("f(a,g(b,?x),h(c,d,i(?x)))"), read("f(a,g(b,1),h(c,d,i(2)))"))
        self.assertIn(told, [("two", [1, 1], [2, 2, 0]), ("two", [2, 2, 0], [1, 1])])

    def test_parts_that_differ(self):
        different = {
            "another kind": [("0", "oak"), ("oak", "0"), ("x", "x(x)"), ("x(x)", "x"), ("0", "f(0)"), ("f(0)", "0")],
            "another number": [("0", "1"), ("1", "-1"), ("12", "21"), ("-3", "3")],
            "another name": [("oak", "ash"), ("x", "xx"), ("xx", "x")],
            "another word of a thing": [("f(oak)", "g(oak)"), ("f(?x)", "ff(oak)"), ("f(?x,?y)", "g(?x,?y)")],
            "another number of parts": [("f(a)", "f(a,a)"), ("f(a,b)", "f(a)"), ("f(?x,?y)", "f(a,b,c)")],
            "a blank of the term": [("0", "?x"), ("x", "?x"), ("f(?x)", "?x"), ("f(?x)", "?f")],
        }
        for sort, lines in different.items():
            for one, other in lines:
                with self.subTest(sort=sort, one=one, other=other):
                    self.assertAnswer(one, other, ("differ", []))
                    self.assertAnswer(f"f(a,{one},?z)", f"f(a,{other},b)", ("differ", [1]))
                    self.assertAnswer(f"f(?z,g({one}))", f"f(b,g({other}))", ("differ", [1, 0]))

    def test_a_blank_of_the_pattern_takes_what_a_name_of_its_word_does_not(self):
        self.assertAnswer("f(?x,x)", "f(oak,oak)", ("differ", [1]))
        self.assertFills("f(?x,x)", "f(oak,x)", x="oak")
        self.assertFills("x(?x,x)", "x(x,x)", x="x")

    def test_all_small_pairs(self):
        leaves = [read(line) for line in ("0", "x", "?x", "?y")]
        terms = leaves + [thing("f", leaf) for leaf in leaves]
        terms += [thing("f", *pair) for pair in itertools.product(leaves, repeat=2)]
        terms += [thing("f", thing("f", *pair), blank("x")) for pair in itertools.product(leaves, repeat=2)]
        for pattern, term in itertools.product(terms, repeat=2):
            self.answer(pattern, term)

    def test_many_picked_pairs(self):
        picker = Picker(3)
        counts = {"match": 0, "differ": 0, "two": 0}
        for _ in range(3000):
            pattern = picked_term(picker, WORDS, 3)
            term = filled(pattern, picked_filling(picker, WORDS, 2))
            self.assertEqual(self.answer(pattern, term)[0], "match")
            other = picked_term(picker, WORDS, 3)
            counts[self.answer(pattern, other)[0]] += 1
            part = filled(pattern, [(word, picked_term(picker, WORDS, 1)) for word in WORDS[:2]])
            counts[self.answer(thing("f", pattern, pattern), thing("f", term, part))[0]] += 1
        self.assertTrue(all(count > 100 for count in counts.values()), counts)

    def test_deep_terms(self):
        for depth in (200, 260):
            self.assertEqual(matched(comb(depth, blank("x")), comb(depth, name("oak"))), ("match", [("x", name("oak"))]))
            self.assertEqual(matched(comb(depth, blank("x")), comb(depth, blank("x"))), ("match", []))
            self.assertEqual(matched(comb(depth, name("oak")), comb(depth, name("ash"))), ("differ", [1] * depth))
            self.assertEqual(matched(comb(depth, name("oak")), comb(depth, blank("x"))), ("differ", [1] * depth))
            self.assertEqual(matched(blank("x"), comb(depth, blank("x"))), ("match", [("x", comb(depth, blank("x")))]))
            twice = thing("f", blank("x"), blank("x"))
            one = comb(depth, name("oak"))
            self.assertEqual(matched(twice, thing("f", one, comb(depth, name("oak")))), ("match", [("x", one)]))
            told = self.answer(twice, thing("f", one, comb(depth, name("ash"))))
            self.assertEqual((told[0], sorted(told[1:])), ("two", [[0], [1]]))

    def test_many_parts(self):
        for count in (12000, 12500):
            term, _ = wide(count)
            self.assertEqual(matched(term, term), ("match", []))
            words = sorted(word_of(place) for place in range(count))
            pattern = ("thing", "f", tuple(blank(word_of(place)) for place in range(count)))
            numbers = ("thing", "f", tuple(number(place) for place in range(count)))
            places = {word_of(place): place for place in range(count)}
            self.assertEqual(matched(pattern, numbers), ("match", [(word, number(places[word])) for word in words]))
            last = ("thing", "f", numbers[2][:-1] + (name("end"),))
            self.assertEqual(matched(numbers, last), ("differ", [count - 1]))
            twice = ("thing", "f", (blank("x"),) * count)
            self.assertEqual(matched(twice, ("thing", "f", (name("oak"),) * count)), ("match", [("x", name("oak"))]))
            self.assertEqual(self.answer(twice, ("thing", "f", (name("oak"),) * (count - 1) + (name("ash"),)))[0], "two")

    def test_a_blank_that_stands_often_in_a_deep_pattern(self):
        pattern = name("end")
        term = name("end")
        for _ in range(200):
            pattern = ("thing", "f", (pattern,) + (blank("x"),) * 50)
            term = ("thing", "f", (term,) + (name("oak"),) * 50)
        self.assertEqual(matched(pattern, term), ("match", [("x", name("oak"))]))

    def test_long_words_and_numbers(self):
        for length in (200, 260):
            word = long_word(length)
            close = word[:-1] + "b"
            n = long_number(length)
            self.assertEqual(matched(thing(word, blank(word)), thing(word, number(n))), ("match", [(word, number(n))]))
            self.assertEqual(matched(thing(word, blank(word)), thing(close, number(n))), ("differ", []))
            self.assertEqual(matched(number(n), number(n + 1)), ("differ", []))
            self.assertEqual(matched(number(n), number(-n)), ("differ", []))
            self.assertEqual(matched(name(word), name(close)), ("differ", []))
            self.assertEqual(self.answer(thing("f", blank(word), blank(word)), thing("f", name(word), name(close)))[0], "two")

    def test_words_are_told_from_the_nearest_to_a_on(self):
        pattern = ("thing", "f", tuple(blank(letter) for letter in LETTERS[::-1]))
        term = ("thing", "f", tuple(name(letter) for letter in LETTERS[::-1]))
        self.assertEqual(matched(pattern, term), ("match", [(letter, name(letter)) for letter in LETTERS]))
