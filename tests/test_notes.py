import itertools
import re
import unittest

from blankform.errors import FormError, NoTerm
from blankform.notes import read, shown
from samples import (
    LETTERS, PAIR, blank, count_parts, deep, deep_line, long_number, long_word, name, number, thing, wide,
)

# Terms and their lines, as point 5 has them written.
WRITTEN = [
    (number(0), "0"),
    (number(1), "1"),
    (number(7), "7"),
    (number(9), "9"),
    (number(10), "10"),
    (number(100), "100"),
    (number(907), "907"),
    (number(1234567890), "1234567890"),
    (number(-1), "-1"),
    (number(-3), "-3"),
    (number(-10), "-10"),
    (number(-1234567890), "-1234567890"),
    (name("a"), "a"),
    (name("z"), "z"),
    (name("oak"), "oak"),
    (name(LETTERS), LETTERS),
    (blank("a"), "?a"),
    (blank("z"), "?z"),
    (blank("oak"), "?oak"),
    (blank(LETTERS), "?" + LETTERS),
    (thing("f", number(0)), "f(0)"),
    (thing("f", name("f")), "f(f)"),
    (thing("f", blank("f")), "f(?f)"),
    (thing("oak", number(-12), number(12)), "oak(-12,12)"),
    (thing("z", name("a"), name("b"), name("c"), name("d")), "z(a,b,c,d)"),
    (thing("f", thing("f", thing("f", name("x")))), "f(f(f(x)))"),
    (thing("f", thing("g", name("x")), thing("h", name("y"))), "f(g(x),h(y))"),
    (thing("f", thing("g", blank("x"), number(1)), blank("x"), thing("g", number(-1))), "f(g(?x,1),?x,g(-1))"),
    (PAIR, "pair(?x,f(oak),-3)"),
]

LISTED_AS_REFUSED = [
    "f(x)y", "f()", "f(x,)", "(x)", "?f(x)", "3(x)", "f(x)(y)", "x,y", "?", "-0", "07", "+1", "Oak", "",
]

OTHERS_REFUSED = {
    "a blank space": [
        " ", "  ", " x", "x ", "a b", "f (x)", "f( x)", "f(x )", "f(x) ", " f(x)", "f(x, y)", "f(x ,y)", "? x",
        "- 1", "1 2", "1 ", " 1", "?x ", " ?x",
    ],
    "another sign": [
        "OAK", "oAk", "oaK", "?X", "F(x)", "f(X)", "x1", "1x", "?x1", "?1", "f1(x)", "x_y", "_x", "x'", "\"x\"",
        "x.y", "1.5", "1e5", "0x1", "1_000", "a+b", "f(+1)", "f(x;y)", "f[x]", "{x}", "<x>", "x!", "#x", "$x",
        "x&y", "*", "x/y", "a:b", "a=b", "@x", "x\\y", "x^y", "`x", "x|y", "~x", "f(x)~", "a-b", "-x", "-?x",
        "-f(x)", "??x", "?-1", "x?", "x?y", "1?", "?x?y",
    ],
    "a part or a word missing": [
        "f(,)", "f(,x)", "f(x,,y)", "f(x,y,)", ",", ",x", "x,", "f(),", "()", "f(())", "f((x))", "f(g(),x)",
        "f(x,g())", "f(?)", "f(?,x)", "f(x,?)", "?()", "?(x)", "f(x,(y))", "((x))", "f(-)", "f(-,x)", "f(x,-)",
        "x,,y", "f(x),", ",f(x)",
    ],
    "brackets that don't match": [
        "(", ")", "f(", "f)", "f(x", "fx)", "f(x))", "f((x)", "f(g(x)", "f(g(x)))", ")f(", "f)x(", "f(x,", "f(x,y",
        "f(g(x),y", "f(g(x,y)", ")x", "x)", "x(", "?x)", "?x(", "1)", "1(", "(1", "-1)", "f(g(h(x))", "f(x]", "f[x)",
    ],
    "signs behind a thing's end": [
        "f(x)f(x)", "f(x)?y", "f(x)1", "f(x)-1", "f(x),g(y)", "f(x)()", "f(g(x)y)", "f(g(x)(y))", "f(g(x)?y)",
        "f(g(x)1,z)", "f(g(x)h(y))", "f(x)x", "f(x)(", "f(g(x)-1)",
    ],
    "something behind a term that is no thing": [
        "1,2", "?x,?y", "x(y)z", "?x(y)", "-1(x)", "0(x)", "f(?g(x))", "f(3(x))", "f(?x(y))", "f(1x)", "f(x1)",
        "f(?x?y)", "f(x?y)", "1-1", "1-", "x-", "12-3", "f(1-2)",
    ],
    "noughts ahead and signs of numbers": [
        "00", "000", "01", "007", "0123", "-00", "-01", "-07", "--1", "---1", "-", "--", "+", "+0", "-+1", "+-1",
        "f(00)", "f(07)", "f(-0)", "f(-07)", "f(1,-0)", "f(-0,1)", "f(x,01)", "f(--1)", "f(g(00))", "0-1", "-0x",
        "-0(x)", "00(x)",
    ],
}


class Shown(unittest.TestCase):
    def test_each_kind_of_term(self):
        for term, line in WRITTEN:
            self.assertEqual(shown(term), line)

    def test_the_line_is_a_text(self):
        for term, _ in WRITTEN:
            self.assertIs(type(shown(term)), str)

    def test_deep_terms(self):
        for depth in (200, 260):
            self.assertEqual(shown(deep(depth, name("end"))), deep_line(depth, "end"))

    def test_many_parts(self):
        for count in (12000, 12500):
            term, line = wide(count)
            self.assertEqual(count_parts(term), count)
            self.assertEqual(shown(term), line)

    def test_long_words_and_numbers(self):
        for term, line in long_terms():
            self.assertEqual(shown(term), line)

    def test_the_term_stays_as_it_is(self):
        def make():
            return thing("f", blank("x"), thing("g", blank("y"), name("x")), number(-1))

        term = make()
        self.assertEqual(shown(term), "f(?x,g(?y,x),-1)")
        self.assertEqual(term, make())
        self.assertEqual(shown(term), "f(?x,g(?y,x),-1)")


def long_terms():
    """Terms with words and numbers of two hundred signs and some more, and their lines."""
    pairs = []
    for length in (200, 260):
        word = long_word(length)
        n = long_number(length)
        pairs.append((number(n), str(n)))
        pairs.append((number(-n), "-" + str(n)))
        pairs.append((number(10 ** (length - 1)), "1" + "0" * (length - 1)))
        pairs.append((number(-(10 ** (length - 1))), "-1" + "0" * (length - 1)))
        pairs.append((name(word), word))
        pairs.append((blank(word), "?" + word))
        pairs.append((thing(word, blank(word), number(-n), name(word)), f"{word}(?{word},-{n},{word})"))
    return pairs


def is_written(line):
    """Whether some term is written as this line: things are taken away from within, `#` standing for each."""
    if re.search(r"[^a-z0-9?(),-]", line):
        return False
    leaf = r"(?:\??[a-z]+|0|-?[1-9][0-9]*|#)"
    before = None
    while line != before:
        before = line
        line = re.sub(rf"[a-z]+\({leaf}(?:,{leaf})*\)", "#", line)
    return re.fullmatch(leaf, line) is not None


class Read(unittest.TestCase):
    def assertNoTerm(self, line):
        with self.assertRaises(NoTerm, msg=repr(line)) as caught:
            read(line)
        self.assertIsInstance(caught.exception, FormError)
        self.assertIsInstance(caught.exception, ValueError)

    def assertRead(self, line, term):
        answer = read(line)
        self.assertEqual(answer, term)
        self.assertPlain(answer)

    def assertPlain(self, term):
        waiting = [term]
        while waiting:
            part = waiting.pop()
            self.assertIs(type(part), tuple)
            self.assertIn(part[0], ("number", "name", "blank", "thing"))
            self.assertIs(type(part[1]), int if part[0] == "number" else str)
            self.assertEqual(len(part), 3 if part[0] == "thing" else 2)
            if part[0] == "thing":
                self.assertIs(type(part[2]), tuple)
                waiting.extend(part[2])

    def test_each_written_line_is_read_to_its_term(self):
        for term, line in WRITTEN:
            self.assertRead(line, term)

    def test_deep_lines(self):
        for depth in (200, 260):
            self.assertRead(deep_line(depth, "end"), deep(depth, name("end")))
            for line in ("f(" * depth, ")" * depth, "f(" * depth + "x" + ")" * (depth - 1)):
                self.assertNoTerm(line)
            self.assertNoTerm("f(" * depth + "x" + ")" * (depth + 1))
            self.assertNoTerm("f(" * depth + ")" * depth)

    def test_lines_of_many_parts(self):
        for count in (12000, 12500):
            term, line = wide(count)
            self.assertRead(line, term)
            self.assertNoTerm(line[:-1])
            self.assertNoTerm(line + ")")
            self.assertNoTerm(line[:-1] + ",)")

    def test_long_words_and_numbers(self):
        for term, line in long_terms():
            self.assertRead(line, term)
        self.assertNoTerm("0" + "1" * 199)
        self.assertNoTerm("-" + "0" * 200)
        self.assertNoTerm("a" * 199 + "A")

    def test_the_lines_listed_as_refused(self):
        for line in LISTED_AS_REFUSED:
            self.assertNoTerm(line)

    def test_other_lines_of_those_sorts(self):
        for sort, lines in OTHERS_REFUSED.items():
            for line in lines:
                with self.subTest(sort=sort, line=line):
                    self.assertNoTerm(line)

    def test_refused_lines_within_things(self):
        # Signs that are wrong by themselves are wrong as a part, but for parts with a `,` between.
        for line in LISTED_AS_REFUSED:
            if line != "x,y":
                self.assertNoTerm("f(" + line + ")")
                self.assertNoTerm("f(a," + line + ")")
                self.assertNoTerm("f(" + line + ",a)")

    def test_every_sign_at_every_place(self):
        signs = [chr(code) for code in range(32, 127) if chr(code) != "%"]
        self.assertEqual(len(signs), 94)
        for base in ("", "x", "?x", "10", "-3", "f(x)", "f(?x,g(oak),-3)"):
            for place in range(len(base) + 1):
                for sign in signs:
                    self.assertJudged(base[:place] + sign + base[place:])
                    self.assertJudged(base[:place] + sign + base[place + 1:])

    def test_every_short_line(self):
        for length in range(6):
            for signs in itertools.product("ab?(),-01", repeat=length):
                self.assertJudged("".join(signs))

    def assertJudged(self, line):
        try:
            term = read(line)
        except NoTerm:
            if is_written(line):
                self.fail(f"{line!r} was refused")
            return
        if not is_written(line) or shown(term) != line:
            self.fail(f"{line!r} was read as {term!r}")

    def test_a_refusal_leaves_nothing_behind(self):
        self.assertNoTerm("f(g(x")
        self.assertRead("x", name("x"))
        self.assertRead("f(x)", thing("f", name("x")))
        self.assertRead("f(x)", thing("f", name("x")))


class ReadAndShown(unittest.TestCase):
    def test_kinds_with_the_same_word_are_read_apart(self):
        terms = [read(line) for line in ("x", "?x", "x(x)", "x(?x)", "x(x,x)", "y", "?y", "y(x)")]
        for first, second in itertools.combinations(terms, 2):
            self.assertNotEqual(first, second)
        lines = [shown(term) for term in terms]
        self.assertEqual(len(set(lines)), len(lines))

    def test_terms_of_all_small_shapes_come_back(self):
        leaves = [number(0), number(-12), name("x"), blank("x")]
        smaller = leaves + [thing("f", leaf) for leaf in leaves] + [thing("g", *pair) for pair in itertools.product(leaves, repeat=2)]
        for first, second in itertools.product(smaller, repeat=2):
            term = thing("h", first, second)
            self.assertEqual(read(shown(term)), term)
