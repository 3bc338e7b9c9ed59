"""Terms that several tests use."""

from blankform.notes import shown

LETTERS = "abcdefghijklmnopqrstuvwxyz"


def number(n):
    return ("number", n)


def name(word):
    return ("name", word)


def blank(word):
    return ("blank", word)


def thing(word, *parts):
    return ("thing", word, parts)


# pair(?x,f(oak),-3)
PAIR = thing("pair", blank("x"), thing("f", name("oak")), number(-3))


def long_word(length):
    return (LETTERS[::-1] * (length // 26 + 1))[:length]


def long_number(figures):
    return int(("9081726354" * (figures // 10 + 1))[:figures])


def word_of(count):
    """Another word for every count."""
    word = LETTERS[count % 26]
    while count >= 26:
        count //= 26
        word += LETTERS[count % 26]
    return word + "q"


def deep(depth, leaf):
    """Things one within the other; the inner one stands between two leaves."""
    term = leaf
    for level in range(depth):
        term = thing(word_of(level), number(level), term, blank(word_of(level)))
    return term


def deep_line(depth, leaf_line):
    line = leaf_line
    for level in range(depth):
        line = word_of(level) + "(" + str(level) + "," + line + ",?" + word_of(level) + ")"
    return line


def wide(count):
    """A thing with `count` parts below it, of all four kinds, and its line."""
    parts = []
    lines = []
    made = 0
    while made < count:
        word = word_of(made)
        sort = made % 4 if made + 2 <= count else 0
        if sort == 0:
            parts.append(number(made - 6000))
            lines.append(str(made - 6000))
        elif sort == 1:
            parts.append(name(word))
            lines.append(word)
        elif sort == 2:
            parts.append(blank(word))
            lines.append("?" + word)
        else:
            parts.append(thing(word, blank(word)))
            lines.append(word + "(?" + word + ")")
        made += 2 if sort == 3 else 1
    return ("thing", "wide", tuple(parts)), "wide(" + ",".join(lines) + ")"


def count_parts(term):
    """How many terms lie below a term."""
    if term[0] != "thing":
        return 0
    return sum(1 + count_parts(part) for part in term[2])


class Picker:
    """Picks by a fixed row of numbers: the same picks on every run and every Python."""

    def __init__(self, seed):
        self.state = seed

    def below(self, count):
        self.state = (self.state * 6364136223846793005 + 1442695040888963407) % 2 ** 64
        return (self.state >> 33) % count

    def one_of(self, choices):
        return choices[self.below(len(choices))]


def picked_term(picker, words, depth):
    """A small term whose blanks have some of the words; names and things share them."""
    sort = picker.below(8 if depth else 4)
    if sort == 0:
        return number(picker.below(3) - 1)
    if sort == 1:
        return name(picker.one_of(words))
    if sort in (2, 3):
        return blank(picker.one_of(words))
    parts = [picked_term(picker, words, depth - 1) for _ in range(1 + picker.below(3))]
    return thing(picker.one_of(words), *parts)


def picked_filling(picker, words, depth):
    """A filling as it is handed in: from the word nearest to `a` on, no blank filled by itself."""
    filling = []
    for word in sorted(words):
        term = picked_term(picker, words, depth)
        if picker.below(3) and term != blank(word):
            filling.append((word, term))
    return filling


def comb(depth, leaf):
    """Things of two parts one within the other, the leaf within the innermost."""
    term = leaf
    for level in range(depth):
        term = thing("comb", name(word_of(level)), term)
    return term


def written(pairs):
    """A filling with its terms as lines: what can be kept and held against it later, however deep they are."""
    return [(word, shown(term)) for word, term in pairs]
