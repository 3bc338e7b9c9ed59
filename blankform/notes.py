"""Terms written as lines, and lines read as terms."""

from blankform.errors import NoTerm


def shown(term):
    texts = []
    # A list of what is to come, not calls within calls: terms may lie deep.
    coming = [term]
    while coming:
        piece = coming.pop()
        if isinstance(piece, str):
            texts.append(piece)
        elif piece[0] == "thing":
            texts.append(piece[1] + "(")
            push_parts(coming, piece[2])
        else:
            texts.append(shown_leaf(piece))
    return "".join(texts)


def push_parts(coming, parts):
    # What is pushed last is written first.
    coming.append(")")
    for part in reversed(parts[1:]):
        coming.append(part)
        coming.append(",")
    coming.append(parts[0])


def shown_leaf(term):
    if term[0] == "number":
        return str(term[1])
    if term[0] == "blank":
        return "?" + term[1]
    return term[1]


def read(line):
    return Reader(line).whole()


class Reader:
    # The things that have begun and not ended are kept in a list, as a line
    # may hold more of them, one within the other, than calls may lie deep.

    def __init__(self, line):
        self.line = line
        self.place = 0
        self.begun = []

    def whole(self):
        term = self.leaf()
        while self.begun:
            self.begun[-1][1].append(term)
            if self.sign() == ",":
                self.place += 1
                term = self.leaf()
            else:
                term = self.ended_thing()
        if self.place < len(self.line):
            raise NoTerm("signs behind the term's end")
        return term

    def leaf(self):
        # Whether a word begins a thing shows only behind it.
        word = self.letters()
        while word != "" and self.sign() == "(":
            self.place += 1
            self.begun.append((word, []))
            word = self.letters()
        if word != "":
            return ("name", word)
        if self.sign() == "?":
            self.place += 1
            return self.blank()
        return self.number()

    def blank(self):
        word = self.letters()
        if word == "":
            raise NoTerm("a blank without a word")
        return ("blank", word)

    def number(self):
        start = self.place
        if self.sign() == "-":
            self.place += 1
        figures = self.run("0", "9")
        written = self.line[start:self.place]
        if figures == "":
            raise NoTerm("no term where one has to stand")
        if figures[0] == "0" and written != "0":
            raise NoTerm("a nought ahead of a number, or a nought below nought")
        return ("number", int(written))

    def ended_thing(self):
        if self.sign() != ")":
            raise NoTerm("neither a further part nor the thing's end")
        self.place += 1
        thing = self.begun.pop()
        return ("thing", thing[0], tuple(thing[1]))

    def sign(self):
        # A slice is empty behind the line's end, where an index would fail.
        return self.line[self.place:self.place + 1]

    def letters(self):
        return self.run("a", "z")

    def run(self, first, last):
        start = self.place
        while first <= self.sign() <= last:
            self.place += 1
        return self.line[start:self.place]
