"""The lines that follow from two terms that have to be alike."""

from blankform.notes import shown
from blankform.terms import head, same


class Reckoning:
    # Terms that have to be alike are led together by lines: from each of them lines lead on to the same end,
    # which is a blank only where all of them are. What has been led together is not looked at again: else
    # small terms, whose blanks each stand for twice the next one, could take ages.

    def __init__(self, one, other):
        self.lines = [(one, other, ("given",))]
        # The number of the line that leads on from a term, told by the text that it is written as: Python's own
        # look for a tuple in a dict goes as many calls deep as the term is.
        self.onward = {}
        self.clash = None

    def work_out(self):
        coming = [0]
        while coming and self.clash is None:
            number = coming.pop()
            coming.extend(self.led_together(number))

    def led_together(self, number):
        # Given back are the lines whose terms then have to be led together too.
        line = self.lines[number]
        if same(self.end_of(line[0]), self.end_of(line[1])):
            return []
        between = self.between_ends(number)
        one = self.lines[between][0]
        other = self.lines[between][1]
        if one[0] == "blank":
            self.lead_on(between)
            return []
        if other[0] == "blank":
            self.lead_on(self.turned(between))
            return []
        if head(one) != head(other):
            self.clash = between
            return []
        # Two things: of numbers and names, those with the same head are the same.
        self.lead_on(between)
        return self.part_lines(between)

    def lead_on(self, number):
        self.onward[shown(self.lines[number][0])] = number

    def line_on(self, term):
        return self.onward.get(shown(term))

    def line_to_end(self, term):
        # The number of a line from the term to its end, None where it is the end itself.
        steps = []
        number = self.line_on(term)
        while number is not None:
            steps.append(number)
            number = self.line_on(self.lines[number][1])
        whole = None
        for step in reversed(steps):
            whole = step if whole is None else self.chained(step, whole)
            # Kept, so that the same way is not chained again.
            self.lead_on(whole)
        return whole

    def end_of(self, term):
        number = self.line_to_end(term)
        return term if number is None else self.lines[number][1]

    def between_ends(self, number):
        line = self.lines[number]
        ahead = self.line_to_end(line[0])
        behind = self.line_to_end(line[1])
        between = number
        if ahead is not None:
            between = self.chained(self.turned(ahead), between)
        if behind is not None:
            between = self.chained(between, behind)
        return between

    def part_lines(self, number):
        line = self.lines[number]
        parts = []
        for place, pair in enumerate(zip(line[0][2], line[1][2])):
            parts.append(self.added(pair[0], pair[1], ("part", number, place)))
        # The end of the list of what is to come is taken first: so the leftmost goes last.
        return list(reversed(parts))

    def turned(self, number):
        line = self.lines[number]
        return self.added(line[1], line[0], ("turn", number))

    def chained(self, number, further):
        return self.added(self.lines[number][0], self.lines[further][1], ("chain", number, further))

    def added(self, one, other, reason):
        self.lines.append((one, other, reason))
        return len(self.lines) - 1
