"""The parts of a term, its blanks, and whether two terms are the same."""

from blankform.errors import NoPart


def part_at(term, path):
    part = term
    for place in path:
        # A place below nought would count from the end in Python.
        if part[0] != "thing" or place < 0 or place >= len(part[2]):
            raise NoPart("the path leads nowhere")
        part = part[2][place]
    return part


def all_parts(term):
    # The term itself is the first, then its parts as they are met in its line.
    met = []
    # A list of what is to come, not calls within calls: terms may lie deep.
    coming = [term]
    while coming:
        part = coming.pop()
        met.append(part)
        if part[0] == "thing":
            # The end of the list is taken first, so the leftmost part goes last.
            coming.extend(list(reversed(part[2])))
    return met


def blanks_of(term):
    # A dict keeps the order of first meeting, and finds a word met before at once.
    words = {}
    for part in all_parts(term):
        if part[0] == "blank":
            words[part[1]] = True
    return list(words)


def head(term):
    # All that tells a term from others but what stands within its parts.
    if term[0] == "thing":
        return ("thing", term[1], len(term[2]))
    return term


def same(one, other):
    # Python's own == on tuples within tuples goes as many calls deep as the terms are.
    coming = [(one, other)]
    while coming:
        pair = coming.pop()
        if head(pair[0]) != head(pair[1]):
            return False
        if pair[0][0] == "thing":
            coming.extend(list(zip(pair[0][2], pair[1][2])))
    return True
