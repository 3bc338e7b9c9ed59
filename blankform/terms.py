"""The parts of a term, and its blanks."""

from blankform.errors import NoPart


def part_at(term, path):
    part = term
    for place in path:
        # A place below nought would count from the end in Python.
        if part[0] != "thing" or place < 0 or place >= len(part[2]):
            raise NoPart("the path leads nowhere")
        part = part[2][place]
    return part


def blanks_of(term):
    # A dict keeps the order of first meeting, and finds a word met before at once.
    met = {}
    # A list of what is to come, not calls within calls: terms may lie deep.
    coming = [term]
    while coming:
        part = coming.pop()
        if part[0] == "blank":
            met[part[1]] = True
        elif part[0] == "thing":
            # The end of the list is taken first, so the leftmost part goes last.
            coming.extend(list(reversed(part[2])))
    return list(met)
