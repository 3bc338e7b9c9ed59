"""A pattern matched with a term."""

from blankform.filling import filling_of
from blankform.terms import head, same


def matched(pattern, term):
    terms = {}
    paths = {}
    coming = [(pattern, term, [])]
    while coming:
        step = coming.pop()
        asked = step[0]
        part = step[1]
        path = step[2]
        if asked[0] == "blank":
            # A blank is kept even where it meets itself: it may meet another part later on.
            word = asked[1]
            if word not in terms:
                terms[word] = part
                paths[word] = path
            elif not same(terms[word], part):
                return ("two", paths[word], path)
        elif head(asked) != head(part):
            return ("differ", path)
        elif asked[0] == "thing":
            coming.extend(steps_within(asked, part, path))
    return ("match", filling_of(terms))


def steps_within(asked, part, path):
    steps = [(pair[0], pair[1], path + [place]) for place, pair in enumerate(zip(asked[2], part[2]))]
    # The end of the list of what is to come is taken first: so the leftmost goes last.
    return list(reversed(steps))
