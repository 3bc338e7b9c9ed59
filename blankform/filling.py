"""Blanks filled by terms, and two fillings joined to one."""

from blankform.terms import all_parts


def filled(term, filling):
    return replaced(term, dict(filling))


def replaced(term, terms):
    made = []
    # Taken from the last part on, a thing's parts are made before the thing
    # itself, and its first part is then the last one made.
    for part in reversed(all_parts(term)):
        if part[0] == "thing":
            parts = taken(made, len(part[2]))
            made.append(("thing", part[1], tuple(parts)))
        elif part[0] == "blank":
            made.append(terms.get(part[1], part))
        else:
            made.append(part)
    return made[0]


def taken(made, count):
    last = []
    while len(last) < count:
        last.append(made.pop())
    return last


def joined(first, second):
    later = dict(second)
    # A word of both is filled by the first alone: what the second has for it comes too late.
    terms = dict(second)
    for pair in first:
        terms[pair[0]] = replaced(pair[1], later)
    return filling_of(terms)


def filling_of(terms):
    # A blank that is to be filled by itself is left out.
    return [(word, terms[word]) for word in sorted(terms) if terms[word] != ("blank", word)]
