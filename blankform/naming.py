"""Blanks called by other words, and terms that are the same but for the words of their blanks."""

from blankform.filling import replaced
from blankform.matching import matched
from blankform.terms import blanks_of


def renamed(term, names):
    return replaced(term, dict([(pair[0], ("blank", pair[1])) for pair in names]))


def same_but_names(one, other):
    told = matched(one, other)
    if told[0] != "match":
        return None
    terms = dict(told[1])
    names = []
    taken = {}
    for word in sorted(blanks_of(one)):
        # The filling is silent on a blank that keeps its word.
        term = terms.get(word, ("blank", word))
        if term[0] != "blank" or term[1] in taken:
            return None
        taken[term[1]] = True
        names.append((word, term[1]))
    return names
