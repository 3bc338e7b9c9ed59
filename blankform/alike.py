"""Two terms made alike, or the lines that show why they can't be."""

from blankform.filling import filling_of, replaced
from blankform.reckoning import Reckoning
from blankform.terms import blanks_of


def alike(one, other):
    reckoning = Reckoning(one, other)
    reckoning.work_out()
    if reckoning.clash is not None:
        return ("clash", reckoning.lines, reckoning.clash)
    numbers = lines_by_word(reckoning, blanks_of(one) + blanks_of(other))
    ends = ends_by_word(reckoning.lines, numbers)
    terms = settled(ends)
    if len(terms) < len(ends):
        return ("ring", reckoning.lines, [numbers[word] for word in ring_of(ends, terms)])
    filling = filling_of(terms)
    return ("alike", filling, reckoning.lines, [numbers[pair[0]] for pair in filling])


def lines_by_word(reckoning, words):
    # A blank that is an end itself stays as it is, and has no line.
    numbers = {}
    for word in words:
        number = reckoning.line_to_end(("blank", word))
        if number is not None:
            numbers[word] = number
    return numbers


def ends_by_word(lines, numbers):
    ends = {}
    for word, number in numbers.items():
        ends[word] = lines[number][1]
    return ends


def settled(ends):
    # A blank's end still has blanks to be filled in it: first come those with none. Words that
    # stand in a ring, or need one that does, never come.
    terms = {}
    ready = ready_words(ends, terms)
    while ready:
        for word in ready:
            terms[word] = replaced(ends[word], terms)
        ready = ready_words(ends, terms)
    return terms


def ready_words(ends, terms):
    return [word for word in ends if word not in terms and not words_ahead(ends, terms, word)]


def words_ahead(ends, terms, word):
    return [needed for needed in blanks_of(ends[word]) if needed in ends and needed not in terms]


def ring_of(ends, terms):
    # Each word that isn't settled needs another such: going on from one to the next comes round in the end.
    word = [unsettled for unsettled in ends if unsettled not in terms][0]
    walked = []
    while word not in walked:
        walked.append(word)
        word = words_ahead(ends, terms, word)[0]
    return walked[walked.index(word):]
