"""The lines of a reckoning: whether they follow, and whether they show that nothing can be made alike."""

from blankform.terms import blanks_of, head, same


def sound(lines, one, other):
    earlier = []
    for line in lines:
        led_to = terms_by(line[2], earlier, (one, other))
        if led_to is None or not same(line[0], led_to[0]) or not same(line[1], led_to[1]):
            return False
        earlier.append(line)
    return True


def terms_by(reason, earlier, given):
    # The two terms that a reason leads to, None where it leads to none.
    if reason[0] == "given":
        return given
    if not is_place(reason[1], earlier):
        return None
    line = earlier[reason[1]]
    if reason[0] == "turn":
        return (line[1], line[0])
    if reason[0] == "part":
        return parts_of_both(line, reason[2])
    if not is_place(reason[2], earlier):
        return None
    return chained(line, earlier[reason[2]])


def is_place(number, holder):
    # A number below nought would count from the end in Python.
    return 0 <= number < len(holder)


def parts_of_both(line, place):
    one = line[0]
    other = line[1]
    if one[0] != "thing" or head(one) != head(other) or not is_place(place, one[2]):
        return None
    return (one[2][place], other[2][place])


def chained(line, further):
    if not same(line[1], further[0]):
        return None
    return (line[0], further[1])


def is_clash(lines, number):
    one = lines[number][0]
    other = lines[number][1]
    return one[0] != "blank" and other[0] != "blank" and head(one) != head(other)


def is_ring(lines, numbers):
    ring = [lines[number] for number in numbers]
    if not all([line[0][0] == "blank" for line in ring]):
        return False
    # Behind the last comes the first.
    for line, following in zip(ring, ring[1:] + ring[:1]):
        if following[0][1] not in blanks_of(line[1]):
            return False
    return any([line[1][0] == "thing" for line in ring])
