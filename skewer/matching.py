"""How fields and ways can be put upon fields and ways of the same board, found by colours."""


def matches(rows, left, right, most):
    """Returns the orders in which fields and ways can be put upon fields and ways, so that they lead likewise.

    The rows are those of the ways. An order is a list that has, for each field and then for each way, the place of the
    one upon which it is put. Left and right have, for each field and then for each way, a colour, which is anything
    that can be put in order; both have the same colours, in different places. What is put upon another one has on the
    left the colour that this one has on the right.
    If there are more orders than the greatest number, only some are returned, but more than this number.
    """
    found = []
    first, second = numbered(left, right)
    add_matches(rows, first, second, most, found)
    return found


def numbered(left, right):
    """Returns the two lists, which have the same members, with the number of each member in ascending order."""
    numbers = {member: number for number, member in enumerate(sorted(set(left)))}
    return ([numbers[member] for member in left], [numbers[member] for member in right])


def add_matches(rows, left, right, most, found):
    """Puts all orders into the list, as long as there are not more of them than the greatest number."""
    pair = finer(rows, left, right)
    if pair is None:
        return
    fine, others = pair
    place = first_of_several(fine)
    if place is None:
        found.append([others.index(colour) for colour in fine])
        return
    # Which one it is put upon is not told by the colours: each one is tried.
    for other, colour in enumerate(others):
        if colour == fine[place] and len(found) <= most:
            add_matches(rows, singled_out(fine, place), singled_out(others, other), most, found)


def finer(rows, left, right):
    """Returns the pair of the two lists of colours, made finer by what lies around, or None if they do not agree."""
    while True:
        marks = marks_of(rows, left)
        others = marks_of(rows, right)
        if sorted(marks) != sorted(others):
            return None
        number = len(set(left))
        left, right = numbered(marks, others)
        if len(set(left)) == number:
            return (left, right)


def marks_of(rows, colours):
    """Returns, for each field and each way, its colour with the colours of those that ways lead together with it."""
    size = len(colours) - len(rows)
    around = [[] for _ in colours]
    for way, row in enumerate(rows):
        own = colours[size + way]
        for field, there in enumerate(row):
            if there != -1:
                around[field].append((0, own, colours[there]))
                around[there].append((1, own, colours[field]))
                around[size + way].append((2, colours[field], colours[there]))
    return [(colour, tuple(sorted(near))) for colour, near in zip(colours, around)]


def first_of_several(colours):
    """Returns the first place with a colour that another place has too, or None if there is none."""
    for place, colour in enumerate(colours):
        if colours.count(colour) > 1:
            return place
    return None


def singled_out(colours, place):
    """Returns the colours with one at this place that no other place has."""
    return colours[:place] + [len(colours)] + colours[place + 1:]
