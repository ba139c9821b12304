"""Places: tuples of steps (d, hand, number). The empty tuple stands for none.

Python compares tuples just as places are ordered: by the first other step, or the one that ends first.
"""


def first_place(k):
    """The place of the k-th of the first rows or columns."""
    return ((k, 0, k),)


def between(first, second, hand, number):
    """The place between two places, either of which may be none, by a hand and a number."""
    steps = []
    while first and second and first[0][0] + 1 >= second[0][0]:
        steps.append(first[0])
        # Behind another step the second bounds nothing any more: whatever follows comes before it.
        second = second[1:] if first[0] == second[0] else ()
        first = first[1:]
    steps.append((free_d(first, second), hand, number))
    return tuple(steps)


def free_d(first, second):
    """The d of one step that fits between two places that leave room for it."""
    if first:
        return first[0][0] + 1
    if second:
        return second[0][0] - 1
    return 0


def places_between(first, second, hand, number, n):
    """So many places in order between two."""
    places = []
    last = first
    for i in range(n):
        last = between(last, second, hand, number + i)
        places.append(last)
    return places
