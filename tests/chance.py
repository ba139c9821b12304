"""Calls by chance, of a fixed seed: mostly such as are answered, now and then such as are refused."""

from tests.support import (
    HIGH, LOW, acts, bring, move, passed, put, redo, remove, set_cell, sheet, sync, undo)

NAMES = ("put", "remove", "remove", "move", "move", "set", "set", "set", "set", "undo", "undo", "redo", "redo",
         "bring", "bring", "bring", "bring", "bring", "sync", "sheet", "passed", "acts")
OF_A_HAND = {"undo": undo, "redo": redo, "sheet": sheet, "passed": passed, "acts": acts}


def near(chance, low, high):
    """Mostly from low to high, now and then just or far beyond."""
    if chance.random() < 0.03:
        return chance.choice((low - 1, high + 1, LOW, HIGH))
    return chance.randint(low, max(low, high))


def a_content(chance, rows, columns):
    def row():
        return near(chance, 0, rows - 1)

    def column():
        return near(chance, 0, columns - 1)

    contents = ([0], [1, chance.choice((LOW, -3, 0, 8, HIGH))], [2, row(), column(), row(), column()],
                [2, row(), column(), row(), column()], [3, chance.randint(-5, 5), row(), column(), HIGH],
                [chance.randint(-1, 5)] * chance.randint(1, 8))
    return chance.choice(contents)


def an_axis_call(chance, name, hand, sizes):
    axis = near(chance, 0, 1)
    size = sizes[axis] if axis in (0, 1) else 1
    n = near(chance, 1, min(3, size)) if chance.random() < 0.95 else chance.choice((0, 16, 17, 64, 65))
    if name == "put":
        return put(hand, axis, near(chance, 0, size), n)
    k = near(chance, 0, size - n)
    if name == "remove":
        return remove(hand, axis, k, n)
    j = near(chance, 0, size)
    return move(hand, axis, k, n, k if chance.random() < 0.1 else j)


def a_bring(chance, model, hand, g):
    if hand not in model.copies or chance.random() < 0.2:
        return bring(hand, g, near(chance, 0, 5))
    made = [act for act in model.copies.get(g, []) if act["hand"] == g]
    missing = [act["number"] for act in made if not model.among(act, model.copies[hand])]
    # Near the first that is missing: some come at once, some wait for few others.
    return bring(hand, g, chance.choice(missing[:3]) if missing else 1)


def a_call(chance, model):
    hand = near(chance, 1, model.hands)
    g = near(chance, 1, model.hands)
    copy = model.copies.get(hand, [])
    sizes = [len(model.there(copy, 0)), len(model.there(copy, 1))]
    name = chance.choice(NAMES)
    if name in ("put", "remove", "move"):
        return an_axis_call(chance, name, hand, sizes)
    if name == "set":
        row = near(chance, 0, min(sizes[0] - 1, 1))
        column = near(chance, 0, min(sizes[1] - 1, 1))
        return set_cell(hand, row, column, *a_content(chance, *sizes))
    if name == "bring":
        makers = [one for one in model.copies if model.own(one) and one != hand]
        return a_bring(chance, model, hand, chance.choice(makers) if makers and chance.random() < 0.9 else g)
    if name == "sync":
        return sync(hand, g)
    return OF_A_HAND[name](hand)


def a_begin_size(chance):
    """How many rows, columns and hands: few, so that hands meet."""
    return near(chance, 1, 5), near(chance, 1, 4), near(chance, 1, 3) + 1


def closing(hands):
    """Everything that can be looked at, then everything to everybody, and the same looked at again."""
    every = range(1, hands + 1)
    looks = [look(hand) for hand in every for look in (sheet, passed, acts)]
    return looks + [sync(1, g) for g in every] + [sync(g, 1) for g in every] + looks
