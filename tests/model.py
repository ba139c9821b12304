"""The document's words once more, told as plainly as may be: everything is found anew from the acts each time."""


def step_order(one, other):
    for a, b in zip(one, other):
        if a != b:
            return -1 if a < b else 1
    return 0


def comes_first(one, other):
    for a, b in zip(one, other):
        if step_order(a, b) != 0:
            return step_order(a, b) < 0
    return len(one) < len(other)


def between(first, second, me):
    hand, m = me
    if not first and not second:
        return [[0, hand, m]]
    if not second:
        return [[first[0][0] + 1, hand, m]]
    if not first:
        return [[second[0][0] - 1, hand, m]]
    if first[0][0] + 1 < second[0][0]:
        return [[first[0][0] + 1, hand, m]]
    if first[0] == second[0]:
        return [first[0]] + between(first[1:], second[1:], me)
    return [first[0]] + between(first[1:], None, me)


NAMES = ("begin", "put", "remove", "move", "set", "undo", "redo", "bring", "sync", "sheet", "passed", "acts")


class Refusal(Exception):
    pass


def refuse_if(wrong, number):
    if wrong:
        raise Refusal(number)


class Model:
    def __init__(self):
        self.begin(1, 1, 1)

    def begin(self, rows, cols, hands):
        refuse_if(rows not in range(1, 65) or cols not in range(1, 65) or hands not in range(1, 9), -1)
        self.sizes = [rows, cols]
        self.hands = hands
        self.copies = {hand: [] for hand in range(1, hands + 1)}
        self.waiting = {hand: [] for hand in range(1, hands + 1)}
        return [0]

    def first_value(self, target):
        if target[0] == "cell":
            return [0]
        if target[0] == "gone":
            return False
        hand, k = target[2]
        return [[k, 0, k]] if hand == 0 else None

    def counting(self, acts, target):
        best = None
        for act in acts:
            if any(target == other for other, value in act["writes"]):
                if best is None or (act["time"], act["hand"]) > (best["time"], best["hand"]):
                    best = act
        return best

    def value(self, acts, target):
        act = self.counting(acts, target)
        return self.first_value(target) if act is None else [v for t, v in act["writes"] if t == target][0]

    def line(self, acts, axis):
        numbers = [(0, k) for k in range(self.sizes[axis])]
        for act in acts:
            for target, value in act["writes"]:
                if target[:2] == ("place", axis) and target[2] not in numbers:
                    numbers.append(target[2])
        placed = [(self.value(acts, ("place", axis, number)), number) for number in numbers]
        line = []
        for place, number in placed:
            if place is not None:
                at = len([1 for other, x in placed if other is not None and comes_first(other, place)])
                line.append((at, place, number))
        return [(number, place) for at, place, number in sorted(line, key=lambda entry: entry[0])]

    def there(self, acts, axis):
        return [number for number, place in self.line(acts, axis) if not self.value(acts, ("gone", axis, number))]

    def make(self, hand, kind, writes):
        copy = self.copies[hand]
        copy.append({
            "hand": hand, "kind": kind, "writes": writes, "number": self.coming(hand),
            "time": max([act["time"] for act in copy], default=0) + 1,
            "knows": list(copy)})

    def own(self, hand):
        return [act for act in self.copies[hand] if act["hand"] == hand]

    def coming(self, hand):
        return len(self.own(hand)) + 1

    def look_hands(self, *hands):
        refuse_if(any(hand not in range(1, self.hands + 1) for hand in hands), -1)

    def look(self, hand, axis, n, most):
        self.look_hands(hand)
        refuse_if(axis not in (0, 1) or n not in range(1, most + 1), -1)

    def place(self, hand, axis, numbers, line, behind):
        me = 64 * self.coming(hand)
        places = dict(line)
        order = [number for number, place in line]
        at = len(order) if behind is None else order.index(behind)
        first = places[order[at - 1]] if at > 0 else None
        second = places[behind] if behind is not None else None
        writes = []
        for i, number in enumerate(numbers):
            first = between(first, second, (hand, me + i))
            writes.append((("place", axis, number), first))
        self.make(hand, "plain", writes)
        return [len(numbers)]

    def put(self, hand, axis, k, n):
        self.look(hand, axis, n, 16)
        there = self.there(self.copies[hand], axis)
        refuse_if(k not in range(len(there) + 1), -2)
        fresh = [(hand, 64 * self.coming(hand) + i) for i in range(n)]
        return self.place(hand, axis, fresh, self.line(self.copies[hand], axis), (there + [None])[k])

    def remove(self, hand, axis, k, n):
        self.look(hand, axis, n, 64)
        there = self.there(self.copies[hand], axis)
        refuse_if(k < 0 or len(there[k:k + n]) != n, -2)
        self.make(hand, "plain", [(("gone", axis, number), True) for number in there[k:k + n]])
        return [n]

    def move(self, hand, axis, k, n, j):
        self.look(hand, axis, n, 64)
        there = self.there(self.copies[hand], axis)
        refuse_if(k < 0 or len(there[k:k + n]) != n, -2)
        refuse_if(j not in range(len(there) + 1) or j in range(k + 1, k + n), -2)
        moved = there[k:k + n]
        line = [pair for pair in self.line(self.copies[hand], axis) if pair[0] not in moved]
        return self.place(hand, axis, moved, line, (there + [None])[k + n if j == k else j])

    def set(self, hand, row, column, content):
        self.look_hands(hand)
        rows = self.there(self.copies[hand], 0)
        columns = self.there(self.copies[hand], 1)
        refuse_if(row not in range(len(rows)) or column not in range(len(columns)), -2)
        forms = {(0, 1): "f", (1, 2): "fn", (2, 5): "frcrc", (3, 5): "fnrcn"}
        form = forms.get((content[0], len(content)))
        refuse_if(form is None, -3)
        value = []
        for kind, number in zip(form, content):
            known = {"r": rows, "c": columns}.get(kind)
            refuse_if(known is not None and number not in range(len(known)), -3)
            value.append(number if known is None else known[number])
        self.make(hand, "plain", [(("cell", rows[row], columns[column]), value)])
        return [0]

    def undo(self, hand):
        self.look_hands(hand)
        return self.take_back(hand, "undo")

    def redo(self, hand):
        self.look_hands(hand)
        return self.take_back(hand, "redo")

    def take_back(self, hand, kind):
        can = {"undo": [], "redo": []}
        other = {"undo": "redo", "redo": "undo"}
        for act in self.own(hand):
            if act["kind"] == "plain":
                can = {"undo": can["undo"] + [act], "redo": []}
            else:
                can[act["kind"]] = can[act["kind"]][:-1]
                can[other[act["kind"]]] = can[other[act["kind"]]] + [act]
        refuse_if(not can[kind], -2)
        act = can[kind][-1]
        writes = [(target, self.value(act["knows"], target)) for target, value in act["writes"]
                  if self.counting(self.copies[hand], target) is act]
        self.make(hand, kind, writes)
        return [len(writes)]

    def among(self, act, others):
        return any(act is other for other in others)

    def come(self, hand, act):
        copy = self.copies[hand]
        waiting = self.waiting[hand]
        if self.among(act, copy) or self.among(act, waiting):
            return 0
        many = len(copy)
        waiting.append(act)
        while True:
            ready = [one for one in waiting if all(self.among(known, copy) for known in one["knows"])]
            if not ready:
                return len(copy) - many
            taken = min(ready, key=lambda one: (one["hand"], one["number"]))
            copy.append(taken)
            waiting[:] = [one for one in waiting if one is not taken]

    def bring(self, hand, g, k):
        self.look_hands(hand, g)
        found = [act for act in self.own(g) if act["number"] == k]
        refuse_if(not found, -2)
        return [self.come(hand, found[0])]

    def sync(self, hand, g):
        self.look_hands(hand, g)
        return [sum([self.come(hand, act) for act in list(self.copies[g])])]

    def among_corners(self, acts, axis, one, other):
        """Which of those that are there, from 0 on, lie in the line from one corner to the other."""
        line = [number for number, place in self.line(acts, axis)]
        there = self.there(acts, axis)
        if one not in line or other not in line:
            return []
        low, high = sorted([line.index(one), line.index(other)])
        return [there.index(number) for number in line[low:high + 1] if number in there]

    def shows(self, acts, row, column):
        value = self.value(acts, ("cell", row, column))
        if value[0] in (0, 1):
            return value
        corners = value[1:] if value[0] == 2 else value[2:4] * 2
        rows = self.among_corners(acts, 0, corners[0], corners[2])
        columns = self.among_corners(acts, 1, corners[1], corners[3])
        if not rows or not columns:
            return [4]
        if value[0] == 2:
            return [2, rows[0], columns[0], rows[-1], columns[-1]]
        return [3, value[1], rows[0], columns[0], value[4]]

    def sheet(self, hand):
        self.look_hands(hand)
        acts = self.copies[hand]
        rows = self.there(acts, 0)
        columns = self.there(acts, 1)
        answer = [0, len(rows), len(columns)]
        for row in rows:
            for column in columns:
                answer += self.shows(acts, row, column)
        return answer

    def passed(self, hand):
        self.look_hands(hand)
        codes = {("place", 0): 0, ("gone", 0): 1, ("place", 1): 2, ("gone", 1): 3}
        found = []
        for g in range(1, self.hands + 1):
            for act in sorted([act for act in self.copies[hand] if act["hand"] == g], key=lambda one: one["number"]):
                for target, value in act["writes"]:
                    counts = self.counting(self.copies[hand], target)
                    if counts is not act and not self.among(act, counts["knows"]):
                        found.append([g, act["number"], codes.get(target[:2], 4), counts["hand"], counts["number"]])
        return [len(found)] + [number for one in found for number in one]

    def acts(self, hand):
        self.look_hands(hand)
        many = [len([act for act in self.copies[hand] if act["hand"] == g]) for g in range(1, self.hands + 1)]
        return [len(self.copies[hand]), len(self.waiting[hand])] + many

    def answer(self, call):
        name = NAMES[call[0] - 1]
        numbers = call[1:4] + [call[5:]] if name == "set" else call[1:]
        try:
            return getattr(self, name)(*numbers)
        except Refusal as refusal:
            return [refusal.args[0]]
