"""The copy of one hand: the acts that are in it, those that wait, and what stands there by them."""

from sheethands.act import at_first, axis_of_place, gone_of, is_place
from sheethands.place import first_place


class Copy:
    """A copy; places holds, for each axis, the place of each number that has one, and line tells their order."""

    def __init__(self, rows, cols, hands):
        self.time = 0
        self.had = [0] * hands
        self.came = []
        self.waiting = {}
        self.counting = {}
        self.places = [first_places(rows), first_places(cols)]
        self.unordered = {}

    def receive(self, act):
        """An act comes. Gives back how many are there now that weren't."""
        key = (act.hand, act.number)
        if self.has_act(act) or key in self.waiting:
            return 0
        before = len(self.came)
        self.waiting[key] = act
        ready = self.first_ready()
        while ready is not None:
            self.take(self.waiting.pop(ready))
            ready = self.first_ready()
        return len(self.came) - before

    def has_act(self, act):
        # An act knows all earlier ones of its hand, so those that are there are always the hand's first.
        return act.number <= self.had[act.hand - 1]

    def first_ready(self):
        """Of those that wait the first, by hand and number, of which all that it knows is there; None for none."""
        for key in sorted(self.waiting):
            if self.is_ready(self.waiting[key]):
                return key
        return None

    def is_ready(self, act):
        return all([known <= had for known, had in zip(act.knows, self.had)])

    def take(self, act):
        """Put an act in, all of whose known acts are there."""
        self.came.append(act)
        self.time = max(self.time, act.time)
        self.had[act.hand - 1] += 1
        for target in act.writes:
            other = self.counting.get(target)
            if other is None or act.is_later(other):
                self.counting[target] = act
                if is_place(target):
                    self.set_place(target, act.writes[target])

    def set_place(self, target, place):
        axis = axis_of_place(target)
        if place:
            self.places[axis][target[1]] = place
        else:
            self.places[axis].pop(target[1], None)
        # Many acts may come at once: the line is ordered when it is next asked for.
        self.unordered[axis] = True

    def order(self, axis):
        """Bring the line in order again; it nearly is, which keeps the sorting quick."""
        self.places[axis] = dict(sorted(self.places[axis].items(), key=lambda pair: pair[1]))
        self.unordered.pop(axis)

    def has(self, target):
        """What stands there by the acts in this copy."""
        act = self.counting.get(target)
        return at_first(target) if act is None else act.writes[target]

    def line(self, axis):
        """The numbers of all rows or columns that have a place, in order, gone ones too."""
        if axis in self.unordered:
            self.order(axis)
        return list(self.places[axis])

    def there(self, axis):
        """The numbers of those in the line that are not gone."""
        return [number for number in self.line(axis) if not self.has(gone_of(axis, number))]

    def ranks(self, axis):
        """Of each number in the line, in order: how many are there ahead of it, and how many up to it and with it."""
        found = {}
        many = 0
        for number in self.line(axis):
            ahead = many
            if not self.has(gone_of(axis, number)):
                many += 1
            found[number] = (ahead, many)
        return found


def first_places(many):
    return dict([((0, k), first_place(k)) for k in range(many)])
