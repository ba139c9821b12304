"""The copy of one hand: the acts that are in it, and what stands there by them."""

from sheethands.act import at_first, axis_of_place, gone_of, is_place
from sheethands.place import first_place


class Copy:
    """A copy; places holds, for each axis, the line: from number to place, in order."""

    def __init__(self, rows, cols, hands):
        self.time = 0
        self.had = [0] * hands
        self.counting = {}
        self.places = [first_places(rows), first_places(cols)]

    def take(self, act):
        """Put an act in, all of whose known acts are there."""
        self.time = max(self.time, act.time)
        self.had[act.hand - 1] += 1
        axes = {}
        for target in act.writes:
            other = self.counting.get(target)
            if other is None or act.is_later(other):
                self.counting[target] = act
                if is_place(target):
                    self.set_place(target, act.writes[target])
                    axes[axis_of_place(target)] = True
        for axis in axes:
            self.order(axis)

    def set_place(self, target, place):
        places = self.places[axis_of_place(target)]
        if place:
            places[target[1]] = place
        else:
            places.pop(target[1], None)

    def order(self, axis):
        """Bring the line in order again; it nearly is, which keeps the sorting quick."""
        self.places[axis] = dict(sorted(self.places[axis].items(), key=lambda pair: pair[1]))

    def has(self, target):
        """What stands there by the acts in this copy."""
        act = self.counting.get(target)
        return at_first(target) if act is None else act.writes[target]

    def line(self, axis):
        """The numbers of all rows or columns that have a place, in order, gone ones too."""
        return list(self.places[axis])

    def there(self, axis):
        """The numbers of those in the line that are not gone."""
        return [number for number in self.places[axis] if not self.has(gone_of(axis, number))]


def first_places(many):
    return dict([((0, k), first_place(k)) for k in range(many)])
