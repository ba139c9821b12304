"""All hands' copies and all acts that were made."""

from sheethands.act import Act, at_first
from sheethands.copies import Copy

MOST_ACTS = 4096


class Book:
    """What a line of calls is about."""

    def __init__(self):
        self.restart(1, 1, 1)

    def restart(self, rows, cols, hands):
        """All is as at first: a new sheet, and no act."""
        self.copies = [Copy(rows, cols, hands) for k in range(hands)]
        self.made = [[] for k in range(hands)]

    def has_hand(self, hand):
        return 1 <= hand <= len(self.copies)

    def copy_of(self, hand):
        return self.copies[hand - 1]

    def acts_of(self, hand):
        """The acts that the hand made, in order."""
        return self.made[hand - 1]

    def is_full(self, hand):
        return len(self.acts_of(hand)) >= MOST_ACTS

    def coming_number(self, hand):
        """The number that the hand's coming act gets."""
        return len(self.acts_of(hand)) + 1

    def make(self, hand, kind, writes):
        """The hand makes an act on its copy."""
        copy = self.copy_of(hand)
        act = Act(kind, hand, self.coming_number(hand), copy.time + 1, tuple(copy.had), writes)
        self.acts_of(hand).append(act)
        copy.take(act)

    def stood(self, target, knows):
        """What stands there by the acts that are known: of each hand so many."""
        counting = None
        for k, many in enumerate(knows):
            for act in self.made[k][:many]:
                if target in act.writes and (counting is None or act.is_later(counting)):
                    counting = act
        return at_first(target) if counting is None else counting.writes[target]
