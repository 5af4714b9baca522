"""Deals as objects that keep their recalls."""

from evenlater.backs import need_back
from evenlater.between import made_between
from evenlater.dealing import dealt, dealt_again
from evenlater.dealkinds import is_deal
from evenlater.dealmaking import idle_deal
from evenlater.dealtexts import deal_line, read_deal
from evenlater.joins import common_left, common_right, joint_left, joint_right
from evenlater.kinds import is_from_to
from evenlater.makepapers import LEFT, is_side
from evenlater.making import left_by, right_by
from evenlater.mirrors import mirrored
from evenlater.recalls import recall_of
from evenlater.refusals import need

MOST_POWER = 40


class Recalled:
    """A deal of a clock and its recall; it never changes."""

    def __init__(self, clock, deal):
        need(is_deal(clock, deal), "deal")
        self._clock = clock
        self._deal = deal
        self._recall = recall_of(clock, deal)

    @property
    def its_clock(self):
        """The clock."""
        return self._clock

    @property
    def its_deal(self):
        """The deal."""
        return self._deal

    @property
    def its_recall(self):
        """The recall."""
        return self._recall

    @property
    def its_left(self):
        """The left side."""
        return dealt(self._clock, self._recall, self._deal)

    @property
    def its_right(self):
        """The right side."""
        return dealt(self._clock, self._deal, self._recall)

    def made(self, other, *, side="left"):
        """Of which deal the deal other is made with the deal, from the side."""
        need(is_deal(self._clock, other), "other")
        need(is_side(side), "side")
        if side == LEFT:
            return left_by(self._clock, self._deal, self._recall, other)
        return right_by(self._clock, self._deal, self._recall, other)

    def between(self, other):
        """A pair of deals that make other of the deal from both sides."""
        return made_between(self._clock, self._deal, other)

    def _need_fit(self, other, side):
        need(isinstance(other, Recalled) and self._clock == other._clock, "other")
        need(is_side(side), "side")

    def joint(self, other, *, side="left"):
        """The own mirror and own square of which all is made that is made of both deals together from the side."""
        self._need_fit(other, side)
        if side == LEFT:
            return joint_left(self._clock, self._deal, other._deal)
        return joint_right(self._clock, self._deal, other._deal)

    def common(self, other, *, side="left"):
        """The own mirror and own square of which all is made that is made of each of both deals from the side."""
        self._need_fit(other, side)
        if side == LEFT:
            return common_left(self._clock, self._deal, other._deal)
        return common_right(self._clock, self._deal, other._deal)

    def swapped(self):
        """The Recalled of the recall."""
        return _recalled(self._clock, self._recall, self._deal)

    def mirrored(self):
        """The Recalled of the mirror."""
        return _recalled(self._clock, mirrored(self._clock, self._deal), mirrored(self._clock, self._recall))

    def __contains__(self, x):
        return is_deal(self._clock, x) and dealt(self._clock, dealt(self._clock, x, self._recall), self._deal) == x

    def __str__(self):
        return str(deal_line(self._clock, self._deal))

    def __eq__(self, other):
        return isinstance(other, Recalled) and self._clock == other._clock and self._deal == other._deal

    @classmethod
    def read(cls, clock, text):
        """The Recalled of a line of a deal."""
        return Recalled(clock, read_deal(clock, text))


def _recalled(clock, deal, recall):
    """The Recalled of a deal whose recall is known, so that it need not be solved."""
    known = Recalled(clock, idle_deal(clock))
    known._deal = deal
    known._recall = recall
    return known


class Backed(Recalled):
    """A deal that has a back."""

    def __init__(self, clock, deal):
        need_back(clock, deal)
        super().__init__(clock, deal)

    def power(self, many):
        """The power of the deal, below 0 that of its back."""
        need(is_from_to(many, -MOST_POWER, MOST_POWER), "many")
        # what recalls a deal that has a back is its back
        return dealt_again(self._clock, self._deal if many >= 0 else self._recall, abs(many))
