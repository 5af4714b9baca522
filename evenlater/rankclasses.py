"""Deals as objects that tell their ranks."""

from evenlater.coreclocks import every_class
from evenlater.dealkinds import is_deal
from evenlater.exchanging import class_weights
from evenlater.kinds import is_move, is_piece
from evenlater.pieces import pieces_of, width_at
from evenlater.ranks import ranks_of
from evenlater.refusals import need


class Ranked:
    """A deal of a clock with its ranks; it never changes."""

    def __init__(self, clock, deal):
        need(is_deal(clock, deal), "deal")
        self._clock = clock
        self._deal = deal
        self.ranks = ranks_of(clock, deal)
        pairs = list(zip(self.ranks, pieces_of(clock)))
        self.free = sum([rank * width_at(clock, piece) for rank, piece in pairs])
        self.touched = tuple([piece for rank, piece in pairs if rank > 0])

    def __call__(self, piece):
        need(is_piece(self._clock, piece), "piece")
        return self.ranks[pieces_of(self._clock).index(piece)]

    def __contains__(self, x):
        return is_piece(self._clock, x) and x in self.touched

    def __iter__(self):
        return iter(self.touched)

    def __and__(self, other):
        need(isinstance(other, Ranked) and self._clock == other._clock, "other")
        return tuple([piece for piece in self.touched if piece in other.touched])

    def __eq__(self, other):
        return isinstance(other, Ranked) and self._clock == other._clock and self._deal == other._deal


class Central(Ranked):
    """A deal with equal weights within each class."""

    def __init__(self, clock, deal):
        shares = class_weights(clock, deal)
        super().__init__(clock, deal)
        self.shares = shares

    def share_at(self, move):
        """The weight at the move."""
        need(is_move(self._clock, move), "move")
        return [share for share, some in zip(self.shares, every_class(self._clock)) if move in some][0]
