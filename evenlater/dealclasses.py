"""Deals as objects."""

from evenlater.coreclocks import every_move
from evenlater.corenumbers import lowest
from evenlater.dealfolds import folded_deal
from evenlater.dealing import dealt, dealt_again
from evenlater.dealkinds import is_deal, is_plain
from evenlater.dealmaking import even_deal
from evenlater.dealsums import added, scaled, taken
from evenlater.dealtexts import deal_line, read_deal
from evenlater.folding import folded_clock
from evenlater.kinds import is_move, is_move_row
from evenlater.mirrors import mirrored, turned_deal
from evenlater.quotients import over
from evenlater.refusals import need
from evenlater.weighing import moves_of, total_of, weight_at


class Deal:
    """A deal of a clock; it never changes."""

    def __init__(self, clock, deal):
        need(is_deal(clock, deal), "deal")
        self._clock = clock
        self._deal = deal
        self._quotients = tuple([lowest(weight, deal[0]) for weight in deal[1]])

    @property
    def its_clock(self):
        """The clock."""
        return self._clock

    @property
    def its_deal(self):
        """The deal."""
        return self._deal

    @property
    def its_total(self):
        """The sum of all weights."""
        return total_of(self._clock, self._deal)

    @property
    def its_moves(self):
        """The set of all moves whose weight is not 0."""
        return moves_of(self._clock, self._deal)

    def _need_fit(self, other):
        need(isinstance(other, Deal) and self._clock == other._clock, "other")

    def __add__(self, other):
        self._need_fit(other)
        return Deal(self._clock, added(self._clock, self._deal, other._deal))

    def __sub__(self, other):
        self._need_fit(other)
        return Deal(self._clock, taken(self._clock, self._deal, other._deal))

    def __mul__(self, other):
        self._need_fit(other)
        return Deal(self._clock, dealt(self._clock, self._deal, other._deal))

    def __neg__(self):
        return Deal(self._clock, scaled(self._clock, self._deal, (-1, 1)))

    def __invert__(self):
        return Deal(self._clock, mirrored(self._clock, self._deal))

    def scaled(self, quotient):
        """The Deal with each weight times quotient."""
        return Deal(self._clock, scaled(self._clock, self._deal, quotient))

    def again(self, many):
        """The Deal of the power to many."""
        return Deal(self._clock, dealt_again(self._clock, self._deal, many))

    def turned(self, by):
        """The Deal turned by the move by."""
        return Deal(self._clock, turned_deal(self._clock, self._deal, by))

    def folded(self, part):
        """The Deal folded by a kept part, of the folded clock."""
        return Deal(folded_clock(self._clock, part), folded_deal(self._clock, part, self._deal))

    def __call__(self, move):
        return weight_at(self._clock, self._deal, move)

    def __contains__(self, x):
        return is_move(self._clock, x) and x in moves_of(self._clock, self._deal)

    def __iter__(self):
        return iter(self._quotients)

    def __str__(self):
        return str(deal_line(self._clock, self._deal))

    def __eq__(self, other):
        return isinstance(other, Deal) and self._clock == other._clock and self._deal == other._deal

    @classmethod
    def read(cls, clock, text):
        """The Deal of a line."""
        return Deal(clock, read_deal(clock, text))

    @classmethod
    def even(cls, clock, quotient):
        """The even Deal with this total."""
        return Deal(clock, even_deal(clock, quotient))


class Plain(Deal):
    """A deal with no weight below 0 and some above."""

    def __init__(self, clock, deal):
        need(is_plain(clock, deal), "deal")
        super().__init__(clock, deal)

    def chance(self, move):
        """The weight at the move by the total."""
        return over(weight_at(self._clock, self._deal, move), total_of(self._clock, self._deal))

    @classmethod
    def from_slips(cls, clock, *slips):
        """The Plain whose weights are how often each move is among the slips."""
        need(is_move_row(clock, slips) and len(slips) > 0, "slips")
        return Plain(clock, (1, tuple([slips.count(move) for move in every_move(clock)])))
