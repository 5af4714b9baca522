"""Deals as objects that tell what they make even."""

from evenlater.choosers import chooser_of
from evenlater.dealkinds import is_deal
from evenlater.dealmaking import deal_on, even_on
from evenlater.dealtexts import deal_line
from evenlater.eveners import even_many, evener_left, evener_right
from evenlater.evenness import first_crowded, is_evened
from evenlater.kinds import is_moves
from evenlater.mirrors import mirrored
from evenlater.movesthrough import moves_through
from evenlater.nearevens import gap_even, nearest_even
from evenlater.partfills import part_fillers
from evenlater.refusals import need
from evenlater.through import even_through


class Evener:
    """A deal of a clock; it never changes."""

    def __init__(self, clock, deal):
        need(is_deal(clock, deal), "deal")
        self._clock = clock
        self._deal = deal

    @property
    def its_clock(self):
        """The clock."""
        return self._clock

    @property
    def its_deal(self):
        """The deal."""
        return self._deal

    @property
    def right_evener(self):
        """The deal of which all is made that is even behind the deal."""
        return evener_right(self._clock, self._deal)

    @property
    def left_evener(self):
        """The deal of which all is made that is even ahead of the deal."""
        return evener_left(self._clock, self._deal)

    @property
    def evener_many(self):
        """How many deals that are even behind the deal are independent."""
        return even_many(self._clock, self._deal)

    def __call__(self, other):
        return nearest_even(self._clock, self._deal, other)

    def gap_to(self, other):
        """The gap between other and the nearest deal that is even behind the deal."""
        return gap_even(self._clock, self._deal, other)

    def pair_through(self, other):
        """A deal through which the deal and other are even, and its back."""
        return even_through(self._clock, self._deal, other)

    def moves_to(self, other):
        """The moves through which the deal and other are even."""
        return moves_through(self._clock, self._deal, other)

    def of_mirror(self):
        """The Evener of the mirror."""
        return Evener(self._clock, mirrored(self._clock, self._deal))

    def __contains__(self, x):
        return is_deal(self._clock, x) and is_evened(self._clock, self._deal, x)

    def __and__(self, other):
        need(isinstance(other, Evener) and self._clock == other._clock, "other")
        return first_crowded(self._clock, self._deal, other._deal)

    def __str__(self):
        return str(deal_line(self._clock, self._deal))

    def __eq__(self, other):
        return isinstance(other, Evener) and self._clock == other._clock and self._deal == other._deal

    @classmethod
    def of_moves(cls, clock, *moves):
        """The Evener of the deal with weight 1 on these moves."""
        need(is_moves(clock, moves), "moves")
        return Evener(clock, deal_on(clock, moves))


class Filled(Evener):
    """The deal with total 1 that is even on a part."""

    def __init__(self, clock, part):
        super().__init__(clock, even_on(clock, part))
        self._part = part

    @property
    def filled_part(self):
        """The part."""
        return self._part

    @property
    def its_chooser(self):
        """The moves with the least numbers of the cosets of the part."""
        return chooser_of(self._clock, self._part)

    @property
    def its_fillers(self):
        """The parts that fill the clock with the part."""
        return part_fillers(self._clock, self._part)
