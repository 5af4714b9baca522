"""Deals as objects that tell after how many deals they come out even."""

from evenlater.coreclocks import size_in
from evenlater.dealing import dealt, dealt_again
from evenlater.dealkinds import is_deal
from evenlater.dealtexts import read_deal
from evenlater.evenpapers import even_paper
from evenlater.evens import even_after
from evenlater.fallmaking import deal_of_falls
from evenlater.falls import falls_at, falls_of
from evenlater.kinds import is_number
from evenlater.lasting import fading_of, lasting_of
from evenlater.laters import later_deal
from evenlater.refusals import need
from evenlater.sizes import last_edge


class Later:
    """A deal of a clock; it never changes."""

    def __init__(self, clock, deal):
        need(is_deal(clock, deal), "deal")
        self._clock = clock
        self._deal = deal
        self._numbers = tuple(range(last_edge(clock)))

    @property
    def its_clock(self):
        """The clock."""
        return self._clock

    @property
    def its_deal(self):
        """The deal."""
        return self._deal

    @property
    def its_after(self):
        """The number after which the deal comes out even, or None."""
        return even_after(self._clock, self._deal)

    def fall(self, piece):
        """The deal's falls at the piece."""
        return falls_at(self._clock, piece, self._deal)

    def falls(self):
        """The deal's falls at all pieces."""
        return falls_of(self._clock, self._deal)

    def paper(self):
        """The paper of when the deal comes out even."""
        return even_paper(self._clock, self._deal)

    def parted(self):
        """The Laters of the lasting and of the fading side."""
        lasting, fading = lasting_of(self._clock, self._deal), fading_of(self._clock, self._deal)
        return Later(self._clock, lasting), Later(self._clock, fading)

    def again(self, many):
        """The Later of the power to many."""
        return Later(self._clock, dealt_again(self._clock, self._deal, many))

    def dealt(self, other):
        """The Later of the deal, then the deal of other."""
        need(isinstance(other, Later) and self._clock == other._clock, "other")
        return Later(self._clock, dealt(self._clock, self._deal, other._deal))

    def __contains__(self, x):
        if not is_number(x):
            return False
        if x == 0:
            return size_in(self._clock) == 1
        after = even_after(self._clock, self._deal)
        return after is not None and after <= x

    def __len__(self):
        return len(self._numbers)

    def __str__(self):
        after = even_after(self._clock, self._deal)
        return " ".join(["later", "never" if after is None else str(after)])

    def __eq__(self, other):
        return isinstance(other, Later) and self._clock == other._clock and self._deal == other._deal

    @classmethod
    def from_many(cls, clock, many):
        """A Later that comes out even after many."""
        return Later(clock, later_deal(clock, many))

    @classmethod
    def read(cls, clock, text):
        """The Later of a line of a deal."""
        return Later(clock, read_deal(clock, text))


class Stepped(Later):
    """A deal with told falls at a piece, and with rank 0 at all others."""

    def __init__(self, clock, piece, falls):
        super().__init__(clock, deal_of_falls(clock, piece, falls))
        self._piece = piece
        self._falls = falls

    @property
    def its_piece(self):
        """The piece."""
        return self._piece

    @property
    def its_falls(self):
        """The falls at the piece."""
        return self._falls
