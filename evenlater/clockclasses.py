"""Clocks as objects."""

from evenlater.clockchecker import lets_clock
from evenlater.clocktexts import clock_line, read_clock
from evenlater.folding import folded_clock
from evenlater.kinds import is_integer, is_move, is_move_row
from evenlater.moving import all_moves, move_at, takes, then
from evenlater.refusals import need
from evenlater.sizes import last_edge, turns_many


class Clock:
    """A clock that never changes."""

    def __init__(self, beats, movers):
        lets_clock((beats, movers))
        self._form = (beats, movers)
        self._moves = all_moves(self._form)

    @property
    def form_now(self):
        """The clock."""
        return self._form

    @property
    def many_now(self):
        """n."""
        return len(self._moves)

    @property
    def turns_now(self):
        """d."""
        return turns_many(self._form)

    @property
    def edge_now(self):
        """The edge of the beats."""
        return last_edge(self._form)

    def __getitem__(self, at):
        return move_at(self._form, at)

    def __call__(self, move, beat):
        return takes(self._form, move, beat)

    def __floordiv__(self, other):
        beats, movers = folded_clock(self._form, other)
        return Clock(beats, movers)

    def all_then(self, *moves):
        """The moves, one then the next."""
        need(is_move_row(self._form, moves), "moves")
        result = (0, 0)
        for move in moves:
            result = then(self._form, result, move)
        return result

    def __contains__(self, x):
        return is_move(self._form, x)

    def __len__(self):
        return len(self._moves)

    def __iter__(self):
        return iter(self._moves)

    def __str__(self):
        return str(clock_line(self._form))

    def __eq__(self, other):
        return isinstance(other, Clock) and self._form == other._form

    @classmethod
    def read(cls, text):
        """The Clock of a line."""
        beats, movers = read_clock(text)
        return Clock(beats, movers)


class Flat(Clock):
    """A clock without movers."""

    def __init__(self, beats):
        super().__init__(beats, ())

    def shift_of(self, many):
        """The move that shifts by many beats."""
        need(is_integer(many), "many")
        return many % self._form[0], 0
