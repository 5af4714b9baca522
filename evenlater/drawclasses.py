"""Plain deals as objects from which moves are drawn."""

from evenlater.coming import come_after
from evenlater.corenumbers import lowest_row
from evenlater.coreclocks import joined
from evenlater.dealing import dealt, dealt_again
from evenlater.dealkinds import is_plain
from evenlater.dealmaking import deal_on, single_deal
from evenlater.homes import home_of, period_of, reach_of
from evenlater.kinds import is_move, is_moves
from evenlater.moving import IDLE, order_of
from evenlater.nearing import comes_near
from evenlater.refusals import need
from evenlater.spreads import chance_at, spread_after
from evenlater.waits import wait_for
from evenlater.weighing import moves_of


class Drawing:
    """A plain deal from which moves are drawn; it never changes."""

    def __init__(self, clock, deal):
        need(is_plain(clock, deal), "deal")
        self.clock_told = clock
        self.chances_told = lowest_row(sum(deal[1]), deal[1])
        self._moves = moves_of(clock, deal)
        self.reach_told = reach_of(clock, self._moves)
        self.home_told = home_of(clock, self._moves)
        self.period_told = period_of(clock, self._moves)

    @property
    def near_told(self):
        """Whether the home is all moves."""
        return comes_near(self.clock_told, self.chances_told)

    def __getitem__(self, at):
        return chance_at(self.clock_told, self.chances_told, at, 1)

    def __call__(self, many):
        return come_after(self.clock_told, self._moves, many)

    def wait_at(self, move):
        """The wait for the move."""
        return wait_for(self.clock_told, self.chances_told, move)

    def spread_at(self, many):
        """The spread of the power to many."""
        return spread_after(self.clock_told, self.chances_told, many)

    def drawn_again(self, many):
        """The Drawing of the power to many."""
        return Drawing(self.clock_told, dealt_again(self.clock_told, self.chances_told, many))

    def then_draw(self, other):
        """The Drawing of the deal, then that of other."""
        need(isinstance(other, Drawing) and self.clock_told == other.clock_told, "other")
        return Drawing(self.clock_told, dealt(self.clock_told, self.chances_told, other.chances_told))

    def __len__(self):
        return len(self._moves)

    def __iter__(self):
        return iter(self._moves)

    def __contains__(self, x):
        return is_move(self.clock_told, x) and x in self._moves

    def __eq__(self, other):
        return (isinstance(other, Drawing) and self.clock_told == other.clock_told
                and self.chances_told == other.chances_told)

    @classmethod
    def of_moves(cls, clock, moves):
        """The Drawing of the deal with weight 1 on each of these moves."""
        need(is_moves(clock, moves), "moves")
        return Drawing(clock, deal_on(clock, moves))


class Sure(Drawing):
    """The deal that always draws one move."""

    def __init__(self, clock, move):
        need(is_move(clock, move), "move")
        super().__init__(clock, single_deal(clock, move, (1, 1)))
        self._move = move

    def deals_to(self, other):
        """The wait for the move other, an integer; None if it never comes."""
        need(is_move(self.clock_told, other), "other")
        result = IDLE
        for many in range(order_of(self.clock_told, self._move)):
            if result == other:
                return many
            result = joined(self.clock_told, result, self._move)
        return None
