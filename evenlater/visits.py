"""How often a move is expected to come."""

from evenlater.dealing import dealt
from evenlater.dealkinds import is_plain
from evenlater.dealmaking import idle_deal
from evenlater.kinds import is_move, is_number
from evenlater.quotients import plus
from evenlater.refusals import need
from evenlater.spreads import chance_at


def visits_by(clock, deal, move, many):
    """The sum of chance_at for 0, 1, .., many."""
    need(is_plain(clock, deal), "deal")
    need(is_move(clock, move), "move")
    need(is_number(many), "many")
    power = idle_deal(clock)
    visits = chance_at(clock, power, move, 1)
    for _ in range(many):
        power = dealt(clock, power, deal)
        visits = plus(visits, chance_at(clock, power, move, 1))
    return visits
