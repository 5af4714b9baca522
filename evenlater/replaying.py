"""Live deals replayed from their logs."""

from evenlater.live import LiveDeal
from evenlater.liveevents import is_log
from evenlater.refusals import need


def replayed(log):
    """A new live deal with all events of the log applied."""
    need(is_log(log), "log")
    live = LiveDeal(log[0][1])
    for event in log[1:]:
        live.go(event)
    return live
