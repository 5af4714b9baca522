"""Lines of clocks."""

from evenlater.errors import InvalidText
from evenlater.kinds import is_clock
from evenlater.refusals import need
from evenlater.words import is_numeral

HEAD = "clock"


def clock_line(clock):
    """The line of a clock."""
    beats, movers = clock
    numbers = [str(number) for pair in movers for number in pair]
    return " ".join([HEAD, str(beats), *numbers])


def _clock_in(numbers):
    return numbers[0], tuple([(numbers[k], numbers[k + 1]) for k in range(1, len(numbers), 2)])


def _begins_clock(words):
    if words[0] != HEAD or not all([is_numeral(word) for word in words[1:]]):
        return False
    numbers = [int(word) for word in words[1:]]
    if len(numbers) == 0:
        return True
    if len(numbers) % 2 == 0:
        # each mover can have the root 1, so a mover that lacks its root is judged with this one
        numbers = [*numbers, 1]
    return is_clock(_clock_in(numbers))


def read_clock(text):
    """The clock whose line is text; InvalidText if there is none."""
    need(isinstance(text, str), "text")
    words = text.split(" ")
    for k in range(len(words)):
        if not _begins_clock(words[:k + 1]):
            raise InvalidText(0, k)
    if len(words) % 2 == 1:
        raise InvalidText(0, len(words))
    return _clock_in([int(word) for word in words[1:]])
