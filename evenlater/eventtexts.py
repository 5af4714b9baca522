"""Lines of events and of logs."""

from evenlater.clocktexts import clock_line, read_clock
from evenlater.coreclocks import size_in, turns_in
from evenlater.dealtexts import deal_in, deal_line, may_end_deal
from evenlater.errors import InvalidText
from evenlater.kinds import is_below, is_divisor, is_from_to, is_kept_part, is_quotient
from evenlater.liveevents import AGAIN, BEGIN, FOLD, MIRROR, MOST_FIGURES, MOST_TIMES, SCALE, TURN
from evenlater.liveevents import brings_deal, clock_after, is_event, is_log, is_word
from evenlater.refusals import need
from evenlater.words import is_signed_numeral


def _line(clock, event):
    if event == (MIRROR,):
        return MIRROR
    word, given = event
    if brings_deal(word):
        return " ".join([word, deal_line(clock, given)])
    numbers = [str(number) for number in ([given] if word == AGAIN else given)]
    return " ".join([word, *numbers])


def event_line(clock, event):
    """The line of an event of the clock."""
    need(is_event(clock, event), "event")
    return _line(clock, event)


def log_lines(log):
    """The line of the clock that a log begins with, then those of its events."""
    need(is_log(log), "log")
    clock = log[0][1]
    lines = [clock_line(clock)]
    for event in log[1:]:
        lines = [*lines, _line(clock, event)]
        clock = clock_after(clock, event)
    return tuple(lines)


def _is_short(word):
    return len(word.removeprefix("-")) <= MOST_FIGURES


def _number(word):
    """The integer of at most sixty figures that the word is in decimal, or None."""
    return int(word) if is_signed_numeral(word) and _is_short(word) else None


def _may_end_numbers(clock, word, numbers):
    """Whether an event with this word that has no deal may begin with these numbers, without the last one of which it
    may; a None among them is no number at all."""
    last, at = numbers[-1], len(numbers)
    if word == SCALE:
        return last is not None if at == 1 else at == 2 and is_quotient(tuple(numbers))
    if word == TURN:
        return is_below(last, clock[0]) if at == 1 else at == 2 and is_below(last, turns_in(clock))
    if word == AGAIN:
        return at == 1 and is_from_to(last, 1, MOST_TIMES)
    if word == FOLD and at == 1:
        # folding by shifts alone is always kept, so that each divisor is that of some kept part
        return is_divisor(last, clock[0])
    if word == FOLD and at == 2:
        return is_kept_part(clock, (numbers[0], last, 0))
    return word == FOLD and at == 3 and last == 0


def _may_end(clock, words):
    """Whether the last one of words may stand behind those ahead of it, which a line of an event may begin with."""
    if len(words) == 1:
        return is_word(words[0])
    if brings_deal(words[0]):
        return _is_short(words[-1]) and may_end_deal(clock, words[1:])
    return _may_end_numbers(clock, words[0], [_number(word) for word in words[1:]])


def _words_many(clock, word):
    """How many words the lines of events with this word have."""
    if brings_deal(word):
        return size_in(clock) + 3
    if word == MIRROR:
        return 1
    if word == AGAIN:
        return 2
    return 4 if word == FOLD else 3


def _event_in(words):
    word = words[0]
    if word == MIRROR:
        return (word,)
    if brings_deal(word):
        return word, deal_in(words[1:])
    numbers = tuple([int(number) for number in words[1:]])
    return (word, numbers[0]) if word == AGAIN else (word, numbers)


def read_event(clock, text):
    """The event of the clock whose line is text; InvalidText if there is none."""
    need(isinstance(text, str), "text")
    words = text.split(" ")
    for k in range(len(words)):
        if not _may_end(clock, words[:k + 1]):
            raise InvalidText(0, k)
    if len(words) < _words_many(clock, words[0]):
        raise InvalidText(0, len(words))
    return _event_in(words)


def _read_line(clock, line, text):
    try:
        return read_event(clock, text)
    except InvalidText as e:
        raise InvalidText(line, e.field)


def read_log(lines):
    """The log with these lines; InvalidText if there is none."""
    need(isinstance(lines, tuple) and all([isinstance(line, str) for line in lines]), "lines")
    if len(lines) == 0:
        raise InvalidText(0, 0)
    clock = read_clock(lines[0])
    log = [(BEGIN, clock)]
    for k in range(1, len(lines)):
        event = _read_line(clock, k, lines[k])
        log = [*log, event]
        clock = clock_after(clock, event)
    return tuple(log)
