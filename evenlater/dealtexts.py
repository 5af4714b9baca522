"""Lines of deals."""

from evenlater.coreclocks import size_in
from evenlater.dealkinds import is_deal
from evenlater.errors import InvalidText
from evenlater.refusals import need
from evenlater.words import is_numeral, is_signed_numeral

HEAD = "deal"


def deal_line(clock, deal):
    """The line of a deal."""
    need(is_deal(clock, deal), "deal")
    weights = [str(weight) for weight in deal[1]]
    return " ".join([HEAD, str(deal[0]), *weights])


def deal_in(words):
    """The deal of the words of a line."""
    return int(words[1]), tuple([int(word) for word in words[2:]])


def may_end_deal(clock, words):
    """Whether the last one of words may stand behind those ahead of it, which a line of a deal may begin with."""
    at, last = len(words) - 1, size_in(clock) + 1
    if at == 0:
        return words[0] == HEAD
    if at == 1:
        return is_numeral(words[1]) and words[1] != "0"
    if at > last or not is_signed_numeral(words[at]):
        return False
    # a weight still to come can be 1, so only the last one can leave a common divisor
    return at < last or is_deal(clock, deal_in(words))


def read_deal(clock, text):
    """The deal whose line is text; InvalidText if there is none."""
    need(isinstance(text, str), "text")
    words = text.split(" ")
    for k in range(len(words)):
        if not may_end_deal(clock, words[:k + 1]):
            raise InvalidText(0, k)
    if len(words) < size_in(clock) + 2:
        raise InvalidText(0, len(words))
    return deal_in(words)
