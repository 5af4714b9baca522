"""Words of lines: which of them are integers in decimal."""


def is_numeral(word):
    """Whether word is a number from 0 on, without a leading zero."""
    return word.isascii() and word.isdigit() and (word == "0" or word[0] != "0")


def is_signed_numeral(word):
    """Whether word is an integer, without a leading zero, and not -0."""
    return is_numeral(word.removeprefix("-")) and word != "-0"
