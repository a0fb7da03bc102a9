"""How words and lines of words are read."""

from nearhours.errors import InvalidText


def is_decimal(word):
    """Whether the word writes an integer, of at most sixty digits, in the one way allowed."""
    digits = word[1:] if word.startswith("-") else word
    if not digits.isascii() or not digits.isdigit() or len(digits) > 60:
        return False
    return word == "0" or digits[0] != "0"


def is_count(word, least):
    """Whether the word writes an integer that is at least so much."""
    return is_decimal(word) and int(word) >= least


def misfit_field(words, many, stands):
    """The field from which on the words are no line of so many words, None if they are one.

    It is that of the first word that cannot stand or is missing or is one too many. Whether the
    word of a field stands is asked only if those ahead of it do.
    """
    for field in range(many):
        if field == len(words) or not stands(field):
            return field
    return many if len(words) > many else None


def refuse_field(line, field):
    """Raises InvalidText if there is a field from which on the line is not possible."""
    if field is not None:
        raise InvalidText(line, field)
