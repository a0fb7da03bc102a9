"""How words and lines of words are read."""


def is_decimal(word):
    """Whether the word writes an integer, of at most sixty digits, in the one way allowed."""
    digits = word[1:] if word.startswith("-") else word
    if not digits.isascii() or not digits.isdigit() or len(digits) > 60:
        return False
    return word == "0" or digits[0] != "0"


def misfit_field(words, many, stands):
    """The field from which on the words are no line of so many words, None if they are one.

    It is that of the first word that cannot stand or is missing or is one too many. Whether the
    word of a field stands is asked only if those ahead of it do.
    """
    for field in range(many):
        if field == len(words) or not stands(field):
            return field
    return many if len(words) > many else None
