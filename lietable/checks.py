"""Tests of what is handed in, and the refusals that follow from them.

No message shows the value refused: the text of a very long number is itself an error in Python.
"""

from lietable.errors import NoHand, NoSaying, NoSign, NoTable

LETTERS = "abcdefghijklmnopqrstuvwxyz"


def is_whole(value, low, high):
    """Whether value is a whole number from low to high; True and False are none."""
    return isinstance(value, int) and not isinstance(value, bool) and low <= value <= high


def is_hand(hands, value):
    """Whether value is a hand of a table of so many hands."""
    return is_whole(value, 0, hands - 1)


def is_sign(value):
    """Whether value is a text of 1 to 8 small letters."""
    return isinstance(value, str) and 1 <= len(value) <= 8 and all(letter in LETTERS for letter in value)


def is_path(hands, rounds, value):
    """Whether value is a tuple of unlike hands, 0 the first, as many as one of the rounds has on a path."""
    if not isinstance(value, tuple) or len(value) not in rounds:
        return False
    if not all(is_hand(hands, hand) for hand in value):
        return False
    return value[0] == 0 and len(set(value)) == len(value)


def is_saying(hands, liars, rounds, value):
    """Whether value is a pair of a path of one of the rounds, its last hand a liar, and a hearer."""
    if not isinstance(value, tuple) or len(value) != 2:
        return False
    path, hearer = value
    if not is_path(hands, rounds, path) or path[-1] not in liars:
        return False
    return is_hand(hands, hearer) and hearer not in path


def check_table(hands, most):
    """Refuse numbers that are not those of a table."""
    if not is_whole(hands, 2, 10):
        raise NoTable("a table has 2 to 10 hands")
    if not is_whole(most, 0, 2):
        raise NoTable("a table reckons with 0 to 2 liars at most")


def check_sign(value):
    """Refuse what is no sign."""
    if not is_sign(value):
        raise NoSign("a sign is a text of 1 to 8 small letters a to z")


def check_hand(hands, value):
    """Refuse what is no hand of the table."""
    if not is_hand(hands, value):
        raise NoHand("no hand of the table")


def check_liars(hands, liars):
    """Refuse the first liar that is no hand of the table, or stands there already."""
    for at, liar in enumerate(liars):
        check_hand(hands, liar)
        if liar in liars[:at]:
            raise NoHand("a liar stands there already")


def check_lies(hands, liars, rounds, lies):
    """Refuse the first pair that no liar says in these rounds, or what it leads to if that is no sign or None."""
    for pair, sign in lies.items():
        if not is_saying(hands, liars, rounds, pair):
            raise NoSaying("no liar says anything there in these rounds")
        if sign is not None:
            check_sign(sign)
