"""What a hand makes of what it was told."""

from lietable.paths import hearers


def vote(signs):
    """The sign that more than half of the signs are; None where there is none, or it is None."""
    counts = {}
    for sign in signs:
        counts[sign] = counts.get(sign, 0) + 1
    for sign in counts:
        if 2 * counts[sign] > len(signs):
            return sign
    return None


def settled(hands, most, told, hand, path):
    """What a hand takes to be said along a path that it is not on, by what it was told."""
    if len(path) > most:
        return told[path]
    signs = [told[path]]
    for other in hearers(hands, path):
        if other != hand:
            signs.append(settled(hands, most, told, hand, (*path, other)))
    return vote(signs)
