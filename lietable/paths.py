"""The paths along which something is said, and who hears it."""

from itertools import permutations

from lietable.checks import check_table


def hearers(hands, path):
    """The hands that are not on the path, rising."""
    return [hand for hand in range(hands) if hand not in path]


def paths(hands, most):
    """All paths of a table, the shorter ones first, those of one length as tuples compare."""
    check_table(hands, most)
    # Besides hand 0 a path has room for most hands, and one hand at least stays off it.
    return [(0, *rest)
            for size in range(min(most + 1, hands - 1))
            for rest in permutations(range(1, hands), size)]
