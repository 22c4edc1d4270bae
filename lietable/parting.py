"""Whether lies part the honest hands of a table, and lies that do."""

from lietable.checks import check_lies, check_table
from lietable.paths import hearers, paths
from lietable.tables import Table


def parts(hands, most, sign, liars, lies):
    """Whether the honest hands of such a table tell unlike signs at its end."""
    table = Table(hands, most, sign, liars)
    rounds = list(range(1, most + 2))
    check_lies(hands, liars, rounds, lies)
    for size in rounds:
        table.play({pair: lies[pair] for pair in lies if len(pair[0]) == size})
    signs = [table.says(hand) for hand in range(hands) if hand not in liars]
    return len(set(signs)) > 1


def parting(hands, most):
    """A sign, liars and lies that part the honest hands; None where there are none."""
    check_table(hands, most)
    if hands > 3 * most or hands == 2:
        return None
    # The first hand and one more stay honest. The liars say "b" wherever they speak: with a third
    # of the hands or more, that leaves the honest others no vote for the first one's "a".
    many = min(most, hands - 2)
    liars = list(range(hands - many, hands))
    lies = {(path, hearer): "b"
            for path in paths(hands, most) if path[-1] in liars
            for hearer in hearers(hands, path)}
    return "a", liars, lies
