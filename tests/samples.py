"""Values that are refused, lies of several kinds, and a plain account of a table to compare with."""

NO_WHOLE_NUMBERS = (True, False, None, "3", "", (3,), [3], 3.0, {}, b"3")
NO_HANDS_NUMBERS = NO_WHOLE_NUMBERS + (-1, 0, 1, 11, 12, 10 ** 5000)
NO_MOSTS = NO_WHOLE_NUMBERS + (-1, 3, 4, 10 ** 5000)
NO_SIGNS = ("", "abcdefghi", "A", "aB", "a1", "1", " ", "a ", " a", "a\n", "a-b", "\u00e9", "\u00df",
            "ab`", "ab{", 1, True, False, b"a", ("a",), ["a"], {}, "a" * 100)
SIGNS = ("a", "z", "m", "ab", "abcdefgh", "stuvwxyz", "no", "none")


def all_tables():
    return [(hands, most) for hands in range(2, 11) for most in range(3)]


def said(sign, lies, path, hearer):
    """What is said along the path to the hearer, traced back from the path's end."""
    if (path, hearer) in lies:
        return lies[path, hearer]
    if len(path) == 1:
        return sign
    return said(sign, lies, path[:-1], path[-1])


def taken(hands, most, sign, lies, hand, path):
    """What the hand takes to be said along the path, straight from point 9."""
    own = said(sign, lies, path, hand)
    if len(path) == most + 1:
        return own
    votes = [own]
    for other in range(hands):
        if other != hand and other not in path:
            votes.append(taken(hands, most, sign, lies, hand, path + (other,)))
    for word in votes:
        if len([1 for one in votes if one == word]) * 2 > len(votes):
            return word
    return None


def sayings(hands, most, liars, size=None):
    """All pairs that lies may tell, of one round or of all rounds."""
    found = [((0,), hearer) for hearer in range(1, hands)]
    last = found
    for _ in range(most):
        last = [(path + (hand,), hearer)
                for path in sorted({path for path, _ in last})
                for hand in range(1, hands) if hand not in path
                for hearer in range(1, hands) if hearer not in path and hearer != hand]
        found = found + last
    return [(path, hearer) for path, hearer in found
            if path[-1] in liars and size in (None, len(path))]


def of_round(lies, size):
    return {pair: lies[pair] for pair in lies if len(pair[0]) == size}


def played(table, most, lies):
    """The table after all its rounds, the lies of all of them being in one dict."""
    for size in range(1, most + 2):
        table.play(of_round(lies, size))
    return table


def kinds_of_lies(pairs, rng):
    """Lies of several kinds for the same pairs."""
    yield {}
    yield {pair: "b" for pair in pairs}
    yield {pair: None for pair in pairs}
    yield {pair: ("a", "b")[pair[1] % 2] for pair in pairs}
    yield {pair: ("b", None)[pair[1] % 2] for pair in pairs}
    yield {pair: ("a", "b")[(sum(pair[0]) + pair[1]) % 2] for pair in pairs}
    yield {pair: "abcdefghij"[pair[1]] for pair in pairs}
    yield {pair: "b" for pair in pairs if len(pair[0]) == 1}
    yield {pair: "b" for pair in pairs if len(pair[0]) > 1}
    for _ in range(6):
        yield {pair: rng.choice(("a", "b", "c", None)) for pair in pairs if rng.random() < 0.8}
    for _ in range(6):
        yield {pair: rng.choice(("a", "b")) for pair in pairs}
