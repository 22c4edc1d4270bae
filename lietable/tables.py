"""A table, whose hands say signs to each other round by round."""

from lietable.checks import check_hand, check_liars, check_lies, check_sign, check_table
from lietable.errors import NotOver, Over
from lietable.paths import hearers, paths
from lietable.votes import settled


class Table:
    """Hands at a table; the first one has a sign, and some of them lie."""

    def __init__(self, hands, most, sign, liars):
        check_table(hands, most)
        check_sign(sign)
        check_liars(hands, liars)
        self.round = 0
        self._hands = hands
        self._most = most
        self._sign = sign
        self._liars = list(liars)
        self._heard = [{} for hand in range(hands)]

    def play(self, lies):
        """Play the next round, in which liars say what lies tell."""
        if self._is_over():
            raise Over("all rounds are played")
        check_lies(self._hands, self._liars, [self.round + 1], lies)
        self.round += 1
        for path in paths(self._hands, self._most):
            if len(path) == self.round:
                self._say_along(path, lies)

    def told(self, hand):
        """What the hand was told in the rounds so far, along each path."""
        check_hand(self._hands, hand)
        heard = self._heard[hand]
        return {path: heard[path] for path in heard}

    def says(self, hand):
        """The sign that the hand tells at the end, None for nothing."""
        check_hand(self._hands, hand)
        if not self._is_over():
            raise NotOver("there are rounds to be played")
        if hand == 0:
            return self._sign
        return settled(self._hands, self._most, self._heard[hand], hand, (0,))

    def _is_over(self):
        return self.round > self._most

    def _say_along(self, path, lies):
        # The lies are checked, so only a liar's path is found among them.
        honest = self._honest_word(path)
        for hearer in hearers(self._hands, path):
            self._heard[hearer][path] = lies.get((path, hearer), honest)

    def _honest_word(self, path):
        if len(path) == 1:
            return self._sign
        return self._heard[path[-1]][path[:-1]]
