import random
import unittest
from itertools import combinations, product

from lietable.errors import NoHand, NoSaying, NoSign, NoTable
from lietable.parting import parting, parts
from lietable.tables import Table
from tests.samples import (NO_HANDS_NUMBERS, NO_MOSTS, NO_SIGNS, NO_WHOLE_NUMBERS, all_tables,
                         kinds_of_lies, played, sayings)

SAFE = [(hands, most) for hands, most in all_tables() if hands > 3 * most]


class TestPromise(unittest.TestCase):
    def check_promise(self, hands, most, liars, lies):
        table = played(Table(hands, most, "a", liars), most, lies)
        told = {table.says(hand) for hand in range(hands) if hand not in liars}
        self.assertEqual(len(told), 1)
        if 0 not in liars:
            self.assertEqual(told, {"a"})
        self.assertIs(parts(hands, most, "a", liars, lies), False)

    def test_lies_of_several_kinds(self):
        rng = random.Random(11)
        for hands, most in SAFE:
            for many in range(most + 1):
                for liars in combinations(range(hands), many):
                    for lies in kinds_of_lies(sayings(hands, most, liars), rng):
                        self.check_promise(hands, most, list(liars), lies)

    def test_all_lies_of_one_liar_among_four(self):
        for liar in range(4):
            pairs = sayings(4, 1, [liar])
            for signs in product(("a", "b", "c", None), repeat=len(pairs)):
                self.check_promise(4, 1, [liar], dict(zip(pairs, signs)))


class TestParts(unittest.TestCase):
    def test_nothing_parts_those_who_do_not_lie(self):
        for hands, most in all_tables():
            self.assertIs(parts(hands, most, "a", [], {}), False)

    def test_against_an_honest_first_hand(self):
        self.assertIs(parts(3, 1, "a", [2], {((0, 2), 1): "b"}), True)
        self.assertIs(parts(3, 1, "a", [2], {((0, 2), 1): None}), True)
        self.assertIs(parts(3, 1, "a", [2], {((0, 2), 1): "a"}), False)
        self.assertIs(parts(3, 1, "a", [2], {}), False)

    def test_a_lying_first_hand_does_not_count(self):
        lies = {((0,), hand): "b" for hand in (1, 2)}
        self.assertIs(parts(3, 0, "a", [0], lies), False)
        lies[(0,), 2] = "c"
        self.assertIs(parts(3, 0, "a", [0], lies), True)
        self.assertIs(parts(3, 0, "a", [0, 2], lies), False)

    def test_nothing_is_unlike_a_sign(self):
        self.assertIs(parts(3, 0, "a", [0], {((0,), 1): None}), True)
        self.assertIs(parts(3, 0, "a", [0], {((0,), 1): None, ((0,), 2): None}), False)

    def test_no_honest_hand_or_one(self):
        lies = {((0,), 1): "b", ((0,), 2): "c"}
        self.assertIs(parts(3, 0, "a", (0, 1, 2), lies), False)
        self.assertIs(parts(3, 0, "a", [1, 2, 0], {}), False)
        self.assertIs(parts(3, 0, "a", [2, 0], lies), False)

    def test_lies_of_late_rounds_count(self):
        lies = {((0, 2, 3), 1): "b", ((0, 2), 1): "b", ((0, 3, 2), 1): "b", ((0, 3), 1): "b"}
        self.assertIs(parts(4, 2, "a", [2, 3], lies), True)
        del lies[(0, 2, 3), 1]
        self.assertIs(parts(4, 2, "a", [2, 3], {((0, 2), 1): "b"}), False)

    def test_like_a_table_played(self):
        rng = random.Random(12)
        for hands, most in all_tables():
            for _ in range(4):
                liars = rng.sample(range(hands), rng.randint(0, hands))
                for lies in kinds_of_lies(sayings(hands, most, liars), rng):
                    table = played(Table(hands, most, "a", liars), most, lies)
                    told = {table.says(hand) for hand in range(hands) if hand not in liars}
                    self.assertIs(parts(hands, most, "a", liars, lies), len(told) > 1)

    def test_the_order_of_the_pairs_does_not_count(self):
        sign, liars, lies = parting(5, 2)
        turned = {pair: lies[pair] for pair in reversed(list(lies))}
        self.assertIs(parts(5, 2, sign, liars, turned), True)

    def test_refused_as_table_is(self):
        for hands in NO_HANDS_NUMBERS:
            with self.assertRaises(NoTable):
                parts(hands, 1, "", [9], {0: ""})
        for most in NO_MOSTS:
            with self.assertRaises(NoTable):
                parts(4, most, "", [9], {0: ""})
        for sign in NO_SIGNS + (None,):
            with self.assertRaises(NoSign):
                parts(4, 1, sign, [9], {0: ""})
        for hand in NO_WHOLE_NUMBERS + (-1, 4, 1):
            with self.assertRaises(NoHand):
                parts(4, 1, "a", [1, hand], {0: ""})

    def test_refused_as_play_is(self):
        pairs = [((0,), 1), ((0, 2), 2), ((0, 1), 2), ((0, 2, 1), 3), ((0, 1, 2), 3), ((2,), 1),
                 ((0, 2), 4), ((0, 2), None), ((), 1), (0, 2), "ab", None, ((0, 2), 1, 3), ((0, 0, 2), 1),
                 ((0, 2), 0)]
        for pair in pairs:
            for lies in ({pair: "b"}, {((0, 2), 1): "b", pair: ""}, {pair: None, ((0, 2), 1): ""}):
                with self.assertRaises(NoSaying):
                    parts(4, 1, "a", [2], lies)
        for sign in NO_SIGNS:
            for lies in ({((0, 2), 1): sign}, {((0, 2), 3): "b", ((0, 2), 1): sign, ((0,), 1): "b"}):
                with self.assertRaises(NoSign):
                    parts(4, 1, "a", [2], lies)
        with self.assertRaises(NoSaying):
            parts(2, 1, "a", [1], {((0, 1), 1): "b"})

    def test_refused_as_they_stand_whatever_their_rounds(self):
        with self.assertRaises(NoSign):
            parts(4, 1, "a", [0, 2], {((0, 2), 1): "", ((0,), 0): "b"})
        with self.assertRaises(NoSaying):
            parts(4, 1, "a", [0, 2], {((0, 2), 2): "", ((0,), 1): ""})

    def test_what_is_handed_in_stays(self):
        liars = [3, 0]
        lies = {((0, 3), 1): "b", ((0,), 2): None}
        parts(4, 1, "a", liars, lies)
        self.assertEqual(liars, [3, 0])
        self.assertEqual(list(lies.items()), [(((0, 3), 1), "b"), (((0,), 2), None)])


class TestParting(unittest.TestCase):
    def test_all_tables(self):
        for hands, most in all_tables():
            found = parting(hands, most)
            if hands > 3 * most or hands == 2:
                self.assertIsNone(found)
                continue
            self.assertIsInstance(found, tuple)
            sign, liars, lies = found
            self.assertIsInstance(liars, list)
            self.assertIsInstance(lies, dict)
            self.assertLessEqual(len(liars), most)
            self.assertIs(parts(hands, most, sign, liars, lies), True)

    def test_two_hands_are_never_parted(self):
        for most, many in product(range(3), range(3)):
            for liars in combinations(range(2), many):
                pairs = sayings(2, most, liars)
                for signs in product(("a", "b", None), repeat=len(pairs)):
                    self.assertIs(parts(2, most, "a", liars, dict(zip(pairs, signs))), False)

    def test_each_answer_is_the_askers_own(self):
        sign, liars, lies = parting(6, 2)
        kept = list(liars), dict(lies)
        liars.clear()
        lies.clear()
        self.assertEqual(parting(6, 2), (sign, *kept))

    def test_no_table(self):
        for hands in NO_HANDS_NUMBERS:
            with self.assertRaises(NoTable):
                parting(hands, 1)
        for most in NO_MOSTS:
            for hands in (2, 4, 10):
                with self.assertRaises(NoTable):
                    parting(hands, most)


if __name__ == "__main__":
    unittest.main()
