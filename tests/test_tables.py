import random
import unittest

from lietable.errors import NoHand, NoSaying, NoSign, NotOver, NoTable, Over
from lietable.paths import paths
from lietable.tables import Table
from tests.samples import (NO_HANDS_NUMBERS, NO_MOSTS, NO_SIGNS, NO_WHOLE_NUMBERS, SIGNS, all_tables,
                         kinds_of_lies, of_round, played, said, sayings, taken)


def asked(table, hands):
    """All that a table tells but the signs at its end."""
    return table.round, [table.told(hand) for hand in range(hands)]


class TestNewTables(unittest.TestCase):
    def test_ahead_of_the_first_round(self):
        for hands, most in all_tables():
            table = Table(hands, most, "a", [])
            self.assertEqual(asked(table, hands), (0, [{}] * hands))

    def test_signs_of_all_lengths(self):
        for sign in SIGNS + ("abcdefghijklmnopqrstuvwxyz"[:8], "q" * 7):
            self.assertEqual(played(Table(4, 1, sign, []), 1, {}).says(2), sign)

    def test_as_many_liars_as_one_likes(self):
        for liars in ([], [0], (3, 1), [3, 2, 1, 0], (0, 1, 2, 3), ()):
            Table(4, 1, "a", liars)

    def test_no_table(self):
        for hands in NO_HANDS_NUMBERS:
            with self.assertRaises(NoTable):
                Table(hands, 1, "a", [])
        for most in NO_MOSTS:
            with self.assertRaises(NoTable):
                Table(4, most, "a", [])

    def test_no_sign(self):
        for sign in NO_SIGNS + (None,):
            with self.assertRaises(NoSign):
                Table(4, 1, sign, [])

    def test_no_hand(self):
        for hand in NO_WHOLE_NUMBERS + (-1, 4, 5, 10 ** 5000):
            for liars in ([hand], (2, hand), [hand, 1]):
                with self.assertRaises(NoHand):
                    Table(4, 1, "a", liars)
        for liars in ([1, 1], (2, 1, 2), [0, 0], (0, 1, 2, 3, 0)):
            with self.assertRaises(NoHand):
                Table(4, 1, "a", liars)

    def test_the_order_of_refusals(self):
        with self.assertRaises(NoTable):
            Table(1, 1, "", [9])
        with self.assertRaises(NoTable):
            Table(4, 3, "", [9])
        with self.assertRaises(NoTable):
            Table("4", None, "A", ["1"])
        with self.assertRaises(NoSign):
            Table(4, 1, "", [9])
        with self.assertRaises(NoSign):
            Table(4, 1, "A", [1, 1])

    def test_liars_are_not_kept_or_changed(self):
        liars = [2, 1]
        table = Table(4, 1, "a", liars)
        self.assertEqual(liars, [2, 1])
        liars.append(0)
        with self.assertRaises(NoSaying):
            table.play({((0,), 1): "b"})
        liars.clear()
        table.play({})
        table.play({((0, 2), 1): "b"})
        self.assertEqual(table.told(1)[0, 2], "b")


class TestRounds(unittest.TestCase):
    def test_honest_hands_say_what_they_were_told(self):
        table = Table(4, 1, "sun", [])
        table.play({})
        self.assertEqual(asked(table, 4), (1, [{}] + [{(0,): "sun"}] * 3))
        table.play({})
        self.assertEqual(table.round, 2)
        self.assertEqual(table.told(0), {})
        self.assertEqual(table.told(1), {(0,): "sun", (0, 2): "sun", (0, 3): "sun"})
        self.assertEqual(table.told(3), {(0,): "sun", (0, 1): "sun", (0, 2): "sun"})

    def test_a_first_hand_that_lies(self):
        table = Table(4, 1, "a", [0])
        table.play({((0,), 1): "b", ((0,), 3): None})
        self.assertEqual([table.told(hand) for hand in range(4)],
                         [{}, {(0,): "b"}, {(0,): "a"}, {(0,): None}])
        table.play({})
        self.assertEqual(table.told(1), {(0,): "b", (0, 2): "a", (0, 3): None})
        self.assertEqual(table.told(2), {(0,): "a", (0, 1): "b", (0, 3): None})
        self.assertEqual(table.told(3), {(0,): None, (0, 1): "b", (0, 2): "a"})

    def test_another_liar(self):
        table = Table(5, 2, "a", (3,))
        table.play({})
        table.play({((0, 3), 1): "b", ((0, 3), 4): None})
        self.assertEqual([table.told(hand)[0, 3] for hand in (1, 2, 4)], ["b", "a", None])
        table.play({((0, 1, 3), 2): "c"})
        self.assertEqual([table.told(hand)[0, 1, 3] for hand in (2, 4)], ["c", "a"])
        self.assertEqual([table.told(hand)[0, 3, 1] for hand in (2, 4)], ["b", "b"])
        self.assertEqual([table.told(hand)[0, 3, 4] for hand in (1, 2)], [None, None])

    def test_a_liar_passes_on_what_it_was_told_itself(self):
        table = Table(4, 2, "a", [0, 1])
        table.play({((0,), 1): "b"})
        table.play({((0, 1), 2): "c"})
        self.assertEqual([table.told(hand)[0, 1] for hand in (2, 3)], ["c", "b"])
        table.play({})
        self.assertEqual(table.told(2)[0, 3, 1], "a")
        self.assertEqual(table.told(3)[0, 1, 2], "c")
        self.assertEqual(table.told(3)[0, 2, 1], "a")

    def test_more_rounds_than_long_paths(self):
        for most in (1, 2):
            table = Table(2, most, "a", [0, 1])
            table.play({((0,), 1): "b"})
            for _ in range(most):
                with self.assertRaises(NoSaying):
                    table.play({((0, 1), 1): "b"})
                with self.assertRaises(NoSaying):
                    table.play({((0,), 1): "b"})
                table.play({})
            self.assertEqual(asked(table, 2), (most + 1, [{}, {(0,): "b"}]))
            with self.assertRaises(Over):
                table.play({})

    def test_all_tables_with_all_kinds_of_lies(self):
        rng = random.Random(4)
        for hands, most in all_tables():
            for liars in (rng.sample(range(hands), rng.randint(1, hands)), list(range(hands))):
                pairs = sayings(hands, most, liars)
                for lies in kinds_of_lies(pairs, rng):
                    self.check_rounds(hands, most, liars, lies)

    def check_rounds(self, hands, most, liars, lies):
        table = Table(hands, most, "a", liars)
        for size in range(1, most + 2):
            table.play(of_round(lies, size))
            self.assertEqual(table.round, size)
            for hand in range(hands):
                expected = {path: said("a", lies, path, hand) for path in paths(hands, most)
                            if len(path) <= size and hand not in path}
                self.assertEqual(table.told(hand), expected)
        for hand in range(1, hands):
            self.assertEqual(table.says(hand), taken(hands, most, "a", lies, hand, (0,)))
        self.assertEqual(table.says(0), "a")


class TestRefusedPlays(unittest.TestCase):
    def refused(self, table, hands, error, lies):
        before = asked(table, hands)
        with self.assertRaises(error):
            table.play(lies)
        self.assertEqual(asked(table, hands), before)

    def test_no_saying(self):
        table = Table(4, 2, "a", [0, 2])
        pairs = [((0,), 0), ((0,), 4), ((0,), -1), ((0,), None), ((0,), "1"), ((0, 2), 1),
                 ((2,), 1), ((1,), 2), ((), 1), ((0, 0), 1), ((4,), 1), (0, 1), ((0,),), (0,), (),
                 ((0,), 1, 2), "ab", "", 0, 7, None, True, ("0", 1), (("0",), 1), ((None,), 1),
                 ((0,), (1,)), (1, (0,)), b"ab", ((0,), 10 ** 5000), ((-1,), 1)]
        for pair in pairs:
            self.refused(table, 4, NoSaying, {pair: "b"})
            self.refused(table, 4, NoSaying, {((0,), 1): "b", pair: None})
        table.play({((0,), 1): "b"})
        pairs = [((0,), 1), ((0, 1), 2), ((0, 3), 1), ((0, 2), 2), ((0, 2), 0), ((0, 2), 4),
                 ((0, 2), None), ((2, 0), 1), ((1, 2), 3), ((0, 4), 1), ((0, 1, 2), 3), ((0, 0), 1)]
        for pair in pairs:
            self.refused(table, 4, NoSaying, {pair: "b"})
        table.play({((0, 2), 1): "b"})
        pairs = [((0, 2), 1), ((0, 2, 1), 3), ((0, 1, 3), 2), ((0, 2, 2), 1), ((0, 1, 2), 1),
                 ((0, 1, 2), 2), ((0, 1, 2), 0), ((1, 0, 2), 3), ((0, 1, 0), 3), ((0, 1, 3, 2), 3),
                 ((0, -1, 2), 1), ((0, 4, 2), 1), ((0, None, 2), 1)]
        for pair in pairs:
            self.refused(table, 4, NoSaying, {pair: "b"})
        table.play({((0, 1, 2), 3): "b", ((0, 3, 2), 1): None})
        self.assertEqual(table.told(3)[0, 1, 2], "b")

    def test_no_saying_of_honest_hands(self):
        self.refused(Table(4, 1, "a", []), 4, NoSaying, {((0,), 1): "a"})
        self.refused(Table(4, 1, "a", [1, 2, 3]), 4, NoSaying, {((0,), 1): "a"})

    def test_no_sign(self):
        table = Table(4, 1, "a", [0])
        for sign in NO_SIGNS:
            self.refused(table, 4, NoSign, {((0,), 1): sign})
            self.refused(table, 4, NoSign, {((0,), 3): "b", ((0,), 1): sign, ((0,), 2): None})

    def test_signs_of_lies(self):
        for sign in SIGNS + (None,):
            table = Table(4, 1, "a", [0])
            table.play({((0,), 2): sign})
            self.assertEqual(table.told(2), {(0,): sign})

    def test_pair_by_pair(self):
        table = Table(4, 1, "a", [0])
        self.refused(table, 4, NoSign, {((0,), 1): "", ((1,), 1): "b"})
        self.refused(table, 4, NoSaying, {((1,), 1): "b", ((0,), 1): ""})
        self.refused(table, 4, NoSaying, {((1,), 1): ""})
        self.refused(table, 4, NoSaying, {((0,), 3): None, ((1,), 1): "", ((0,), 1): ""})

    def test_over(self):
        for hands, most in all_tables():
            table = played(Table(hands, most, "a", [0]), most, {})
            self.refused(table, hands, Over, {})
            self.refused(table, hands, Over, {((9,), 1): ""})
            self.refused(table, hands, Over, {((0,), 1): ""})
            self.assertEqual(table.says(1), "a")

    def test_a_refused_round_can_be_played_after_all(self):
        table = Table(4, 1, "a", [0])
        self.refused(table, 4, NoSign, {((0,), 1): "b", ((0,), 2): "B"})
        table.play({((0,), 2): "c"})
        self.assertEqual([table.told(hand)[0,] for hand in (1, 2, 3)], ["a", "c", "a"])

    def test_lies_are_not_kept_or_changed(self):
        table = Table(4, 1, "a", [0])
        lies = {((0,), 2): "b", ((0,), 1): None}
        table.play(lies)
        self.assertEqual(list(lies.items()), [(((0,), 2), "b"), (((0,), 1), None)])
        lies[(0,), 2] = "c"
        lies[(0,), 3] = "c"
        table.play({})
        self.assertEqual(table.told(1), {(0,): None, (0, 2): "b", (0, 3): "a"})


class TestTold(unittest.TestCase):
    def test_what_is_told_is_the_askers_own(self):
        table = Table(4, 1, "a", [])
        table.play({})
        early = table.told(1)
        table.play({})
        self.assertEqual(early, {(0,): "a"})
        late = table.told(1)
        late.clear()
        late[0,] = "b"
        early[0,] = "c"
        table.told(0)[0, 1] = "b"
        self.assertEqual(table.told(1), {(0,): "a", (0, 2): "a", (0, 3): "a"})
        self.assertEqual(table.told(0), {})
        self.assertEqual([table.says(hand) for hand in range(4)], ["a"] * 4)

    def test_no_hand(self):
        for table in (Table(4, 1, "a", []), played(Table(4, 1, "a", []), 1, {})):
            for hand in NO_WHOLE_NUMBERS + (-1, 4, 10, 10 ** 5000):
                with self.assertRaises(NoHand):
                    table.told(hand)

    def test_two_tables_know_nothing_of_each_other(self):
        one = Table(4, 1, "a", [])
        other = Table(4, 1, "b", [])
        one.play({})
        self.assertEqual(asked(other, 4), (0, [{}] * 4))


class TestSays(unittest.TestCase):
    def test_hand_0_tells_its_own_even_as_a_liar(self):
        table = played(Table(4, 1, "a", [0]), 1, {((0,), hand): "b" for hand in (1, 2, 3)})
        self.assertEqual([table.says(hand) for hand in range(4)], ["a", "b", "b", "b"])

    def test_liars_tell_what_they_take_to_be_said(self):
        table = played(Table(4, 1, "a", [3]), 1, {((0, 3), 1): "b", ((0, 3), 2): "b"})
        self.assertEqual([table.says(hand) for hand in range(4)], ["a"] * 4)

    def test_none_for_nothing(self):
        table = played(Table(4, 1, "a", [0]), 1, {((0,), 1): "b", ((0,), 2): "c"})
        self.assertEqual([table.says(hand) for hand in range(4)], ["a", None, None, None])

    def test_one_round(self):
        table = played(Table(3, 0, "a", [0]), 0, {((0,), 1): "b"})
        self.assertEqual([table.says(hand) for hand in range(3)], ["a", "b", "a"])

    def test_not_over(self):
        for hands, most in all_tables():
            table = Table(hands, most, "a", [])
            for _ in range(most + 1):
                for hand in range(hands):
                    with self.assertRaises(NotOver):
                        table.says(hand)
                table.play({})
            self.assertEqual([table.says(hand) for hand in range(hands)], ["a"] * hands)

    def test_no_hand_ahead_of_not_over(self):
        for table in (Table(4, 1, "a", []), played(Table(4, 1, "a", []), 1, {})):
            for hand in NO_WHOLE_NUMBERS + (-1, 4, 10, 10 ** 5000):
                with self.assertRaises(NoHand):
                    table.says(hand)

    def test_asking_changes_nothing(self):
        table = played(Table(4, 1, "a", [0]), 1, {((0,), 1): "b"})
        before = asked(table, 4)
        once = [table.says(hand) for hand in range(4)]
        self.assertEqual(asked(table, 4), before)
        self.assertEqual([table.says(hand) for hand in range(4)], once)


if __name__ == "__main__":
    unittest.main()
