import random
import unittest

from lietable.paths import paths
from lietable.votes import settled, vote


class TestVote(unittest.TestCase):
    def test_more_than_half(self):
        self.assertEqual(vote(["a"]), "a")
        self.assertEqual(vote(["b", "a", "b"]), "b")
        self.assertEqual(vote(["c", "a", None, "c", "c"]), "c")
        self.assertEqual(vote(["no", "no", "abcdefgh"]), "no")

    def test_half_is_not_enough(self):
        self.assertIsNone(vote(["a", "b"]))
        self.assertIsNone(vote(["a", "a", "b", "b"]))
        self.assertIsNone(vote(["a", "a", "b", "c"]))
        self.assertIsNone(vote(["a", "a", "b", None]))

    def test_the_most_common_may_be_less_than_half(self):
        self.assertIsNone(vote(["a", "a", "b", "c", "d"]))

    def test_nothing_is_counted_too(self):
        self.assertIsNone(vote(["a", None]))
        self.assertIsNone(vote(["a", None, None]))
        self.assertIsNone(vote(["a", "a", None, None]))
        self.assertEqual(vote(["a", "a", None]), "a")

    def test_edges(self):
        self.assertIsNone(vote([]))
        self.assertIsNone(vote([None]))
        self.assertEqual(vote(["z"] * 51 + ["a"] * 50), "z")
        self.assertIsNone(vote(["z"] * 50 + ["a"] * 50))

    def test_the_list_stays(self):
        signs = ["b", "a", None, "b", "b"]
        vote(signs)
        self.assertEqual(signs, ["b", "a", None, "b", "b"])


class TestSettled(unittest.TestCase):
    def test_a_path_as_long_as_there_are_rounds(self):
        self.assertEqual(settled(4, 0, {(0,): "a"}, 2, (0,)), "a")
        told = {(0,): "a", (0, 2): "b", (0, 3): None}
        self.assertEqual(settled(4, 1, told, 1, (0, 2)), "b")
        self.assertIsNone(settled(4, 1, told, 1, (0, 3)))

    def test_the_vote_of_one_round_more(self):
        self.assertEqual(settled(4, 1, {(0,): "a", (0, 2): "b", (0, 3): "b"}, 1, (0,)), "b")
        self.assertEqual(settled(4, 1, {(0,): "a", (0, 2): "a", (0, 3): "b"}, 1, (0,)), "a")
        self.assertIsNone(settled(4, 1, {(0,): "a", (0, 2): "b", (0, 3): "c"}, 1, (0,)))
        self.assertIsNone(settled(4, 1, {(0,): "a", (0, 2): None, (0, 3): None}, 1, (0,)))
        self.assertIsNone(settled(3, 1, {(0,): "a", (0, 2): "b"}, 1, (0,)))

    def test_it_is_a_vote_of_votes(self):
        told = {(0,): "b",
                (0, 2): "a", (0, 3): "a", (0, 4): "b",
                (0, 2, 3): "a", (0, 2, 4): "b",
                (0, 3, 2): "a", (0, 3, 4): "b",
                (0, 4, 2): "b", (0, 4, 3): "b"}
        self.assertEqual(settled(5, 2, told, 1, (0, 2)), "a")
        self.assertEqual(settled(5, 2, told, 1, (0, 4)), "b")
        self.assertIsNone(settled(5, 2, told, 1, (0,)))
        told[0,] = "a"
        self.assertEqual(settled(5, 2, told, 1, (0,)), "a")

    def test_own_word_counts_beside_the_votes(self):
        told = {(0,): "a", (0, 2): "a", (0, 3): "c", (0, 2, 3): "b", (0, 3, 2): "c"}
        # Along (0, 2) it is a against b, so nothing is settled there; along (0, 3) it is c.
        self.assertIsNone(settled(4, 2, told, 1, (0, 2)))
        self.assertEqual(settled(4, 2, told, 1, (0, 3)), "c")
        self.assertIsNone(settled(4, 2, told, 1, (0,)))

    def test_few_hands_for_many_rounds(self):
        self.assertEqual(settled(2, 2, {(0,): "a"}, 1, (0,)), "a")
        self.assertEqual(settled(2, 1, {(0,): "a"}, 1, (0,)), "a")
        self.assertEqual(settled(3, 2, {(0,): "a", (0, 2): "b"}, 1, (0, 2)), "b")
        self.assertEqual(settled(3, 2, {(0,): "b", (0, 2): "b"}, 1, (0,)), "b")
        self.assertIsNone(settled(2, 2, {(0,): None}, 1, (0,)))

    def test_beyond_the_numbers_of_a_table(self):
        told = {(0,): "a"}
        told.update({(0, hand): "b" for hand in range(2, 12)})
        self.assertEqual(settled(12, 1, told, 1, (0,)), "b")

    def test_what_is_told_stays(self):
        rng = random.Random(9)
        told = {path: rng.choice(("a", "b", None)) for path in paths(7, 2) if 3 not in path}
        before = {path: told[path] for path in told}
        settled(7, 2, told, 3, (0,))
        self.assertEqual(told, before)


if __name__ == "__main__":
    unittest.main()
