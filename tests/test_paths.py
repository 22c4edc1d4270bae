import unittest

from lietable.errors import NoTable
from lietable.paths import hearers, paths
from tests.samples import NO_HANDS_NUMBERS, NO_MOSTS, all_tables


def is_path(hands, most, path):
    return (path[0] == 0 and len(path) <= most + 1 and len(set(path)) == len(path)
            and len(path) < hands and all(0 <= hand < hands for hand in path))


class TestHearers(unittest.TestCase):
    def test_the_others_rising(self):
        self.assertEqual(hearers(5, (0,)), [1, 2, 3, 4])
        self.assertEqual(hearers(5, (0, 3)), [1, 2, 4])
        self.assertEqual(hearers(5, (0, 4, 1)), [2, 3])

    def test_edges(self):
        self.assertEqual(hearers(2, (0,)), [1])
        self.assertEqual(hearers(2, (0, 1)), [])
        self.assertEqual(hearers(10, (0, 9, 5)), [1, 2, 3, 4, 6, 7, 8])
        self.assertEqual(hearers(12, (0, 1)), [2, 3, 4, 5, 6, 7, 8, 9, 10, 11])

    def test_each_answer_is_the_askers_own(self):
        first = hearers(4, (0,))
        first.append(9)
        self.assertEqual(hearers(4, (0,)), [1, 2, 3])


class TestPaths(unittest.TestCase):
    def test_shorter_ones_first(self):
        self.assertEqual(paths(4, 0), [(0,)])
        self.assertEqual(paths(4, 1), [(0,), (0, 1), (0, 2), (0, 3)])
        self.assertEqual(paths(4, 2), [
            (0,), (0, 1), (0, 2), (0, 3),
            (0, 1, 2), (0, 1, 3), (0, 2, 1), (0, 2, 3), (0, 3, 1), (0, 3, 2)])

    def test_no_path_without_a_hand_off_it(self):
        self.assertEqual(paths(2, 0), [(0,)])
        self.assertEqual(paths(2, 1), [(0,)])
        self.assertEqual(paths(2, 2), [(0,)])
        self.assertEqual(paths(3, 1), [(0,), (0, 1), (0, 2)])
        self.assertEqual(paths(3, 2), [(0,), (0, 1), (0, 2)])

    def test_all_tables(self):
        for hands, most in all_tables():
            found = paths(hands, most)
            self.assertIsInstance(found, list)
            self.assertTrue(all(isinstance(path, tuple) for path in found))
            tuples = [(0,)]
            tuples += [(0, one) for one in range(hands)]
            tuples += [(0, one, two) for one in range(hands) for two in range(hands)]
            self.assertEqual(found, [path for path in tuples if is_path(hands, most, path)])

    def test_how_many(self):
        self.assertEqual(len(paths(10, 2)), 1 + 9 + 72)
        self.assertEqual(len(paths(10, 1)), 1 + 9)

    def test_each_answer_is_the_askers_own(self):
        paths(4, 1).clear()
        self.assertEqual(paths(4, 1), [(0,), (0, 1), (0, 2), (0, 3)])

    def test_no_table(self):
        for hands in NO_HANDS_NUMBERS:
            with self.assertRaises(NoTable):
                paths(hands, 1)
        for most in NO_MOSTS:
            with self.assertRaises(NoTable):
                paths(4, most)


if __name__ == "__main__":
    unittest.main()
