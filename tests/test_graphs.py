import random
import unittest

from oneforall.graphs import all_following, greatest_numbers, greatest_of_all, long_way

LINE = {1: [2], 2: [3], 3: []}
FORK = {1: [2, 3], 2: [], 3: [4], 4: [], 9: [2]}
CIRCLE = {0: [1], 1: [2, 5], 2: [3], 3: [1], 5: []}


class GraphsTest(unittest.TestCase):

    def test_all_following(self):
        self.assertEqual(all_following([2], lambda key: LINE[key]), {2: [3], 3: []})
        self.assertEqual(all_following([9, 1], lambda key: FORK[key]), FORK)
        self.assertEqual(all_following([3], lambda key: CIRCLE[key]), {key: CIRCLE[key] for key in (1, 2, 3, 5)})

    def test_first_ones_stay(self):
        first = [1]
        all_following(first, lambda key: LINE[key])
        self.assertEqual(first, [1])

    def test_greatest_numbers(self):
        self.assertEqual(greatest_numbers(LINE), {1: 2, 2: 1, 3: 0})
        self.assertEqual(greatest_numbers(FORK), {1: 2, 2: 0, 3: 1, 4: 0, 9: 1})
        self.assertEqual(greatest_numbers(CIRCLE), {5: 0})

    def test_greatest_of_all(self):
        self.assertEqual([greatest_of_all(follows) for follows in (LINE, FORK, CIRCLE)], [2, 2, None])

    def test_long_way(self):
        self.assertEqual(long_way(LINE, [3, 2, 1], 2), [1, 2, 3])
        self.assertEqual(long_way(LINE, [1], 0), [1])
        self.assertIsNone(long_way(LINE, [1, 2], 3))
        self.assertIsNone(long_way(LINE, [3], 1))
        self.assertEqual(long_way(CIRCLE, [5, 0], 8), [0, 1, 2, 3, 1, 2, 3, 1, 2])

    def test_long_way_follows(self):
        draw = random.Random(4)
        for _ in range(200):
            follows = {key: sorted({draw.randrange(8) for _ in range(draw.randint(0, 2))}) for key in range(8)}
            numbers = greatest_numbers(follows)
            for steps in range(12):
                way = long_way(follows, [0], steps)
                self.assertEqual(way is None, 0 in numbers and numbers[0] < steps)
                if way is not None:
                    self.assertEqual((way[0], len(way)), (0, steps + 1))
                    self.assertTrue(all(after in follows[key] for key, after in zip(way, way[1:])))


if __name__ == "__main__":
    unittest.main()
