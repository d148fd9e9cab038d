"""Promise [118]: hitting sets, and smallest sets."""

import itertools
import random
import unittest

from commonground.conflict.hitting import hitting_sets, smallest_sets


def plain_smallest(sets):
    return sorted({one for one in sets if not any(set(other) < set(one) for other in sets)})


def plain_hitting(sets):
    numbers = sorted({k for one in sets for k in one})
    chosen = [found for many in range(len(numbers) + 1) for found in itertools.combinations(numbers, many)]
    return plain_smallest([found for found in chosen if all(set(found) & set(one) for one in sets)])


class HittingTest(unittest.TestCase):
    def check(self, sets, smallest, hitting):
        given = list(sets)
        self.assertEqual(smallest_sets(given), smallest)
        self.assertEqual(hitting_sets(given), hitting)
        self.assertEqual(given, sets)
        self.assertEqual(plain_smallest(sets), smallest)
        self.assertEqual(plain_hitting(sets), hitting)
        self.assertEqual(hitting_sets(given[::-1]), hitting)

    def test_no_sets(self):
        self.check([], [], [()])

    def test_an_empty_set_among_them(self):
        self.check([()], [()], [])
        self.check([(1, 2), (), (3,)], [()], [])

    def test_equal_sets_and_sets_within_others(self):
        self.check([(1, 2), (1, 2)], [(1, 2)], [(1,), (2,)])
        self.check([(1, 2, 3), (2,), (2, 3), (2,)], [(2,)], [(2,)])
        self.check([(1, 2, 3), (1, 2), (3, 4)], [(1, 2), (3, 4)], [(1, 3), (1, 4), (2, 3), (2, 4)])

    def test_negative_integers(self):
        self.check([(-3, 1), (-3, -1), (0, 1)], [(-3, -1), (-3, 1), (0, 1)], [(-3, 0), (-3, 1), (-1, 1)])
        self.check([(-10 ** 20,), (-2, -1)], [(-10 ** 20,), (-2, -1)], [(-10 ** 20, -2), (-10 ** 20, -1)])

    def test_the_order(self):
        self.check([(10,), (9, 11)], [(9, 11), (10,)], [(9, 10), (10, 11)])
        self.check([(1, 5), (2, 5), (3, 5)], [(1, 5), (2, 5), (3, 5)], [(1, 2, 3), (5,)])

    def test_returned_lists_are_new(self):
        sets = [(1,), (2,)]
        smallest_sets(sets).clear()
        hitting_sets(sets).append((9,))
        self.assertEqual((smallest_sets(sets), hitting_sets(sets)), ([(1,), (2,)], [(1, 2)]))

    def test_random_sets(self):
        rng = random.Random(118)
        for _ in range(400):
            sets = [tuple(sorted(rng.sample(range(-3, 4), rng.choice((0, 1, 1, 2, 2, 3, 4)))))
                    for _ in range(rng.randint(0, 5))]
            self.check(sets, plain_smallest(sets), plain_hitting(sets))
            self.assertEqual(hitting_sets(hitting_sets(sets)), smallest_sets(sets))

    def test_many_hitting_sets(self):
        pairs = [(2 * k, 2 * k + 1) for k in range(10)]
        found = hitting_sets(pairs)
        self.assertEqual(found, sorted(itertools.product(*pairs)))
        some = list(itertools.combinations(range(9), 3))
        self.assertEqual(hitting_sets(some), list(itertools.combinations(range(9), 7)))
        self.assertEqual(hitting_sets(hitting_sets(some)), some)


if __name__ == "__main__":
    unittest.main()
