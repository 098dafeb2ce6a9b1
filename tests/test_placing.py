"""Points 702 to 704: places in main memory."""

import random
import unittest
from itertools import product

from tensorworks.errors import PlaceError
from tensorworks.placing import check_places, choose_places, peak_of
from tests.helpers import error_of


def random_case(seed, many, most=4):
    chance = random.Random(seed)
    lives = []
    for _ in range(many):
        start = chance.randint(0, 5)
        lives.append((start, start + chance.randint(0, 3)))
    return tuple(lives), tuple(chance.randint(1, most) for _ in range(many))


class Check(unittest.TestCase):
    def test_words(self):
        self.assertEqual(check_places((), (), ()), 0)
        self.assertEqual(check_places(((0, 1),), (4,), (3,)), 7)
        self.assertEqual(check_places(((0, 1), (2, 3)), (4, 2), (0, 1)), 4)
        self.assertEqual(check_places(((0, 1), (1, 3)), (4, 2), (2, 0)), 6)

    def test_number_of_addresses(self):
        for places in ((), (0,), (0, 4, 8)):
            self.assertIs(error_of(check_places, ((0, 1), (2, 3)), (4, 2), places), PlaceError)
        self.assertIs(error_of(check_places, (), (), (0,)), PlaceError)

    def test_negative(self):
        self.assertIs(error_of(check_places, ((0, 1), (2, 3)), (4, 2), (0, -1)), PlaceError)
        self.assertIs(error_of(check_places, ((0, 1),), (4,), (-4,)), PlaceError)

    def test_words_in_common(self):
        """Two buffers of 3 and 2 words: those that meet may touch, no more."""
        for place in range(0, 10):
            apart = place + 2 <= 4 or place >= 7
            self.assertIs(error_of(check_places, ((0, 2), (2, 5)), (3, 2), (4, place)), None if apart else PlaceError)
            self.assertIsNone(error_of(check_places, ((0, 2), (3, 5)), (3, 2), (4, place)))
        self.assertIs(error_of(check_places, ((0, 9), (0, 1), (2, 3)), (1, 5, 5), (9, 0, 5)), PlaceError)
        self.assertIsNone(error_of(check_places, ((0, 9), (0, 1), (2, 3)), (1, 5, 5), (10, 0, 5)))

    def test_large_addresses(self):
        self.assertEqual(check_places(((0, 0),), (1,), (10 ** 30,)), 10 ** 30 + 1)


class Peak(unittest.TestCase):
    def test_peak(self):
        self.assertEqual(peak_of((), ()), 0)
        self.assertEqual(peak_of(((0, 2), (2, 5)), (3, 4)), 7)
        self.assertEqual(peak_of(((0, 2), (3, 5)), (3, 4)), 4)

    def test_all_times(self):
        for seed in range(200):
            lives, sizes = random_case(seed, seed % 8)
            sums = [sum(size for (a, b), size in zip(lives, sizes) if a <= t <= b) for t in range(-1, 12)]
            self.assertEqual(peak_of(lives, sizes), max(sums))


class Choose(unittest.TestCase):
    def test_examples(self):
        self.assertEqual(choose_places(((0, 1), (2, 3)), (4, 2)), (0, 0))
        self.assertEqual(choose_places((), ()), ())

    def test_no_other_addresses_use_fewer_words(self):
        for seed in range(120):
            lives, sizes = random_case(seed, 1 + seed % 4, 3)
            self.compare(lives, sizes)
        for seed in range(12):
            self.compare(*random_case(seed, 5, 2))

    def compare(self, lives, sizes):
        used = check_places(lives, sizes, choose_places(lives, sizes))
        self.assertLessEqual(peak_of(lives, sizes), used)
        for places in product(*[range(used - size) for size in sizes]):
            self.assertIs(error_of(check_places, lives, sizes, places), PlaceError)

    def test_orders_that_matter(self):
        """Neither taken as they come nor the largest first do these buffers find the best places."""
        for lives, sizes, best in (
                (((0, 0), (2, 2), (0, 1), (1, 3)), (3, 3, 2, 2), 5),
                (((3, 6), (1, 3), (0, 1), (4, 5)), (1, 2, 3, 3), 5),
                (((4, 6), (3, 6), (0, 3), (3, 6), (1, 3)), (3, 2, 2, 3, 2), 9),
                (((0, 3), (2, 5), (3, 6), (4, 7), (1, 3)), (2, 2, 3, 3, 2), 9)):
            self.assertEqual(check_places(lives, sizes, choose_places(lives, sizes)), best)

    def test_many_buffers(self):
        for seed in range(60):
            lives, sizes = random_case(seed, 6 + seed % 30, 40)
            used = check_places(lives, sizes, choose_places(lives, sizes))
            self.assertLessEqual(used, sum(sizes))
        lives, sizes = random_case(1, 400, 256)
        self.assertLessEqual(check_places(lives, sizes, choose_places(lives, sizes)), sum(sizes))
