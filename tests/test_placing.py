"""Points 702 to 704."""

import unittest
from itertools import product
from random import Random

from making import is_tuples
from tensorcompiler.errors import PlaceError
from tensorcompiler.placing import check_places, choose_places, peak_of


def collide(lives, sizes, places):
    for k in range(len(lives)):
        for other in range(k):
            together = max(lives[k][0], lives[other][0]) <= min(lives[k][1], lives[other][1])
            words = set(range(places[k], places[k] + sizes[k])) & set(range(places[other], places[other] + sizes[other]))
            if together and words:
                return True
    return False


def drawn(seed, many, longest=6, largest=4):
    random = Random(seed)
    lives = []
    for _ in range(many):
        first = random.randint(0, longest)
        lives.append((first, random.randint(first, longest + 1)))
    return tuple(lives), tuple(random.randint(1, largest) for _ in range(many))


class Checking(unittest.TestCase):
    def refuse(self, *case):
        with self.assertRaises(PlaceError):
            check_places(*case)

    def test_how_many_words_are_used(self):
        self.assertEqual(check_places((), (), ()), 0)
        self.assertEqual(check_places(((0, 1),), (4,), (0,)), 4)
        self.assertEqual(check_places(((0, 1),), (4,), (10,)), 14)
        self.assertEqual(check_places(((0, 1), (1, 3), (2, 5)), (4, 2, 4), (0, 4, 0)), 6)
        self.assertEqual(check_places(((0, 1), (1, 3), (2, 5)), (4, 2, 1), (7, 5, 4)), 11)

    def test_numbers_of_places(self):
        self.refuse((), (), (0,))
        self.refuse(((0, 1),), (4,), ())
        self.refuse(((0, 1), (2, 3)), (4, 4), (0, 0, 0))
        # It comes ahead of the places themselves, which all are the same error.
        self.refuse(((0, 1), (2, 3)), (4, 4), (-1,))

    def test_negative_places(self):
        self.refuse(((0, 1),), (4,), (-1,))
        self.refuse(((0, 1), (2, 3)), (4, 4), (0, -1))
        self.refuse(((0, 1), (2, 3)), (4, 4), (-4, 0))

    def test_words_in_common(self):
        for places, good in (
                ((0, 4), True), ((0, 3), False), ((2, 0), True), ((1, 0), False), ((0, 0), False), ((0, 1), False),
                ((0, 100), True)):
            if good:
                check_places(((0, 2), (2, 4)), (4, 2), places)
            else:
                self.refuse(((0, 2), (2, 4)), (4, 2), places)
            check_places(((0, 1), (2, 4)), (4, 2), places)
        # With an earlier one that is not the last one.
        self.refuse(((0, 9), (0, 1), (5, 9)), (2, 2, 2), (0, 2, 1))
        check_places(((0, 9), (0, 1), (5, 9)), (2, 2, 2), (0, 2, 2))

    def test_drawn_places(self):
        for seed in range(400):
            lives, sizes = drawn(seed, seed % 6)
            random = Random(seed)
            places = tuple(random.randint(0, 9) for _ in lives)
            if collide(lives, sizes, places):
                self.refuse(lives, sizes, places)
            else:
                wanted = max([place + size for place, size in zip(places, sizes)] + [0])
                self.assertEqual(check_places(lives, sizes, places), wanted)


class Peaks(unittest.TestCase):
    def test_cases(self):
        self.assertEqual(peak_of((), ()), 0)
        self.assertEqual(peak_of(((3, 7),), (5,)), 5)
        self.assertEqual(peak_of(((0, 2), (2, 5)), (4, 3)), 7)
        self.assertEqual(peak_of(((0, 2), (3, 5)), (4, 3)), 4)
        self.assertEqual(peak_of(((0, 9), (1, 2), (4, 6), (5, 5)), (1, 5, 2, 3)), 6)
        self.assertEqual(peak_of(((0, 9), (1, 2), (4, 6), (6, 7)), (1, 5, 2, 4)), 7)

    def test_drawn_lives(self):
        for seed in range(200):
            lives, sizes = drawn(seed, seed % 9)
            sums = [sum(size for (first, last), size in zip(lives, sizes) if first <= t <= last) for t in range(-1, 10)]
            self.assertEqual(peak_of(lives, sizes), max(sums))


class Choosing(unittest.TestCase):
    def check(self, lives, sizes):
        places = choose_places(lives, sizes)
        self.assertTrue(is_tuples(places))
        used = check_places(lives, sizes, places)
        self.assertFalse(collide(lives, sizes, places))
        self.assertTrue(peak_of(lives, sizes) <= used <= sum(sizes))
        return used

    def fewer_is_possible(self, lives, sizes, used):
        """Some addresses are accepted that use fewer words, found by trying all of them."""
        rows = [range(used - size) for size in sizes]
        return any(not collide(lives, sizes, places) for places in product(*rows))

    def test_cases(self):
        self.assertEqual(choose_places((), ()), ())
        self.assertEqual(choose_places(((0, 1), (2, 3)), (4, 2)), (0, 0))
        self.assertEqual(choose_places(((0, 0),), (7,)), (0,))
        self.assertEqual(self.check(((0, 2), (2, 3)), (4, 2)), 6)
        self.assertEqual(self.check(((0, 1), (1, 2), (2, 3), (3, 4)), (3, 1, 3, 1)), 4)

    def test_few_buffers_are_placed_as_well_as_can_be(self):
        for seed in range(150):
            lives, sizes = drawn(seed, seed % 6, longest=5, largest=3)
            used = self.check(lives, sizes)
            if used > peak_of(lives, sizes):
                self.assertFalse(self.fewer_is_possible(lives, sizes, used), (lives, sizes))

    def test_rows_in_which_the_order_counts(self):
        # The first free place for each does not find the best ones here, by size or by life, in the first order or as given.
        for lives, sizes, words in (
                (((0, 0), (0, 1), (1, 2), (2, 2)), (1, 1, 2, 1), 3),
                (((5, 6), (3, 5), (2, 2), (5, 6), (0, 3)), (2, 3, 1, 2, 3), 7),
                (((1, 4), (1, 1), (3, 4), (0, 2), (2, 4)), (2, 3, 3, 1, 1), 6),
                (((2, 4), (5, 6), (0, 4), (2, 6), (0, 1)), (1, 3, 2, 2, 3), 5),
                (((0, 5), (0, 3), (3, 4), (4, 4), (2, 2)), (2, 2, 2, 3, 3), 7)):
            self.assertEqual(self.check(lives, sizes), words)
            self.assertFalse(self.fewer_is_possible(lives, sizes, words))

    def test_more_buffers(self):
        for seed in range(150):
            lives, sizes = drawn(seed, 6 + seed % 40, longest=3 + seed % 20, largest=9)
            self.check(lives, sizes)
        lives, sizes = drawn(1, 400, longest=100, largest=256)
        self.check(lives, sizes)
        apart = tuple((k, k) for k in range(50))
        self.assertEqual(self.check(apart, (5,) * 50), 5)
        self.assertEqual(self.check(((0, 9),) * 50, (5,) * 50), 250)


if __name__ == "__main__":
    unittest.main()
