"""Promise [18], and [2] and [3] where they speak of deliveries."""

import itertools
import random
import time
import unittest

from helps import refused, shuffled
from palmhall.deliveries import fewest_deliveries
from palmhall.errors import Unlike


def all_partings(things):
    """Every way to part a list of things."""
    if not things:
        yield []
        return
    first, *rest = things
    for parting in all_partings(rest):
        yield [[first]] + parting
        for at, part in enumerate(parting):
            yield parting[:at] + [[first] + part] + parting[at + 1:]


def fewest_by_partings(numbers):
    """A part whose numbers come to 0 takes one row less than it has members, and no way takes fewer."""
    return min(
        sum(len(part) - 1 for part in parting)
        for parting in all_partings(numbers)
        if all(sum(part) == 0 for part in parting)
    )


def reached_by(many, numbers):
    """Whether so many rows, any members and any counts, are enough: tried without any thought of parts."""
    if not any(numbers):
        return True
    if many == 0:
        return False
    giving = [member for member, number in enumerate(numbers) if number > 0]
    taking = [member for member, number in enumerate(numbers) if number < 0]
    for giver, taker in itertools.product(giving, taking):
        for count in range(1, min(numbers[giver], -numbers[taker]) + 1):
            left = list(numbers)
            left[giver] -= count
            left[taker] += count
            if reached_by(many - 1, left):
                return True
    return False


def drawn_numbers(chance, many, most):
    """So many numbers, at most so great but for the last one, that come to 0."""
    numbers = [chance.randint(-most, most) for _ in range(many - 1)]
    return numbers + [-sum(numbers)]


def drawn_parts(chance, sizes, most):
    """Numbers that come to 0 in parts of these sizes at least."""
    return shuffled(chance, [number for size in sizes for number in drawn_numbers(chance, size, most)])


class Deliveries(unittest.TestCase):
    def check(self, numbers, wanted):
        before = list(numbers)
        told = fewest_deliveries(numbers)
        self.assertEqual(numbers, before)
        self.assertIs(type(told), tuple)
        many, rows = told
        self.assertEqual((type(many), type(rows)), (int, list))
        self.assertEqual(len(rows), many)
        if wanted is not None:
            self.assertEqual(many, wanted, numbers)
        self.assertEqual(rows, sorted(rows))
        given = [0] * len(numbers)
        for row in rows:
            self.assertIs(type(row), tuple)
            giver, taker, count = row
            self.assertEqual([type(part) for part in row], [int] * 3)
            self.assertNotEqual(giver, taker)
            self.assertGreaterEqual(count, 1)
            self.assertTrue(0 <= giver < len(numbers) and 0 <= taker < len(numbers))
            given[giver] += count
            given[taker] -= count
        self.assertEqual(given, numbers)
        return many

    def test_noughts(self):
        for many in range(2, 13):
            self.assertEqual(fewest_deliveries([0] * many), (0, []))

    def test_two(self):
        self.assertEqual(fewest_deliveries([5, -5]), (1, [(0, 1, 5)]))
        self.assertEqual(fewest_deliveries([-5, 5]), (1, [(1, 0, 5)]))
        self.assertEqual(fewest_deliveries([0, -1, 0, 1]), (1, [(3, 1, 1)]))

    def test_three(self):
        self.assertEqual(fewest_deliveries([3, 2, -5]), (2, [(0, 2, 3), (1, 2, 2)]))
        self.assertEqual(fewest_deliveries([-3, -2, 5]), (2, [(2, 0, 3), (2, 1, 2)]))

    def test_parts_that_the_greatest_first_would_miss(self):
        self.check([5, 4, -3, -2, -4], 3)
        self.check([6, 5, -4, -2, -5], 3)
        self.check([7, 3, -5, -2, -1, -2], 4)
        self.check([8, 7, -5, -3, -4, -3], 4)
        self.check([10, 9, 8, -7, -3, -5, -4, -6, -2], 6)

    def test_all_lists_of_small_numbers(self):
        for many, most in [(2, 6), (3, 5), (4, 3), (5, 2)]:
            for numbers in itertools.product(range(-most, most + 1), repeat=many):
                if sum(numbers) == 0:
                    self.check(list(numbers), fewest_by_partings(list(numbers)))

    def test_the_partings_against_all_rows(self):
        # The other tests count on this: that parts tell how few rows can do.
        chance = random.Random(31)
        for _ in range(40):
            numbers = drawn_numbers(chance, chance.randint(2, 5), 3)
            many = self.check(numbers, fewest_by_partings(numbers))
            self.assertTrue(reached_by(many, numbers))
            if many:
                self.assertFalse(reached_by(many - 1, numbers), numbers)

    def test_drawn_lists(self):
        chance = random.Random(32)
        for many in (4, 5, 6, 7, 8):
            for most in (1, 2, 4, 9, 10 ** 19):
                for _ in range(4 if many == 8 else 12):
                    numbers = drawn_numbers(chance, many, most)
                    self.check(numbers, fewest_by_partings(numbers))

    def test_lists_of_several_parts(self):
        chance = random.Random(33)
        for sizes in [(2, 2), (3, 3), (2, 3, 3), (4, 4), (2, 2, 2, 2), (3, 5), (3, 3, 2)]:
            for most in (3, 9, 50):
                for _ in range(4):
                    numbers = drawn_parts(chance, sizes, most)
                    self.check(numbers, fewest_by_partings(numbers))

    def test_twelve(self):
        chance = random.Random(34)
        # By great numbers no sum is 0 by chance, so the parts are those that were drawn.
        for sizes in [(12,), (6, 6), (4, 4, 4), (3, 3, 3, 3), (2,) * 6, (2, 3, 7), (5, 4, 3), (2, 10)]:
            numbers = drawn_parts(chance, sizes, 10 ** 19)
            self.check(numbers, 12 - len(sizes))
        self.check([1] * 6 + [-1] * 6, 6)
        self.check([2] * 4 + [-1] * 8, 8)
        self.check([11] + [-1] * 11, 11)
        self.check([3, 3, 3, 3, 3, -5, -5, -5, 0, 0, 0, 0], 7)

    def test_the_order_changes_no_number_of_rows(self):
        chance = random.Random(35)
        for _ in range(20):
            numbers = drawn_parts(chance, (4, 3, 3), 6)
            many = self.check(numbers, None)
            self.check(shuffled(chance, numbers), many)
            self.check([-number for number in numbers], many)

    def test_great_ones_in_a_short_time(self):
        chance = random.Random(36)
        start = time.monotonic()
        for _ in range(20):
            self.check(drawn_numbers(chance, 12, 10 ** 18), None)
            self.check(drawn_numbers(chance, 12, 2), None)
        self.assertLess(time.monotonic() - start, 10)

    def test_unlike(self):
        for numbers in [
            [1, 0], [0, 1], [0, -1], [1, 1], [5, -4], [-5, 4], [1] * 12, [-1] * 12, [10 ** 19, 1 - 10 ** 19],
            [10 ** 19, -10 ** 19, 1], [0] * 11 + [1], [3, -2, 0, 0, -2], [2, -1, -1, 1],
        ]:
            before = list(numbers)
            refused(self, Unlike, fewest_deliveries, numbers)
            self.assertEqual(numbers, before)

    def test_lists_told_are_new_each_time(self):
        numbers = [3, 2, -5]
        one, other = fewest_deliveries(numbers), fewest_deliveries(numbers)
        one[1].clear()
        self.assertEqual(other, (2, [(0, 2, 3), (1, 2, 2)]))
        self.assertEqual(fewest_deliveries(numbers), other)


if __name__ == "__main__":
    unittest.main()
