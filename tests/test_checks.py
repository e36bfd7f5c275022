"""checks: whether a row is an order, the first place that is wrong, and rows that are too long."""

import itertools
import unittest

from tests.helper import MOST, PARTS, build, checks_of, order_of, put, snake_puts

# Line 2 lies on lines 0 and 1, line 3 on line 2; line 4 stands by itself.
HOUSE = build(put("cube", 0, 0, 0), put("cube", 2, 0, 0), put("long", 0, 0, 1), put("cube", 1, 0, 2),
              put("cube", 9, 9, 0))
WALL = build(*[put("cube", number % 64, number // 64, 0) for number in range(256)])


class Rows(unittest.TestCase):
    def right(self, row, written=HOUSE):
        self.assertEqual(checks_of(row, PARTS, written), [0], row)

    def wrong(self, row, place, written=HOUSE):
        self.assertEqual(checks_of(row, PARTS, written), [1, place], row)

    def test_first_order(self):
        self.assertEqual(order_of(PARTS, HOUSE), [0, 1, 2, 3, 4])
        self.right([0, 1, 2, 3, 4])

    def test_other_orders(self):
        for row in ([4, 0, 1, 2, 3], [0, 4, 1, 2, 3], [0, 1, 4, 2, 3], [0, 1, 2, 4, 3], [4, 1, 0, 2, 3]):
            self.right(row)

    def test_two_lines_exchanged_that_may_be(self):
        self.right([1, 0, 2, 3, 4])
        self.right([0, 1, 2, 4, 3])

    def test_two_lines_exchanged_that_may_not_be(self):
        self.wrong([0, 2, 1, 3, 4], 1)
        self.wrong([0, 1, 3, 2, 4], 2)
        self.wrong([2, 1, 0, 3, 4], 0)
        self.wrong([4, 1, 2, 3, 0], 2)

    def test_all_rows_of_the_lines(self):
        orders = [row for row in itertools.permutations(range(5)) if checks_of(list(row), PARTS, HOUSE) == [0]]
        # 0 and 1 either way, then 2, then 3; line 4 at any of five places.
        self.assertEqual(len(orders), 10)

    def test_over_with_a_gap_and_by_one_of_several(self):
        gap = build(put("long", 0, 0, 2), put("cube", 0, 0, 1), put("cube", 2, 0, 0), put("cube", 0, 0, 0))
        self.right([2, 3, 1, 0], gap)
        self.right([3, 1, 2, 0], gap)
        self.wrong([3, 1, 0, 2], 2, gap)
        self.wrong([2, 3, 0, 1], 2, gap)

    def test_chain(self):
        written = build(*snake_puts()[:4])
        self.right([3, 2, 1, 0], written)
        self.wrong([3, 2, 0, 1], 2, written)
        self.wrong([3, 1, 2, 0], 1, written)
        self.wrong([0, 3, 2, 1], 0, written)

    def test_no_such_line(self):
        for line in (5, 6, 64, 255, 256, 257, 2 ** 31, 2 ** 63, 2 ** 64 - 2, MOST):
            self.wrong([line], 0)
            self.wrong([line, 0, 1, 2, 3], 0)
            self.wrong([0, 1, line, 3, 4], 2)
            self.wrong([0, 1, 2, 3, line], 4)
            self.wrong([0, 1, 2, 3, 4, line], 5)

    def test_line_twice(self):
        self.wrong([0, 0], 1)
        self.wrong([0, 0, 1, 2, 3, 4], 1)
        self.wrong([0, 1, 2, 3, 3], 4)
        self.wrong([0, 1, 2, 3, 0], 4)
        self.wrong([4, 0, 1, 2, 4], 4)

    def test_too_short(self):
        self.wrong([], 0)
        self.wrong([0], 1)
        self.wrong([4], 1)
        self.wrong([4, 1], 2)
        self.wrong([0, 1, 2], 3)
        self.wrong([0, 1, 2, 3], 4)
        self.wrong([0, 1, 2, 4], 4)

    def test_too_long(self):
        for line in (0, 4, 5, MOST):
            self.wrong([0, 1, 2, 3, 4, line], 5)
            self.wrong([1, 0, 4, 2, 3, line, line, line], 5)

    def test_first_of_several_wrong_places(self):
        self.wrong([0, 2, 2, 9, 9], 1)
        self.wrong([0, 9, 2, 0], 1)
        self.wrong([0, 0, 9], 1)
        self.wrong([3, 2, 1, 0], 0)
        self.wrong([0, 2, 3, 1, 4], 1)
        self.wrong([0, 1, MOST, 3, 3], 2)

    def test_wrong_place_ahead_of_missing_lines(self):
        self.wrong([2], 0)
        self.wrong([0, 2], 1)
        self.wrong([0, 1, 1], 2)
        self.wrong([0, 5], 1)

    def test_one_line(self):
        written = build(put("cube", 0, 0, 0))
        self.right([0], written)
        self.wrong([], 0, written)
        self.wrong([1], 0, written)
        self.wrong([MOST], 0, written)
        self.wrong([0, 0], 1, written)

    def test_no_lines(self):
        self.right([], build())
        self.wrong([0], 0, build())
        self.wrong([MOST], 0, build())
        self.wrong([0] * 256, 0, build())


class ManyLines(unittest.TestCase):
    def test_256_lines(self):
        self.assertEqual(checks_of(list(range(256)), PARTS, WALL), [0])
        self.assertEqual(checks_of(list(range(255, -1, -1)), PARTS, WALL), [0])
        self.assertEqual(checks_of(list(range(255)), PARTS, WALL), [1, 255])
        self.assertEqual(checks_of(list(range(1, 257)), PARTS, WALL), [1, 255])
        self.assertEqual(checks_of(list(range(255)) + [0], PARTS, WALL), [1, 255])

    def test_chain_of_256_lines(self):
        written = build(*snake_puts())
        falling = list(range(255, -1, -1))
        self.assertEqual(checks_of(falling, PARTS, written), [0])
        self.assertEqual(checks_of(list(range(256)), PARTS, written), [1, 0])
        for place in (0, 1, 100, 254):
            row = list(falling)
            row[place], row[place + 1] = row[place + 1], row[place]
            self.assertEqual(checks_of(row, PARTS, written), [1, place])


class LongRows(unittest.TestCase):
    def test_256_numbers_are_looked_at(self):
        self.assertEqual(checks_of([0] * 256, PARTS, HOUSE), [1, 1])
        self.assertEqual(checks_of([MOST] * 256, PARTS, HOUSE), [1, 0])
        self.assertEqual(checks_of([0, 1, 2, 3, 4] + [0] * 251, PARTS, HOUSE), [1, 5])

    def test_more_than_256_numbers(self):
        for length in (257, 258, 299, 300):
            for written in (HOUSE, WALL, build()):
                self.assertEqual(checks_of([0] * length, PARTS, written), [-1])
                self.assertEqual(checks_of(list(range(length)), PARTS, written), [-1])
                self.assertEqual(checks_of([MOST] * length, PARTS, written), [-1])


class CannotBeBuilt(unittest.TestCase):
    def refused(self, *puts):
        written = build(*puts)
        count = len(puts)
        # Whatever the row: wrong ones are refused like all the others.
        for row in ([], [0], [count], [MOST], list(range(count)), list(range(count - 1, -1, -1)), [0] * 256):
            self.assertEqual(checks_of(row, PARTS, written), [-3], row)

    def test_ring(self):
        self.refused(put("clamp", 0, 0, 0), put("cube", 1, 0, 1))
        self.refused(put("step", 0, 0, 0), put("wind", 1, 0, 0), put("wine", 0, 0, 0))
        self.refused(put("cube", 9, 9, 0), put("cube", 1, 0, 1), put("clamp", 0, 0, 0))

    def test_line_without_a_hold(self):
        self.refused(put("cube", 0, 0, 1))
        self.refused(put("cube", 0, 0, 0), put("cube", 0, 0, 2))
        self.refused(put("cube", 0, 0, 5), put("cube", 0, 0, 0), put("cube", 0, 0, 1))


if __name__ == "__main__":
    unittest.main()
