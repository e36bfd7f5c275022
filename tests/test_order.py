"""order: the first order of a build's lines, and -3 where there is none or a line has no hold."""

import random
import unittest

from tests.helper import PARTS, build, checks_of, order_of, part, put, snake_puts


class FirstOrder(unittest.TestCase):
    def ordered(self, puts, expected):
        written = build(*puts)
        self.assertEqual(order_of(PARTS, written), expected)
        self.assertEqual(checks_of(expected, PARTS, written), [0])

    def test_no_lines(self):
        self.ordered([], [])

    def test_one_line(self):
        self.ordered([put("cube", 0, 0, 0)], [0])

    def test_none_over_another(self):
        self.ordered([put("cube", x, 0, 0) for x in (5, 3, 9, 0, 7)], [0, 1, 2, 3, 4])
        self.ordered([put("cube", 63, y, 0) for y in (9, 2, 4)], [0, 1, 2])

    def test_from_the_bottom_up(self):
        self.ordered([put("cube", 0, 0, z) for z in range(12)], list(range(12)))

    def test_from_the_top_down(self):
        self.ordered([put("cube", 0, 0, z) for z in range(11, -1, -1)], list(range(11, -1, -1)))
        self.ordered([put("cube", 0, 0, z) for z in range(95, -1, -1)], list(range(95, -1, -1)))

    def test_two_stacks_from_the_top_down(self):
        # Told by turns: the first stack's lines are 0, 2, 4, the other's 1, 3, 5.
        puts = [put("cube", x, 0, z) for z in (2, 1, 0) for x in (0, 1)]
        self.ordered(puts, [4, 2, 0, 5, 3, 1])

    def test_least_line_at_once_when_it_is_free(self):
        # Line 0 lies on line 3: it comes just behind it, not behind line 4, which was free before.
        puts = [put("cube", 3, 0, 1)] + [put("cube", x, 0, 0) for x in (1, 2, 3, 4)]
        self.ordered(puts, [1, 2, 3, 0, 4])

    def test_least_line_is_free_only_late(self):
        # The long one lies on three cubes, the last of which is the last line but one.
        puts = [put("long", 0, 0, 1), put("cube", 0, 0, 0), put("cube", 9, 0, 0), put("cube", 1, 0, 0),
                put("cube", 8, 0, 0), put("cube", 2, 0, 0), put("cube", 7, 0, 0)]
        self.ordered(puts, [1, 2, 3, 4, 5, 0, 6])

    def test_freed_line_frees_another(self):
        puts = [put("cube", 0, 0, 2), put("cube", 5, 0, 1), put("cube", 0, 0, 1), put("cube", 0, 0, 0),
                put("cube", 5, 0, 0)]
        self.ordered(puts, [3, 2, 0, 4, 1])

    def test_not_page_by_page(self):
        # Lines 1 and 2 come ahead of line 3, though that one is over none.
        puts = [put("cube", 0, 0, 0), put("cube", 0, 0, 1), put("cube", 0, 0, 2), put("cube", 1, 0, 0)]
        self.ordered(puts, [0, 1, 2, 3])

    def test_over_with_a_gap_counts(self):
        # The bridge's far end is over line 2, though it doesn't lie on it.
        puts = [put("long", 0, 0, 2), put("cube", 0, 0, 1), put("cube", 2, 0, 0), put("cube", 0, 0, 0)]
        self.ordered(puts, [2, 3, 1, 0])

    def test_under_an_overhang_comes_first(self):
        self.ordered([put("gate", 0, 0, 0), put("cube", 1, 0, 0)], [1, 0])
        self.ordered([put("step", 0, 0, 0), put("cube", 2, 0, 0)], [1, 0])

    def test_turned(self):
        self.ordered([put("long", 0, 0, 1, 1), put("cube", 0, 0, 0), put("cube", 2, 0, 0), put("cube", 0, 2, 0)],
                     [1, 2, 3, 0])


class ManyLines(unittest.TestCase):
    def test_256_lines_side_by_side(self):
        written = build(*[put("cube", number % 64, number // 64, 0) for number in range(256)])
        self.assertEqual(order_of(PARTS, written), list(range(256)))

    def test_256_lines_in_four_stacks_from_the_top_down(self):
        written = build(*[put("cube", number // 64, 0, 63 - number % 64) for number in range(256)])
        expected = [stack * 64 + 63 - number for stack in range(4) for number in range(64)]
        self.assertEqual(order_of(PARTS, written), expected)
        self.assertEqual(checks_of(expected, PARTS, written), [0])

    def test_256_lines_in_one_chain(self):
        written = build(*snake_puts())
        self.assertEqual(order_of(PARTS, written), list(range(255, -1, -1)))
        written = build(*reversed(snake_puts()))
        self.assertEqual(order_of(PARTS, written), list(range(256)))

    def test_256_lines_of_a_chain_told_anyhow(self):
        numbers = list(range(256))
        random.Random(8).shuffle(numbers)
        puts = snake_puts()
        written = build(*[puts[number] for number in numbers])
        # Each is over the one behind it in the snake, so the one order is the snake from its end.
        expected = [numbers.index(number) for number in range(255, -1, -1)]
        self.assertEqual(order_of(PARTS, written), expected)

    def test_full_room_from_the_top_down(self):
        block = part("block", *["/".join(["#" * 16] * 16)] * 6)
        puts = [put("block", x, y, z) for z in range(90, -1, -6) for y in range(0, 64, 16) for x in range(0, 64, 16)]
        expected = [stack + 16 * layer for stack in range(16) for layer in range(15, -1, -1)]
        self.assertEqual(order_of(block, build(*puts)), expected)


class CannotBeBuilt(unittest.TestCase):
    def refused(self, *puts):
        self.assertEqual(order_of(PARTS, build(*puts)), [-3])

    def test_ring_of_two(self):
        self.refused(put("clamp", 0, 0, 0), put("cube", 1, 0, 1))
        self.refused(put("step", 0, 0, 0), put("wide", 0, 0, 0))

    def test_ring_of_three(self):
        self.refused(put("step", 0, 0, 0), put("wind", 1, 0, 0), put("wine", 0, 0, 0))

    def test_ring_beside_others(self):
        beside = [put("cube", x, 9, 0) for x in range(5)]
        self.refused(*beside, put("clamp", 0, 0, 0), put("cube", 1, 0, 1))
        self.refused(put("clamp", 0, 0, 0), put("cube", 1, 0, 1), *beside)

    def test_line_without_a_hold(self):
        self.refused(put("cube", 0, 0, 1))
        self.refused(put("cube", 0, 0, 0), put("cube", 0, 0, 2))
        self.refused(put("cube", 0, 0, 0), put("cube", 1, 0, 95))
        self.refused(put("cube", 5, 0, 1), put("cube", 0, 0, 0), put("cube", 0, 0, 1))


if __name__ == "__main__":
    unittest.main()
