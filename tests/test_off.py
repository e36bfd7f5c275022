"""off: the lines that must come off before a line."""

import random
import unittest

from tests.helper import PARTS, build, off_of, over_of, part, put, snake_puts


class Off(unittest.TestCase):
    def all_off(self, puts, expected):
        written = build(*puts)
        self.assertEqual([off_of(line, PARTS, written) for line in range(len(puts))], expected)

    def test_nothing_over_it(self):
        self.all_off([put("cube", 0, 0, 0)], [[]])
        self.all_off([put("cube", 0, 0, 0), put("cube", 1, 0, 0), put("long", 5, 5, 0)], [[], [], []])

    def test_one_over_it(self):
        self.all_off([put("cube", 0, 0, 0), put("cube", 0, 0, 1)], [[1], []])
        self.all_off([put("cube", 0, 0, 1), put("cube", 0, 0, 0)], [[], [0]])

    def test_several_over_it(self):
        self.all_off([put("cube", 0, 0, 1), put("long", 0, 0, 0), put("cube", 2, 0, 1)], [[], [0, 2], []])

    def test_stack(self):
        self.all_off([put("cube", 0, 0, z) for z in range(4)], [[1, 2, 3], [2, 3], [3], []])

    def test_over_one_that_is_over_it(self):
        # Line 2 is over line 1, that one over line 0; but line 2 isn't over line 0 itself.
        puts = [put("cube", 0, 0, 0), put("long", 0, 0, 1), put("cube", 2, 0, 2)]
        self.assertEqual(over_of(2, 0, PARTS, build(*puts)), [0])
        self.all_off(puts, [[1, 2], [2], []])

    def test_far_from_it_by_way_of_others(self):
        # A stair: each long one lies on the end of the one before it, three steps beyond the first.
        stair = [put("cube", 0, 0, 0)] + [put("long", 2 * number, 0, number + 1) for number in range(4)]
        self.all_off(stair, [[1, 2, 3, 4], [2, 3, 4], [3, 4], [4], []])

    def test_over_with_a_gap(self):
        puts = [put("long", 0, 0, 2), put("cube", 0, 0, 1), put("cube", 2, 0, 0), put("cube", 0, 0, 0)]
        self.all_off(puts, [[], [0], [0], [0, 1]])

    def test_rising_though_told_from_the_top_down(self):
        self.all_off([put("cube", 0, 0, z) for z in (3, 2, 1, 0)], [[], [0], [0, 1], [0, 1, 2]])

    def test_rising_though_told_anyhow(self):
        # From the bottom up the lines are 2, 4, 0, 3, 1.
        self.all_off([put("cube", 0, 0, z) for z in (2, 4, 0, 3, 1)], [[1, 3], [], [0, 1, 3, 4], [1], [0, 1, 3]])

    def test_each_line_once_though_reached_in_several_ways(self):
        # The two cubes on the long one carry another long one.
        puts = [put("long", 0, 0, 0), put("cube", 0, 0, 1), put("cube", 2, 0, 1), put("long", 0, 0, 2)]
        self.all_off(puts, [[1, 2, 3], [3], [3], []])

    def test_lines_beside_are_left_out(self):
        puts = [put("cube", 0, 0, 0), put("cube", 1, 0, 0), put("cube", 1, 0, 1), put("cube", 0, 1, 0),
                put("cube", 0, 0, 1)]
        self.all_off(puts, [[4], [2], [], [], []])

    def test_lines_under_are_left_out(self):
        # The two cubes carry one long one: it must come off before each, but neither before the other.
        puts = [put("cube", 0, 0, 0), put("cube", 2, 0, 0), put("long", 0, 0, 1)]
        self.all_off(puts, [[2], [2], []])

    def test_what_stands_on_the_table_may_have_to_come_off(self):
        self.all_off([put("gate", 0, 0, 0), put("cube", 1, 0, 0)], [[], [0]])
        self.all_off([put("step", 0, 0, 0), put("cube", 2, 0, 0)], [[], [0]])

    def test_never_the_line_itself(self):
        # The clamp has cells of its own above cells of its own.
        self.all_off([put("clamp", 0, 0, 0), put("clamp", 0, 0, 3)], [[1], []])

    def test_turned(self):
        puts = [put("long", 0, 0, 1, 1), put("cube", 0, 2, 0), put("cube", 2, 0, 0), put("cube", 0, 0, 0)]
        self.all_off(puts, [[], [0], [], [0]])


class ManyLines(unittest.TestCase):
    def test_as_long_as_the_room_is_high(self):
        written = build(*[put("cube", 63, 63, z) for z in range(96)])
        for line in (0, 1, 50, 94, 95):
            self.assertEqual(off_of(line, PARTS, written), list(range(line + 1, 96)))

    def test_longer_than_the_room_is_high(self):
        written = build(*snake_puts())
        for line in (0, 1, 127, 128, 254, 255):
            self.assertEqual(off_of(line, PARTS, written), list(range(line)))
        written = build(*reversed(snake_puts()))
        for line in (0, 1, 127, 128, 254, 255):
            self.assertEqual(off_of(line, PARTS, written), list(range(line + 1, 256)))

    def test_chain_told_anyhow(self):
        numbers = list(range(256))
        random.Random(12).shuffle(numbers)
        puts = snake_puts()
        written = build(*[puts[number] for number in numbers])
        for line in (0, 1, 127, 255):
            # Each is over the one behind it in the snake, so all ahead of it there must come off.
            expected = [other for other in range(256) if numbers[other] < numbers[line]]
            self.assertEqual(off_of(line, PARTS, written), expected)

    def test_255_lines_on_one(self):
        base = part("base", *["/".join(["#" * 16] * 16)]) + part("cube", "#")
        puts = [put("cube", number % 16, number // 16, 1) for number in range(255)]
        self.assertEqual(off_of(255, base, build(*puts, put("base", 0, 0, 0))), list(range(255)))
        self.assertEqual(off_of(0, base, build(put("base", 0, 0, 0), *puts)), list(range(1, 256)))

    def test_full_room(self):
        block = part("block", *["/".join(["#" * 16] * 16)] * 6)
        puts = [put("block", x, y, z) for z in range(0, 96, 6) for y in range(0, 64, 16) for x in range(0, 64, 16)]
        self.assertEqual(off_of(16, block, build(*puts)), list(range(32, 256, 16)))


if __name__ == "__main__":
    unittest.main()
