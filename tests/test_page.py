"""page: 0 of a line that is over none, else 1 more than the greatest page of those that it is over."""

import random
import unittest

from tests.helper import PARTS, build, page_of, part, put, snake_puts


class Pages(unittest.TestCase):
    def paged(self, puts, expected, catalogue=PARTS):
        written = build(*puts)
        answers = [page_of(line, catalogue, written) for line in range(len(puts))]
        self.assertEqual(answers, [[page] for page in expected])

    def test_over_none(self):
        self.paged([put("cube", 0, 0, 0)], [0])
        self.paged([put("cube", 0, 0, 0), put("cube", 1, 0, 0), put("long", 5, 5, 0)], [0, 0, 0])

    def test_stands_on_the_table_but_is_over_another(self):
        # At z 0 itself, and yet not on page 0: the step's higher end is over the cube.
        self.paged([put("step", 0, 0, 0), put("cube", 2, 0, 0)], [1, 0])
        self.paged([put("gate", 0, 0, 0), put("cube", 1, 0, 0)], [1, 0])

    def test_lines_count_not_how_high_they_are(self):
        # The tower is three high; what lies on it is on page 1, not 3.
        tower = part("cube", "#") + part("tower", "#", "#", "#")
        self.paged([put("tower", 0, 0, 0), put("cube", 0, 0, 3), put("cube", 0, 0, 4)], [0, 1, 2], tower)

    def test_stack(self):
        self.paged([put("cube", 3, 4, z) for z in range(7)], range(7))

    def test_over_several_of_unlike_pages(self):
        # The long one lies on two stacks, both three high: one of three lines, one of two.
        puts = [put("cube", 0, 0, z) for z in range(3)] + [put("cube", 2, 0, 0), put("gate", 2, 0, 1)]
        puts += [put("long", 0, 0, 3)]
        self.paged(puts, [0, 1, 2, 0, 1, 3])

    def test_greatest_counts_wherever_it_is_told(self):
        low = [put("cube", 0, 0, 0)]
        high = [put("cube", 2, 0, 0), put("cube", 2, 0, 1)]
        bridge = [put("long", 0, 0, 2)]
        self.paged(low + high + bridge, [0, 0, 1, 2])
        self.paged(high + low + bridge, [0, 1, 0, 2])
        self.paged(bridge + high + low, [2, 0, 1, 0])
        self.paged(high[::-1] + bridge + low, [1, 0, 2, 0])

    def test_over_with_a_gap(self):
        # The gate, line 0, lies on the last line alone; far below its other foot are lines 1 to 3.
        puts = [put("gate", 0, 0, 8)] + [put("cube", 2, 0, z) for z in range(3)]
        puts += [put("cube", 0, 0, z) for z in range(8)]
        self.paged(puts, [8, 0, 1, 2] + list(range(8)))
        # The beam lies on the tower alone, but what is far below its other end has the greater page.
        tower = part("beam", "##") + part("cube", "#") + part("tower", *["#"] * 9)
        puts = [put("beam", 0, 0, 9), put("tower", 0, 0, 0)] + [put("cube", 1, 0, z) for z in range(4)]
        self.paged(puts, [4, 0, 0, 1, 2, 3], tower)

    def test_told_from_the_top_down(self):
        self.paged([put("cube", 3, 4, z) for z in range(11, -1, -1)], range(11, -1, -1))

    def test_told_anyhow(self):
        heights = list(range(40))
        random.Random(11).shuffle(heights)
        self.paged([put("cube", 3, 4, z) for z in heights], heights)

    def test_stacks_side_by_side_do_not_count(self):
        puts = [put("cube", 0, 0, z) for z in range(5)] + [put("cube", 1, 0, z) for z in range(2)]
        self.paged(puts, [0, 1, 2, 3, 4, 0, 1])

    def test_turned(self):
        puts = [put("long", 0, 0, 2, 1), put("cube", 0, 2, 0), put("cube", 0, 2, 1), put("cube", 2, 0, 0)]
        self.paged(puts, [2, 0, 1, 0])


class LongChains(unittest.TestCase):
    def test_as_long_as_the_room_is_high(self):
        written = build(*[put("cube", 63, 63, z) for z in range(95, -1, -1)])
        for line in (0, 1, 50, 94, 95):
            self.assertEqual(page_of(line, PARTS, written), [95 - line])

    def test_longer_than_the_room_is_high(self):
        written = build(*snake_puts())
        for line in (0, 1, 127, 128, 254, 255):
            self.assertEqual(page_of(line, PARTS, written), [255 - line])
        written = build(*reversed(snake_puts()))
        for line in (0, 1, 127, 128, 254, 255):
            self.assertEqual(page_of(line, PARTS, written), [line])

    def test_256_lines_side_by_side(self):
        written = build(*[put("cube", number % 64, number // 64, 0) for number in range(256)])
        for line in (0, 1, 255):
            self.assertEqual(page_of(line, PARTS, written), [0])
        self.assertEqual(page_of(256, PARTS, written), [-4])

    def test_full_room(self):
        block = part("block", *["/".join(["#" * 16] * 16)] * 6)
        puts = [put("block", x, y, z) for z in range(0, 96, 6) for y in range(0, 64, 16) for x in range(0, 64, 16)]
        self.assertEqual(page_of(255, block, build(*puts)), [15])


if __name__ == "__main__":
    unittest.main()
