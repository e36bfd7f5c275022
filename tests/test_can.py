"""can: rings, lines without a hold, the least such line, and which of the two comes first."""

import itertools
import unittest

from tests.helper import PARTS, build, can_of, over_of, part, put

# Each of the three is over the next one, the last over the first, and no two are over one another.
RING_OF_THREE = (put("step", 0, 0, 0), put("wind", 1, 0, 0), put("wine", 0, 0, 0))


class Buildable(unittest.TestCase):
    def test_one_line(self):
        self.assertEqual(can_of(PARTS, build(put("cube", 0, 0, 0))), [0])

    def test_no_lines(self):
        self.assertEqual(can_of(PARTS, build()), [0])

    def test_stack_told_from_the_top_down(self):
        written = build(put("cube", 0, 0, 2), put("cube", 0, 0, 1), put("cube", 0, 0, 0))
        self.assertEqual(can_of(PARTS, written), [0])

    def test_bridge(self):
        written = build(put("long", 0, 0, 1), put("cube", 0, 0, 0), put("cube", 2, 0, 0))
        self.assertEqual(can_of(PARTS, written), [0])

    def test_overhang_holds_by_one_cell(self):
        self.assertEqual(can_of(PARTS, build(put("cube", 9, 9, 0), put("long", 7, 9, 1))), [0])

    def test_full_room(self):
        block = part("block", *["/".join(["#" * 16] * 16)] * 6)
        puts = [put("block", x, y, z) for z in range(0, 96, 6) for y in range(0, 64, 16) for x in range(0, 64, 16)]
        self.assertEqual(len(puts), 256)
        self.assertEqual(can_of(block, build(*puts)), [0])

    def test_tall_tower(self):
        puts = [put("cube", 1, 1, z) for z in range(96)]
        self.assertEqual(can_of(PARTS, build(*puts)), [0])


class Rings(unittest.TestCase):
    def test_ring_of_two(self):
        self.assertEqual(can_of(PARTS, build(put("clamp", 0, 0, 0), put("cube", 1, 0, 1))), [1, 1, 0])
        self.assertEqual(can_of(PARTS, build(put("cube", 1, 0, 1), put("clamp", 0, 0, 0))), [1, 1, 0])

    def test_ring_of_two_by_two_columns(self):
        # Each lies under the other's higher end, at another x.
        written = build(put("step", 0, 0, 0), put("wide", 0, 0, 0))
        self.assertEqual(over_of(0, 1, PARTS, written), [1])
        self.assertEqual(over_of(1, 0, PARTS, written), [1])
        self.assertEqual(can_of(PARTS, written), [1, 1, 0])

    def test_ring_of_three(self):
        written = build(*RING_OF_THREE)
        pairs = [(i, j) for i in range(3) for j in range(3) if over_of(i, j, PARTS, written) == [1]]
        self.assertEqual(pairs, [(0, 1), (1, 2), (2, 0)])
        for order in itertools.permutations(RING_OF_THREE):
            self.assertEqual(can_of(PARTS, build(*order)), [1, 1, 0])

    def test_ring_told_last(self):
        beside = [put("cube", x, 9, 0) for x in range(5)]
        self.assertEqual(can_of(PARTS, build(*beside, *RING_OF_THREE)), [1, 1, 5])

    def test_line_on_the_ring_is_not_in_it(self):
        on_top = put("cube", 1, 0, 2)
        self.assertEqual(can_of(PARTS, build(on_top, *RING_OF_THREE)), [1, 1, 1])
        self.assertEqual(can_of(PARTS, build(on_top, put("cube", 1, 0, 3), *RING_OF_THREE)), [1, 1, 2])
        self.assertEqual(can_of(PARTS, build(*RING_OF_THREE, on_top)), [1, 1, 0])

    def test_line_under_the_ring_is_not_in_it(self):
        lifted = (put("clamp", 0, 0, 1), put("cube", 1, 0, 2))
        self.assertEqual(can_of(PARTS, build(put("cube", 0, 0, 0), *lifted)), [1, 1, 1])
        self.assertEqual(can_of(PARTS, build(put("cube", 0, 0, 0), put("cube", 1, 0, 0), *lifted)), [1, 1, 2])

    def test_line_between_two_rings_is_not_in_one(self):
        lower = (put("clamp", 0, 0, 0), put("cube", 1, 0, 1))
        upper = (put("clamp", 0, 0, 4), put("cube", 1, 0, 5))
        between = put("cube", 0, 0, 3)
        self.assertEqual(can_of(PARTS, build(between, *upper, *lower)), [1, 1, 1])
        self.assertEqual(can_of(PARTS, build(between, *lower, *upper)), [1, 1, 1])

    def test_ring_comes_before_hold(self):
        hovering = put("cube", 9, 9, 9)
        self.assertEqual(can_of(PARTS, build(hovering, *RING_OF_THREE)), [1, 1, 1])
        self.assertEqual(can_of(PARTS, build(*RING_OF_THREE, hovering)), [1, 1, 0])
        self.assertEqual(can_of(PARTS, build(put("clamp", 0, 0, 7), put("cube", 1, 0, 8))), [1, 1, 0])

    def test_ring_among_256_lines(self):
        beside = [put("cube", number % 64, 10 + number // 64, 0) for number in range(254)]
        self.assertEqual(can_of(PARTS, build(*beside, put("clamp", 0, 0, 0), put("cube", 1, 0, 1))), [1, 1, 254])


class Holds(unittest.TestCase):
    def test_hovering(self):
        self.assertEqual(can_of(PARTS, build(put("cube", 0, 0, 1))), [1, 2, 0])
        self.assertEqual(can_of(PARTS, build(put("cube", 0, 0, 95))), [1, 2, 0])

    def test_gap_below(self):
        self.assertEqual(can_of(PARTS, build(put("cube", 0, 0, 0), put("cube", 0, 0, 2))), [1, 2, 1])

    def test_beside_is_no_hold(self):
        written = build(put("cube", 0, 0, 0), put("cube", 0, 0, 1), put("cube", 1, 0, 1))
        self.assertEqual(can_of(PARTS, written), [1, 2, 2])

    def test_hanging_below_is_no_hold(self):
        studded = build(put("long", 0, 0, 2), put("cube", 0, 0, 0), put("cube", 0, 0, 1), put("cube", 2, 0, 1))
        self.assertEqual(can_of(PARTS, studded), [1, 2, 3])

    def test_hanging_by_a_stud_is_no_hold(self):
        self.assertEqual(can_of(PARTS, build(put("tube", 0, 0, 2), put("stud", 0, 0, 1))), [1, 2, 1])

    def test_own_cell_below_is_no_hold(self):
        self.assertEqual(can_of(PARTS, build(put("clamp", 0, 0, 1))), [1, 2, 0])

    def test_least_line(self):
        written = build(put("cube", 0, 0, 0), put("cube", 2, 0, 3), put("cube", 1, 0, 2))
        self.assertEqual(can_of(PARTS, written), [1, 2, 1])
        written = build(put("cube", 0, 0, 0), put("cube", 1, 0, 2), put("cube", 2, 0, 3))
        self.assertEqual(can_of(PARTS, written), [1, 2, 1])

    def test_on_a_hovering_line(self):
        # The upper one lies on another line, so it has its hold; the other has none.
        self.assertEqual(can_of(PARTS, build(put("cube", 0, 0, 5), put("cube", 0, 0, 4))), [1, 2, 1])
        self.assertEqual(can_of(PARTS, build(put("cube", 0, 0, 4), put("cube", 0, 0, 5))), [1, 2, 0])

    def test_empty_place_above_the_table(self):
        # At z 0 itself the gate stands on its feet; one higher it hovers, though a cube is in its gap.
        self.assertEqual(can_of(PARTS, build(put("gate", 0, 0, 0))), [0])
        self.assertEqual(can_of(PARTS, build(put("cube", 1, 0, 0), put("gate", 0, 0, 0))), [0])
        self.assertEqual(can_of(PARTS, build(put("cube", 1, 0, 0), put("gate", 0, 0, 1))), [1, 2, 1])
        self.assertEqual(can_of(PARTS, build(put("cube", 1, 0, 0), put("cube", 1, 0, 1), put("gate", 0, 0, 1))), [0])


if __name__ == "__main__":
    unittest.main()
