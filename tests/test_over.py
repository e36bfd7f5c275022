"""over: which line is above which, at the same x and y."""

import unittest

from tests.helper import MOST, PARTS, build, over_of, put


class Over(unittest.TestCase):
    def both_ways(self, first, second):
        written = build(first, second)
        return over_of(0, 1, PARTS, written) + over_of(1, 0, PARTS, written)

    def test_lies_on(self):
        self.assertEqual(self.both_ways(put("cube", 5, 6, 1), put("cube", 5, 6, 0)), [1, 0])
        self.assertEqual(self.both_ways(put("cube", 5, 6, 0), put("cube", 5, 6, 1)), [0, 1])

    def test_gap_between(self):
        self.assertEqual(self.both_ways(put("cube", 5, 6, 2), put("cube", 5, 6, 0)), [1, 0])
        self.assertEqual(self.both_ways(put("cube", 5, 6, 0), put("cube", 5, 6, 95)), [0, 1])

    def test_another_line_between(self):
        written = build(put("cube", 0, 0, 0), put("cube", 0, 0, 1), put("cube", 0, 0, 2))
        self.assertEqual(over_of(2, 0, PARTS, written), [1])
        self.assertEqual(over_of(0, 2, PARTS, written), [0])

    def test_not_by_way_of_another(self):
        # Line 2 is over line 1, that one over line 0; but no cell of line 2 is above one of line 0.
        written = build(put("cube", 0, 0, 0), put("long", 0, 0, 1), put("cube", 2, 0, 2))
        self.assertEqual(over_of(1, 0, PARTS, written), [1])
        self.assertEqual(over_of(2, 1, PARTS, written), [1])
        self.assertEqual(over_of(2, 0, PARTS, written), [0])

    def test_side_by_side(self):
        self.assertEqual(self.both_ways(put("cube", 5, 6, 0), put("cube", 6, 6, 0)), [0, 0])
        self.assertEqual(self.both_ways(put("cube", 5, 6, 0), put("cube", 5, 7, 0)), [0, 0])

    def test_higher_but_beside(self):
        self.assertEqual(self.both_ways(put("cube", 5, 6, 1), put("cube", 6, 6, 0)), [0, 0])
        self.assertEqual(self.both_ways(put("cube", 5, 6, 1), put("cube", 5, 7, 0)), [0, 0])
        self.assertEqual(self.both_ways(put("cube", 5, 6, 1), put("cube", 6, 5, 0)), [0, 0])

    def test_columns_at_the_edges_of_the_room_are_apart(self):
        self.assertEqual(self.both_ways(put("cube", 0, 0, 95), put("cube", 0, 1, 0)), [0, 0])
        self.assertEqual(self.both_ways(put("cube", 0, 63, 95), put("cube", 1, 0, 0)), [0, 0])
        self.assertEqual(self.both_ways(put("cube", 63, 0, 1), put("cube", 0, 1, 0)), [0, 0])

    def test_both_directions_at_once(self):
        self.assertEqual(self.both_ways(put("clamp", 0, 0, 0), put("cube", 1, 0, 1)), [1, 1])

    def test_line_and_itself(self):
        # The clamp has cells of its own above cells of its own.
        written = build(put("clamp", 0, 0, 0), put("clamp", 0, 0, 3))
        self.assertEqual(over_of(0, 0, PARTS, written), [0])
        self.assertEqual(over_of(1, 1, PARTS, written), [0])

    def test_line_and_itself_in_a_ring(self):
        written = build(put("clamp", 0, 0, 0), put("cube", 1, 0, 1))
        self.assertEqual(over_of(0, 0, PARTS, written), [0])
        self.assertEqual(over_of(1, 1, PARTS, written), [0])

    def test_place_without_cell(self):
        # The gate's middle place at the bottom is empty, its top is not.
        self.assertEqual(self.both_ways(put("gate", 0, 0, 0), put("cube", 1, 0, 0)), [1, 0])
        # The step has no cell at all in a column of its lowest or its highest layer's end.
        self.assertEqual(self.both_ways(put("step", 0, 0, 0), put("cube", 2, 0, 0)), [1, 0])
        self.assertEqual(self.both_ways(put("step", 0, 0, 0), put("cube", 0, 0, 1)), [0, 1])
        # The bent part's place at x 1, y 0 is empty from the bottom to the top.
        self.assertEqual(self.both_ways(put("bent", 0, 0, 1), put("cube", 1, 0, 0)), [0, 0])
        self.assertEqual(self.both_ways(put("bent", 0, 0, 1), put("cube", 1, 1, 0)), [1, 0])

    def columns_under(self, name, r):
        """The (x, y) from 0 to 2 above which the part, turned, has a cell."""
        return [
            (x, y) for y in range(3) for x in range(3)
            if over_of(0, 1, PARTS, build(put(name, 0, 0, 1, r), put("cube", x, y, 0))) == [1]
        ]

    def test_turned_long(self):
        self.assertEqual(self.columns_under("long", 0), [(0, 0), (1, 0), (2, 0)])
        self.assertEqual(self.columns_under("long", 1), [(0, 0), (0, 1), (0, 2)])
        self.assertEqual(self.columns_under("long", 2), [(0, 0), (1, 0), (2, 0)])
        self.assertEqual(self.columns_under("long", 3), [(0, 0), (0, 1), (0, 2)])

    def test_turned_bent(self):
        self.assertEqual(self.columns_under("bent", 0), [(0, 0), (0, 1), (1, 1)])
        self.assertEqual(self.columns_under("bent", 1), [(1, 0), (0, 1), (1, 1)])
        self.assertEqual(self.columns_under("bent", 2), [(0, 0), (1, 0), (1, 1)])
        self.assertEqual(self.columns_under("bent", 3), [(0, 0), (1, 0), (0, 1)])

    def test_turned_step(self):
        # Beside the lower end the cube is put at z 1, above it; beside the higher one at z 0, below it.
        ends = {0: ((0, 0), (2, 0)), 1: ((0, 2), (0, 0)), 2: ((2, 0), (0, 0)), 3: ((0, 0), (0, 2))}
        for r, (low, high) in ends.items():
            step = put("step", 0, 0, 0, r)
            self.assertEqual(self.both_ways(step, put("cube", low[0], low[1], 1)), [0, 1])
            self.assertEqual(self.both_ways(step, put("cube", high[0], high[1], 0)), [1, 0])

    def test_answers_for_what_cannot_be_built(self):
        hovering = build(put("cube", 0, 0, 5), put("cube", 0, 0, 9))
        self.assertEqual(over_of(1, 0, PARTS, hovering), [1])

    def test_no_such_line(self):
        written = build(put("cube", 0, 0, 0), put("cube", 0, 0, 1))
        for line in (2, 3, 64, 255, 256, 2 ** 63, MOST):
            self.assertEqual(over_of(line, 0, PARTS, written), [-4])
            self.assertEqual(over_of(0, line, PARTS, written), [-4])
            self.assertEqual(over_of(line, line, PARTS, written), [-4])
        self.assertEqual(over_of(MOST, MOST - 1, PARTS, written), [-4])

    def test_no_line_at_all(self):
        self.assertEqual(over_of(0, 0, PARTS, build()), [-4])
        self.assertEqual(over_of(0, MOST, PARTS, build()), [-4])

    def test_last_of_256_lines(self):
        # Four rows of 64 cubes; the last stands on the first.
        puts = [put("cube", number % 64, number // 64, 0) for number in range(255)] + [put("cube", 0, 0, 1)]
        written = build(*puts)
        self.assertEqual(over_of(255, 0, PARTS, written), [1])
        self.assertEqual(over_of(0, 255, PARTS, written), [0])
        self.assertEqual(over_of(255, 254, PARTS, written), [0])
        self.assertEqual(over_of(256, 0, PARTS, written), [-4])


if __name__ == "__main__":
    unittest.main()
