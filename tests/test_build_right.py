"""A right build: each of 1 to 3, what is just right beside them, and -9."""

import unittest

from tests.helper import build, can_of, over_of, part, put

BAR = part("bar", "#####/#####/#####", "#####/#####/#####")
BENT = part("bent", "#./##")
BOTH = part("both", "b")
BRICK = part("brick", "tt", "ss")
CUBE = part("cube", "#")
GATE = part("gate", "#.#", "###")
PLATE = part("plate", "s#")
ROOF = part("roof", "t#")
STUD = part("stud", "s")
TOWER = part("tower", *["#"] * 18)
TUBE = part("tube", "t")
PARTS = BAR + BENT + BOTH + BRICK + CUBE + GATE + PLATE + ROOF + STUD + TOWER + TUBE


class RightBuild(unittest.TestCase):
    def right(self, *puts):
        self.assertIn(can_of(PARTS, build(*puts))[0], (0, 1), puts)
        self.assertEqual(over_of(0, 0, PARTS, build(*puts)), [0], puts)

    def wrong(self, *puts):
        self.assertEqual(can_of(PARTS, build(*puts)), [-9], puts)
        self.assertEqual(over_of(0, 0, PARTS, build(*puts)), [-9], puts)

    def both_right(self, first, second):
        self.right(first, second)
        self.right(second, first)

    def both_wrong(self, first, second):
        self.wrong(first, second)
        self.wrong(second, first)

    def test_1_edges_of_the_room(self):
        self.right(put("cube", 63, 63, 95))
        self.right(put("cube", 0, 0, 0))
        # 5 wide, 3 deep, 2 high.
        for r in (0, 2):
            self.right(put("bar", 59, 61, 94, r))
            self.wrong(put("bar", 60, 61, 94, r))
            self.wrong(put("bar", 59, 62, 94, r))
            self.wrong(put("bar", 59, 61, 95, r))
        for r in (1, 3):
            self.right(put("bar", 61, 59, 94, r))
            self.wrong(put("bar", 62, 59, 94, r))
            self.wrong(put("bar", 61, 60, 94, r))
            self.wrong(put("bar", 61, 59, 95, r))

    def test_1_far_beyond(self):
        self.wrong(put("bar", 63, 0, 0))
        self.wrong(put("bar", 0, 63, 0))
        self.wrong(put("tower", 0, 0, 95))
        self.wrong(put("tower", 0, 0, 79))
        self.right(put("tower", 0, 0, 78))

    def test_1_turned_into_the_room(self):
        self.right(put("bar", 61, 59, 0, 1))
        self.wrong(put("bar", 61, 59, 0, 0))

    def test_1_in_a_later_line(self):
        self.wrong(put("cube", 0, 0, 0), put("bar", 60, 0, 0))
        self.wrong(put("bar", 60, 0, 0), put("cube", 0, 0, 0))

    def test_2_same_place(self):
        self.wrong(put("cube", 1, 2, 3), put("cube", 1, 2, 3))
        self.right(put("cube", 1, 2, 3), put("cube", 2, 2, 3))
        self.right(put("cube", 1, 2, 3), put("cube", 1, 3, 3))
        self.right(put("cube", 1, 2, 3), put("cube", 1, 2, 4))

    def test_2_one_common_cell(self):
        bar = put("bar", 10, 20, 30)
        for x, y, z in ((10, 20, 30), (14, 20, 30), (10, 22, 30), (10, 20, 31), (14, 22, 31), (12, 21, 30)):
            self.both_wrong(bar, put("cube", x, y, z))
        for x, y, z in ((9, 20, 30), (15, 20, 30), (10, 19, 30), (10, 23, 30), (10, 20, 29), (10, 20, 32)):
            self.both_right(bar, put("cube", x, y, z))

    def test_2_empty_places_are_free(self):
        self.both_right(put("gate", 0, 0, 0), put("cube", 1, 0, 0))
        self.both_wrong(put("gate", 0, 0, 0), put("cube", 0, 0, 0))
        self.both_wrong(put("gate", 0, 0, 0), put("cube", 1, 0, 1))
        self.both_right(put("bent", 0, 0, 0), put("cube", 1, 0, 0))

    def test_2_turned(self):
        # Where the bent part has no cell, turned 0 to 3 times.
        free = {0: (1, 0), 1: (0, 0), 2: (0, 1), 3: (1, 1)}
        for r, (free_x, free_y) in free.items():
            for x in (0, 1):
                for y in (0, 1):
                    check = self.both_right if (x, y) == (free_x, free_y) else self.both_wrong
                    check(put("bent", 0, 0, 0, r), put("cube", x, y, 0))

    def test_2_with_lines_between(self):
        self.wrong(put("cube", 0, 0, 0), put("cube", 1, 0, 0), put("cube", 2, 0, 0), put("cube", 0, 0, 0))

    def test_3_stud_below_a_cell_without_tube(self):
        self.both_wrong(put("stud", 0, 0, 0), put("cube", 0, 0, 1))
        self.both_wrong(put("stud", 0, 0, 0), put("stud", 0, 0, 1))
        self.both_wrong(put("both", 0, 0, 0), put("cube", 0, 0, 1))
        self.both_wrong(put("both", 0, 0, 0), put("stud", 0, 0, 1))

    def test_3_stud_below_a_tube(self):
        self.both_right(put("stud", 0, 0, 0), put("tube", 0, 0, 1))
        self.both_right(put("stud", 0, 0, 0), put("both", 0, 0, 1))
        self.both_right(put("both", 0, 0, 0), put("tube", 0, 0, 1))
        self.both_right(put("both", 0, 0, 0), put("both", 0, 0, 1))

    def test_3_no_stud_below(self):
        self.both_right(put("cube", 0, 0, 0), put("cube", 0, 0, 1))
        self.both_right(put("cube", 0, 0, 0), put("tube", 0, 0, 1))
        self.both_right(put("tube", 0, 0, 0), put("cube", 0, 0, 1))
        self.both_right(put("tube", 0, 0, 0), put("tube", 0, 0, 1))

    def test_3_nothing_above_the_stud(self):
        self.right(put("stud", 0, 0, 0))
        self.right(put("stud", 0, 0, 95))
        self.right(put("stud", 63, 63, 95))

    def test_3_only_just_above(self):
        self.both_right(put("stud", 0, 0, 0), put("cube", 0, 0, 2))
        self.both_right(put("stud", 0, 0, 1), put("cube", 0, 0, 0))
        self.both_right(put("stud", 0, 0, 0), put("cube", 1, 0, 1))
        self.both_right(put("stud", 0, 0, 0), put("cube", 0, 1, 1))

    def test_3_not_from_one_column_into_the_next(self):
        self.both_right(put("stud", 0, 0, 95), put("cube", 0, 1, 0))
        self.both_right(put("stud", 0, 63, 95), put("cube", 1, 0, 0))

    def test_3_one_bad_stud_among_good_ones(self):
        self.both_right(put("brick", 0, 0, 0), put("brick", 0, 0, 2))
        self.both_right(put("brick", 0, 0, 0), put("brick", 1, 0, 2))
        self.both_right(put("brick", 0, 0, 0), put("roof", 1, 0, 2))
        self.both_wrong(put("brick", 0, 0, 0), put("roof", 0, 0, 2))

    def test_3_studs_and_tubes_turn_with_the_part(self):
        # The plate's stud, turned: at (0, 0), (0, 1), (1, 0), (0, 0).
        studs = {0: (0, 0), 1: (0, 1), 2: (1, 0), 3: (0, 0)}
        for r, (stud_x, stud_y) in studs.items():
            for x, y in ((0, 0), (1, 0)) if r in (0, 2) else ((0, 0), (0, 1)):
                check = self.both_wrong if (x, y) == (stud_x, stud_y) else self.both_right
                check(put("plate", 0, 0, 0, r), put("cube", x, y, 1))
                self.both_right(put("plate", 0, 0, 0, r), put("tube", x, y, 1))
                # The roof's tube lies where the plate's stud does.
                check = self.both_right if (x, y) == (stud_x, stud_y) else self.both_wrong
                check(put("roof", 0, 0, 1, r), put("stud", x, y, 0))

    def test_3_under_an_overhang(self):
        self.both_right(put("gate", 0, 0, 0), put("cube", 1, 0, 0))
        self.both_wrong(put("gate", 0, 0, 0), put("stud", 1, 0, 0))

    def test_no_lines(self):
        self.assertEqual(can_of(PARTS, build()), [0])


if __name__ == "__main__":
    unittest.main()
