"""A right catalogue: each of 1 to 5, and -8."""

import unittest

from tests.helper import build, can_of, over_of, part


class RightCatalogue(unittest.TestCase):
    def right(self, catalogue):
        self.assertEqual(can_of(catalogue, build()), [0], catalogue)

    def wrong(self, catalogue):
        self.assertEqual(can_of(catalogue, build()), [-8], catalogue)
        self.assertEqual(over_of(0, 0, catalogue, build()), [-8], catalogue)

    def test_1_stud_below_own_cell(self):
        for lower in "sb":
            for upper in "#stb":
                self.wrong(part("a", lower, upper))
        self.right(part("a", "#", "s"))
        self.right(part("a", "t", "s"))
        self.right(part("a", "t", "#", "s"))
        self.wrong(part("a", "#", "s", "#"))

    def test_1_only_just_above(self):
        # Below the roof of a clamp a stud has room, but not if the roof comes one lower.
        self.right(part("a", "#s", "#.", "##"))
        self.wrong(part("a", "#s", "##", "##"))
        self.right(part("a", "#s", "#."))
        self.right(part("a", "s#", ".#"))
        self.wrong(part("a", "s#", "#."))
        self.wrong(part("a", "#/b", "./#"))

    def test_2_tube_above_own_cell(self):
        for upper in "tb":
            self.wrong(part("a", "#", upper))
            self.wrong(part("a", "t", upper))
        self.wrong(part("a", "#", "t", "s"))
        self.right(part("a", "t", "#"))
        self.right(part("a", "t", "#", "#"))

    def test_2_only_just_below(self):
        self.right(part("a", "##", "#.", "#t"))
        self.wrong(part("a", "##", "##", "#t"))
        self.right(part("a", "#.", "#t"))
        self.wrong(part("a", "##", "#t"))
        self.wrong(part("a", "#/#", "#/b"))

    def test_1_and_2_each_alone(self):
        self.right(part("a", "b"))
        self.right(part("a", "bst#"))

    def test_3_each_side(self):
        self.right(part("a", "##"))
        self.wrong(part("a", ".#"))
        self.wrong(part("a", "#."))
        self.right(part("a", "#/#"))
        self.wrong(part("a", "./#"))
        self.wrong(part("a", "#/."))
        self.right(part("a", "#", "#"))
        self.wrong(part("a", ".", "#"))
        self.wrong(part("a", "#", "."))

    def test_3_sides_of_greater_parts(self):
        self.wrong(part("a", "###./###.", "###./###."))
        self.wrong(part("a", ".###/.###", ".###/.###"))
        self.wrong(part("a", "####/####/....", "####/####/...."))
        self.wrong(part("a", "..../####/####", "..../####/####"))
        self.wrong(part("a", "####/####", "####/####", "..../...."))
        self.wrong(part("a", "..../....", "####/####", "####/####"))
        self.right(part("a", "..#./####/.#..", "..../..#./...."))

    def test_4_hangs_together(self):
        self.wrong(part("a", "#.#"))
        self.wrong(part("a", "#/./#"))
        self.wrong(part("a", "#", ".", "#"))
        self.right(part("a", "###"))
        self.right(part("a", "#.#", "###"))
        self.right(part("a", "###", "#.#"))
        self.right(part("a", "#.#/###"))
        self.right(part("a", "###/#.#"))

    def test_4_not_by_edges_or_corners(self):
        self.wrong(part("a", "#./.#"))
        self.wrong(part("a", ".#/#."))
        self.wrong(part("a", "#.", ".#"))
        self.wrong(part("a", "#/.", "./#"))
        self.wrong(part("a", "#./..", "../.#"))

    def test_4_not_across_rows_ends(self):
        self.wrong(part("a", "..#/#.."))
        self.wrong(part("a", "##.#/#..#"))

    def test_4_two_heaps(self):
        self.wrong(part("a", "##.##/##.##", "##.##/##.##"))
        self.right(part("a", "##.##/#####", "##.##/##.##"))

    def test_4_no_cell(self):
        self.wrong(part("a", "."))
        self.wrong(part("a", "..../....", "..../...."))

    def test_4_long_way_round(self):
        # One winding path through a layer; a cell less, and it falls apart.
        turns = ("." * 15 + "#", "#" + "." * 15)
        rows = ["#" * 16 if number % 2 == 0 else turns[number // 2 % 2] for number in range(15)]
        self.right(part("a", "/".join(rows)))
        rows[7] = "." * 16
        self.wrong(part("a", "/".join(rows)))

    def test_4_more_cells_than_calls_may_be_nested(self):
        self.right(part("a", *["/".join(["#" * 16] * 16)] * 18))

    def test_5_names_rise(self):
        for first, second in (("a", "b"), ("a", "aa"), ("a", "a0"), ("a0", "a1"), ("a9", "aa"), ("ab", "abc"),
                              ("az", "b"), ("a99", "b"), ("a10", "a2"), ("abcdefg", "abcdefgh"), ("y", "z")):
            self.right(part(first, "#") + part(second, "#"))
            self.wrong(part(second, "#") + part(first, "#"))

    def test_5_same_name(self):
        self.wrong(part("a", "#") + part("a", "#"))
        self.wrong(part("a", "#") + part("a", "##", weight=2))
        self.wrong(part("abcdefgh", "#") + part("abcdefgh", "#"))

    def test_5_later_names(self):
        self.right(part("a", "#") + part("b", "#") + part("c", "#"))
        self.wrong(part("a", "#") + part("c", "#") + part("b", "#"))
        self.wrong(part("b", "#") + part("c", "#") + part("a", "#"))
        self.wrong(part("a", "#") + part("c", "#") + part("b", "#") + part("d", "#"))
        self.wrong(part("a", "#") + part("b", "#") + part("a", "#"))

    def test_wrong_part_among_right_ones(self):
        wrong = ("s", "#"), ("#", "t"), ("#.",), ("#.#",), (".",)
        for layers in wrong:
            self.wrong(part("a", *layers) + part("b", "#") + part("c", "#"))
            self.wrong(part("a", "#") + part("b", *layers) + part("c", "#"))
            self.wrong(part("a", "#") + part("b", "#") + part("c", *layers))

    def test_wrong_part_that_no_line_names(self):
        catalogue = part("a", "#") + part("b", "#.#")
        self.assertEqual(can_of(catalogue, build("put a 0 0 0 0 0\n")), [-8])


if __name__ == "__main__":
    unittest.main()
