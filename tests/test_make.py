"""make: page after page the K lines over which the longest chain stands, of as long ones the least; as a text."""

import unittest

from laystones.builds import judge
from tests.helper import (
    MOST, PARTS, build, instructions, judge_of, make_of, page_of, part, put, snake_puts, stack, text,
)


class Made(unittest.TestCase):
    def made(self, puts, K, *pages, catalogue=PARTS):
        answer = make_of(K, catalogue, build(*puts))
        expected = text(instructions(*pages))
        self.assertEqual(answer, [len(expected)] + expected, bytes(answer[1:]))
        self.assertEqual(judge(answer[1:]), [len(pages)])


class Pages(Made):
    def test_without_lines(self):
        for K in (1, 2, 3, 255, 256):
            self.assertEqual(make_of(K, PARTS, build()), [0])

    def test_one_line(self):
        for K in (1, 2, 3, 255, 256):
            self.made([put("cube", 5, 5, 0)], K, [0])

    def test_bytes_are_told_behind_how_many_they_are(self):
        answer = make_of(1, PARTS, build(put("cube", 0, 0, 0), put("cube", 0, 0, 1)))
        self.assertEqual(answer, [14, 112, 97, 103, 101, 32, 48, 10, 112, 97, 103, 101, 32, 49, 10])

    def test_stack_has_one_line_a_page(self):
        for K in (1, 2, 3, 255, 256):
            self.made(stack(0, 4), K, [0], [1], [2], [3])
            self.made(stack(0, 4)[::-1], K, [3], [2], [1], [0])

    def test_side_by_side(self):
        beside = [put("cube", x, 0, 0) for x in range(7)]
        self.made(beside, 1, [0], [1], [2], [3], [4], [5], [6])
        self.made(beside, 2, [0, 1], [2, 3], [4, 5], [6])
        self.made(beside, 3, [0, 1, 2], [3, 4, 5], [6])
        self.made(beside, 6, [0, 1, 2, 3, 4, 5], [6])
        for K in (7, 8, 255, 256):
            self.made(beside, K, [0, 1, 2, 3, 4, 5, 6])

    def test_a_line_comes_only_behind_all_that_it_is_over(self):
        # Line 0 is over 1 and 2; by 1 it comes behind both, though 1 alone is on the first page.
        bridge = [put("long", 0, 0, 1), put("cube", 0, 0, 0), put("cube", 2, 0, 0)]
        self.made(bridge, 1, [1], [2], [0])
        self.made(bridge, 2, [1, 2], [0])
        self.made(bridge, 256, [1, 2], [0])

    def test_no_line_together_with_one_that_it_is_over(self):
        self.made(stack(0, 2) + stack(5, 2), 256, [0, 2], [1, 3])
        self.made(stack(0, 2) + stack(5, 2), 3, [0, 2], [1, 3])

    def test_over_with_a_gap(self):
        # The gate stands on the tower, and its other foot is far above line 1.
        tower = part("cube", "#") + part("gate", "#.#", "###") + part("tower", *["#"] * 9)
        puts = [put("gate", 0, 0, 9), put("cube", 2, 0, 0), put("tower", 0, 0, 0)]
        self.made(puts, 256, [1, 2], [0], catalogue=tower)
        self.made(puts, 1, [1], [2], [0], catalogue=tower)

    def test_fewer_than_may_come_at_first_and_more_later(self):
        # One line carries four: by 3 there is one line on page 0, three on page 1, and one on page 2.
        floor = part("cube", "#") + part("floor", "####")
        puts = [put("floor", 0, 0, 0)] + [put("cube", x, 0, 1) for x in range(4)]
        self.made(puts, 3, [0], [1, 2, 3], [4], catalogue=floor)
        self.made(puts, 4, [0], [1, 2, 3, 4], catalogue=floor)


class Chains(Made):
    def test_longest_chain_first(self):
        # Three stacks: one line, two lines, three lines.
        puts = stack(0, 1) + stack(2, 2) + stack(4, 3)
        self.made(puts, 1, [3], [1], [4], [0], [2], [5])
        self.made(puts, 2, [1, 3], [0, 4], [2, 5])
        self.made(puts, 3, [0, 1, 3], [2, 4], [5])
        self.made(puts, 255, [0, 1, 3], [2, 4], [5])

    def test_of_as_long_ones_the_least_line(self):
        puts = stack(0, 2) + stack(2, 2) + stack(4, 2)
        self.made(puts, 1, [0], [2], [4], [1], [3], [5])
        self.made(puts, 2, [0, 2], [1, 4], [3, 5])
        self.made(puts[::-1], 1, [1], [3], [5], [0], [2], [4])
        self.made(puts[::-1], 2, [1, 3], [0, 5], [2, 4])

    def test_rising_though_the_greater_line_was_chosen_first(self):
        # On page 0 line 3 is chosen for its chain, then line 0 as the least of the others: 1 and 2 are left.
        puts = [put("cube", 0, 0, 0), put("cube", 1, 0, 0), put("cube", 2, 0, 0)] + stack(4, 3)
        self.made(puts, 2, [0, 3], [1, 4], [2, 5])
        self.made(puts, 1, [3], [4], [0], [1], [2], [5])

    def test_how_long_the_chain_is_and_not_how_many_lines_are_over_it(self):
        # Three lines stand over line 0, but none over them; over line 4 there are two, one over the other.
        floor = part("cube", "#") + part("floor", "###")
        puts = [put("floor", 0, 0, 0)] + [put("cube", x, 0, 1) for x in range(3)] + stack(5, 3)
        self.made(puts, 1, [4], [0], [5], [1], [2], [3], [6], catalogue=floor)
        self.made(puts, 2, [0, 4], [1, 5], [2, 3], [6], catalogue=floor)

    def test_how_many_lines_and_not_how_high_they_are(self):
        # Over line 0 stands one line nine high; over line 2 two that are one high each.
        tower = part("cube", "#") + part("tower", *["#"] * 9)
        puts = [put("cube", 0, 0, 0), put("tower", 0, 0, 1)] + stack(2, 3)
        self.made(puts, 1, [2], [0], [3], [1], [4], catalogue=tower)

    def test_a_chain_goes_on_from_one_stack_to_another(self):
        # Line 0 is under the step's lower end, and what is over its higher end lengthens the chain.
        puts = [put("cube", 0, 0, 0), put("step", 0, 0, 1), put("cube", 2, 0, 3), put("cube", 2, 0, 4)]
        puts += stack(9, 3)
        self.made(puts, 1, [0], [1], [4], [2], [5], [3], [6])

    def test_a_chain_counts_lines_that_are_over_with_a_gap(self):
        # Over line 2 stands the beam alone, at its other end high above; yet a cube lies on the beam.
        tower = part("beam", "##") + part("cube", "#") + part("tower", *["#"] * 9)
        puts = [put("cube", 5, 0, 0), put("cube", 5, 0, 1), put("cube", 1, 0, 0), put("tower", 0, 0, 0)]
        puts += [put("beam", 0, 0, 9), put("cube", 0, 0, 10)]
        self.made(puts, 1, [2], [3], [0], [4], [1], [5], catalogue=tower)
        self.made(puts, 2, [2, 3], [0, 4], [1, 5], catalogue=tower)

    def test_the_longest_of_several_chains(self):
        # Over the beam there are stacks of one and of three; over the other one of two.
        beam = part("beam", "####") + part("cube", "#")
        lone = [put("cube", 0, 0, 1)]
        three = [put("cube", 3, 0, z) for z in (1, 2, 3)]
        other = stack(9, 3)
        self.made(other + lone + three + [put("beam", 0, 0, 0)], 1,
                  [7], [0], [4], [1], [5], [2], [3], [6], catalogue=beam)
        self.made(other + three + lone + [put("beam", 0, 0, 0)], 1,
                  [7], [0], [3], [1], [4], [2], [5], [6], catalogue=beam)

    def test_lines_left_for_later_do_not_lose_their_turn(self):
        puts = stack(0, 1) + stack(2, 1) + stack(4, 2) + stack(6, 3)
        self.made(puts, 1, [4], [2], [5], [0], [1], [3], [6])
        self.made(puts, 3, [0, 2, 4], [1, 3, 5], [6])


class Many(Made):
    beside = [put("cube", number % 64, number // 64, 0) for number in range(256)]

    def test_256_lines_beside_one_another(self):
        self.made(self.beside, 256, range(256))
        self.made(self.beside, 255, range(255), [255])
        self.made(self.beside, 128, range(128), range(128, 256))
        self.made(self.beside, 3, *[range(256)[first:first + 3] for first in range(0, 256, 3)])
        self.made(self.beside, 1, *[[line] for line in range(256)])

    def test_255_lines_beside_one_another(self):
        self.made(self.beside[:255], 255, range(255))
        self.made(self.beside[:255], 256, range(255))

    def test_chain_of_256_lines(self):
        for K in (1, 2, 256):
            self.made(snake_puts(), K, *[[line] for line in range(255, -1, -1)])
            self.made(snake_puts()[::-1], K, *[[line] for line in range(256)])

    def test_chain_beside_many_single_lines(self):
        # The chain's next line comes on each page, whatever else is left; the others fill up by their numbers.
        puts = [put("cube", x, 0, 0) for x in range(60)] + stack(63, 90)
        pages = [[first, first + 1, 60 + first // 2] for first in range(0, 60, 2)]
        self.made(puts, 3, *pages, *[[line] for line in range(90, 150)])

    def test_full_room(self):
        block = part("block", *["/".join(["#" * 16] * 16)] * 6)
        puts = [put("block", x, y, z) for z in range(0, 96, 6) for y in range(0, 64, 16) for x in range(0, 64, 16)]
        pages = [range(first, first + 16) for first in range(0, 256, 16)]
        self.made(puts, 256, *pages, catalogue=block)

    def test_by_256_each_line_is_on_its_page(self):
        steps = [put("step", 2 * number, 0, 0) for number in range(9)] + stack(30, 5) + stack(40, 2)
        written = build(*steps)
        answer = bytes(make_of(256, PARTS, written)[1:]).decode()
        pages = [[int(word) for word in row.split()[1:]] for row in answer.splitlines()]
        self.assertEqual(judge_of(answer), [9])
        for line in range(len(steps)):
            page, = page_of(line, PARTS, written)
            self.assertEqual([number for number, lines in enumerate(pages) if line in lines], [page])


class Refused(unittest.TestCase):
    def test_bounds_of_a_page(self):
        written = build(put("cube", 0, 0, 0))
        for K in (0, 257, 258, 512, 2 ** 63, MOST):
            self.assertEqual(make_of(K, PARTS, written), [-1])
            self.assertEqual(make_of(K, PARTS, build()), [-1])
        for K in (1, 256):
            self.assertEqual(make_of(K, PARTS, written)[0], 7)

    def test_ring(self):
        for K in (1, 256):
            self.assertEqual(make_of(K, PARTS, build(put("clamp", 0, 0, 0), put("cube", 1, 0, 1))), [-3])
            ringed = build(put("cube", 9, 9, 0), put("step", 0, 0, 0), put("wind", 1, 0, 0), put("wine", 0, 0, 0))
            self.assertEqual(make_of(K, PARTS, ringed), [-3])

    def test_line_without_a_hold(self):
        for K in (1, 256):
            self.assertEqual(make_of(K, PARTS, build(put("cube", 0, 0, 1))), [-3])
            self.assertEqual(make_of(K, PARTS, build(put("cube", 0, 0, 0), put("cube", 0, 0, 2))), [-3])


if __name__ == "__main__":
    unittest.main()
