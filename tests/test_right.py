"""right: whether instructions are right for a build and K, and if not, what is wrong first, and where."""

import unittest

from laystones.builds import make, right
from tests.helper import MOST, PARTS, build, instructions, part, put, right_of, snake_puts, stack, text

# Told by the program as the first number behind the 1.
TOO_MANY, NOT_THERE_OR_AGAIN, TOO_EARLY, IN_NONE = 1, 2, 3, 4

# Lines 0, 1, 2 stand one above another, as do 3, 4, and 5 stands alone.
STACKS = stack(0, 3) + stack(2, 2) + stack(4, 1)
# Line 0 lies on 1 and 2.
BRIDGE = [put("long", 0, 0, 1), put("cube", 0, 0, 0), put("cube", 2, 0, 0)]
BESIDE = [put("cube", number % 64, number // 64, 0) for number in range(256)]


class Checked(unittest.TestCase):
    def is_right(self, puts, K, *pages):
        self.assertEqual(right_of(K, PARTS, build(*puts), pages), [0], pages)

    def wrong(self, puts, K, *pages, told):
        self.assertEqual(right_of(K, PARTS, build(*puts), pages), [1, *told], pages)


class Right(Checked):
    def test_one_line(self):
        for K in (1, 2, 255, 256):
            self.is_right([put("cube", 0, 0, 0)], K, [0])

    def test_pages_as_one_likes(self):
        self.is_right(STACKS, 3, [0, 3, 5], [1, 4], [2])
        self.is_right(STACKS, 3, [0], [1, 3], [2, 4, 5])
        self.is_right(STACKS, 2, [5], [3], [4], [0], [1], [2])
        self.is_right(STACKS, 256, [3, 5], [0, 4], [1], [2])

    def test_over_several(self):
        self.is_right(BRIDGE, 2, [1, 2], [0])
        self.is_right(BRIDGE, 1, [2], [1], [0])

    def test_what_is_made_by_k_is_right_for_k_and_every_greater_one(self):
        steps = [put("step", 2 * number, 5, 0) for number in range(5)]
        for puts in (BRIDGE, BESIDE[:9], steps + STACKS, STACKS[::-1]):
            self.made_is_right(puts, (1, 2, 3, 4, 5, 9, 255, 256), (0, 1, 2, 5, 100, 254, 255))
        self.made_is_right(STACKS, (1, 2, 3, 254), range(256))

    def made_is_right(self, puts, bounds, more):
        c, b = text(PARTS), text(build(*puts))
        for K in bounds:
            t = make(K, c, b)[1:]
            for greater in [K + difference for difference in more if K + difference <= 256]:
                self.assertEqual(right(greater, c, b, t), [0], (puts, K, greater))

    def test_many_lines(self):
        self.is_right(BESIDE, 256, range(256))
        self.is_right(BESIDE, 128, range(128, 256), range(128))
        self.is_right(BESIDE, 1, *[[line] for line in range(255, -1, -1)])
        self.is_right(snake_puts(), 1, *[[line] for line in range(255, -1, -1)])
        self.is_right(snake_puts()[::-1], 1, *[[line] for line in range(256)])

    def test_full_room(self):
        block = part("block", *["/".join(["#" * 16] * 16)] * 6)
        puts = [put("block", x, y, z) for z in range(0, 96, 6) for y in range(0, 64, 16) for x in range(0, 64, 16)]
        pages = [range(first, first + 16) for first in range(0, 256, 16)]
        self.assertEqual(right_of(16, block, build(*puts), pages), [0])
        self.assertEqual(right_of(16, block, build(*puts), pages[::-1]), [1, TOO_EARLY, 0, 240])


class TooMany(Checked):
    def test_just_as_many_and_one_more(self):
        self.is_right(BESIDE[:3], 3, [0, 1, 2])
        self.wrong(BESIDE[:3], 2, [0, 1, 2], told=(TOO_MANY, 0, 3))
        self.wrong(BESIDE[:3], 1, [0, 1, 2], told=(TOO_MANY, 0, 3))
        self.wrong(BESIDE[:3], 1, [0], [1, 2], told=(TOO_MANY, 1, 2))
        self.wrong(BESIDE, 255, range(256), told=(TOO_MANY, 0, 256))
        self.is_right(BESIDE[:255], 255, range(255))
        self.wrong(BESIDE[:255], 254, range(255), told=(TOO_MANY, 0, 255))

    def test_on_the_last_page(self):
        self.wrong(BESIDE[:6], 2, [0, 1], [2], [3, 4, 5], told=(TOO_MANY, 2, 3))

    def test_as_many_on_all_pages_together(self):
        self.is_right(BESIDE[:6], 2, [0, 1], [2, 3], [4, 5])


class NotThereOrAgain(Checked):
    def test_not_there(self):
        self.wrong(STACKS, 3, [0, 3, 6], [1, 4], [2, 5], told=(NOT_THERE_OR_AGAIN, 0, 6))
        self.wrong(STACKS, 3, [0, 3, 255], told=(NOT_THERE_OR_AGAIN, 0, 255))
        self.wrong(STACKS, 3, [0, 3, 5], [1, 4], [2], [6], told=(NOT_THERE_OR_AGAIN, 3, 6))
        self.wrong(BESIDE[:255], 256, range(256), told=(NOT_THERE_OR_AGAIN, 0, 255))

    def test_in_two_pages(self):
        self.wrong(STACKS, 3, [0, 3, 5], [1, 4, 5], [2], told=(NOT_THERE_OR_AGAIN, 1, 5))
        self.wrong(STACKS, 3, [0, 3, 5], [1, 4], [2], [0], told=(NOT_THERE_OR_AGAIN, 3, 0))
        self.wrong(STACKS, 3, [0, 3, 5], [0, 3, 5], told=(NOT_THERE_OR_AGAIN, 1, 0))
        self.wrong(BESIDE[:1], 1, *[[0]] * 256, told=(NOT_THERE_OR_AGAIN, 1, 0))

    def test_least_of_several(self):
        self.wrong(STACKS, 256, [0, 6, 7, 255], told=(NOT_THERE_OR_AGAIN, 0, 6))
        self.wrong(STACKS, 256, [0, 3, 5], [1, 3, 4, 5], told=(NOT_THERE_OR_AGAIN, 1, 3))

    def test_one_of_each_on_a_page(self):
        # 5 was there before, 6 isn't there; the least is told, whichever it is of the two.
        self.wrong(STACKS, 256, [0, 3, 5], [1, 5, 6], told=(NOT_THERE_OR_AGAIN, 1, 5))
        self.wrong(STACKS, 256, [0, 3, 5], [1, 6, 9], told=(NOT_THERE_OR_AGAIN, 1, 6))

    def test_build_without_lines(self):
        for K in (1, 2, 256):
            self.wrong([], K, [0], told=(NOT_THERE_OR_AGAIN, 0, 0))
            self.wrong([], K, [7], [0], told=(NOT_THERE_OR_AGAIN, 0, 7))
            self.wrong([], K, *[[255]] * 256, told=(NOT_THERE_OR_AGAIN, 0, 255))
        self.wrong([], 2, [3, 5], told=(NOT_THERE_OR_AGAIN, 0, 3))
        self.wrong([], 1, [3, 5], told=(TOO_MANY, 0, 2))


class TooEarly(Checked):
    def test_over_one_of_the_same_page(self):
        self.wrong(STACKS, 256, [0, 1], [2, 3], [4, 5], told=(TOO_EARLY, 0, 1))
        self.wrong(STACKS[::-1], 256, [4, 5], told=(TOO_EARLY, 0, 4))
        self.wrong(STACKS, 256, [0, 3, 5], [1, 2, 4], told=(TOO_EARLY, 1, 2))

    def test_over_one_of_a_later_page(self):
        self.wrong(STACKS, 3, [1, 3, 5], [0, 4], [2], told=(TOO_EARLY, 0, 1))
        self.wrong(STACKS, 3, [0, 3, 5], [2, 4], [1], told=(TOO_EARLY, 1, 2))

    def test_over_one_that_is_in_none(self):
        self.wrong(STACKS, 3, [0, 3, 5], [2, 4], told=(TOO_EARLY, 1, 2))
        self.wrong(STACKS, 3, [4], told=(TOO_EARLY, 0, 4))

    def test_over_several_of_which_one_is_missing(self):
        self.wrong(BRIDGE, 2, [1], [0, 2], told=(TOO_EARLY, 1, 0))
        self.wrong(BRIDGE, 2, [2], [0, 1], told=(TOO_EARLY, 1, 0))
        self.wrong(BRIDGE, 3, [0, 1, 2], told=(TOO_EARLY, 0, 0))

    def test_over_without_lying_on_it(self):
        # The gate stands on the cubes 1 to 3; its other foot is high above line 4.
        puts = [put("gate", 0, 0, 3)] + stack(0, 3) + [put("cube", 2, 0, 0)]
        self.is_right(puts, 2, [1, 4], [2], [3], [0])
        self.wrong(puts, 2, [1], [2], [3], [0, 4], told=(TOO_EARLY, 3, 0))
        self.wrong(puts, 2, [1], [2], [3], [0], [4], told=(TOO_EARLY, 3, 0))

    def test_stands_on_the_table_but_is_over_another(self):
        puts = [put("gate", 0, 0, 0), put("cube", 1, 0, 0)]
        self.is_right(puts, 1, [1], [0])
        self.wrong(puts, 2, [0, 1], told=(TOO_EARLY, 0, 0))
        self.wrong(puts, 1, [0], [1], told=(TOO_EARLY, 0, 0))

    def test_least_of_several(self):
        self.wrong(STACKS, 256, [0, 1, 2, 3, 4, 5], told=(TOO_EARLY, 0, 1))
        self.wrong(STACKS, 256, [2, 4, 5], told=(TOO_EARLY, 0, 2))
        self.wrong(snake_puts(), 256, range(256), told=(TOO_EARLY, 0, 0))
        self.wrong(snake_puts()[::-1], 256, range(256), told=(TOO_EARLY, 0, 1))


class InNone(Checked):
    def test_lines_left_out(self):
        self.wrong(STACKS, 3, [0, 3, 5], [1, 4], told=(IN_NONE, 2, 2))
        self.wrong(STACKS, 3, [0, 3], [1, 4], [2], told=(IN_NONE, 3, 5))
        self.wrong(STACKS, 3, [3, 5], [4], told=(IN_NONE, 2, 0))
        self.wrong(BESIDE, 256, range(255), told=(IN_NONE, 1, 255))
        self.wrong(BESIDE, 1, *[[line] for line in range(1, 256)], told=(IN_NONE, 255, 0))

    def test_least_of_several(self):
        self.wrong(STACKS, 3, [0], told=(IN_NONE, 1, 1))
        self.wrong(STACKS, 3, [0, 5], [1], told=(IN_NONE, 2, 2))
        self.wrong(BESIDE, 256, [0, 1, 2, 4, 6, 255], told=(IN_NONE, 1, 3))


class Several(Checked):
    def test_too_many_ahead_of_the_others_on_one_page(self):
        self.wrong(STACKS, 2, [0, 3, 6], told=(TOO_MANY, 0, 3))
        self.wrong(STACKS, 2, [0, 3], [0, 1, 4], told=(TOO_MANY, 1, 3))
        self.wrong(STACKS, 2, [0, 1, 2], told=(TOO_MANY, 0, 3))

    def test_not_there_or_again_ahead_of_too_early_on_one_page(self):
        # The line that comes too early is the lesser one, and yet isn't told.
        self.wrong(STACKS, 256, [1, 6], told=(NOT_THERE_OR_AGAIN, 0, 6))
        self.wrong(STACKS, 256, [0, 5], [2, 5], told=(NOT_THERE_OR_AGAIN, 1, 5))
        self.wrong(STACKS, 256, [0, 3], [0, 2, 4], told=(NOT_THERE_OR_AGAIN, 1, 0))

    def test_the_earlier_page_is_told(self):
        self.wrong(STACKS, 2, [1], [0, 3, 5], told=(TOO_EARLY, 0, 1))
        self.wrong(STACKS, 2, [6], [0, 3, 5], told=(NOT_THERE_OR_AGAIN, 0, 6))
        self.wrong(STACKS, 2, [4], [6], told=(TOO_EARLY, 0, 4))
        self.wrong(STACKS, 2, [0, 3, 5], [6], told=(TOO_MANY, 0, 3))
        self.wrong(STACKS, 2, [0], [9], [2], told=(NOT_THERE_OR_AGAIN, 1, 9))

    def test_of_equal_wrongs_the_earlier_page(self):
        self.wrong(STACKS, 256, [200], [100], told=(NOT_THERE_OR_AGAIN, 0, 200))
        self.wrong(STACKS, 256, [4], [1], told=(TOO_EARLY, 0, 4))
        self.wrong(BESIDE[:5], 1, [2, 3], [0, 1, 4], told=(TOO_MANY, 0, 2))

    def test_left_out_lines_behind_all_pages(self):
        self.wrong(STACKS, 3, [3, 5], [4, 200], told=(NOT_THERE_OR_AGAIN, 1, 200))
        self.wrong(STACKS, 3, [0, 3], [2], told=(TOO_EARLY, 1, 2))
        self.wrong(STACKS, 1, [0], [3, 5], told=(TOO_MANY, 1, 2))


class Refused(Checked):
    def refused(self, refusal, K, puts, *pages):
        self.assertEqual(right_of(K, PARTS, build(*puts), pages), [refusal])

    def test_bounds_of_a_page(self):
        for K in (0, 257, 258, 512, 2 ** 63, MOST):
            self.refused(-1, K, STACKS, [0, 3, 5], [1, 4], [2])
            self.refused(-1, K, [], [0])

    def test_no_instructions(self):
        c, b = text(PARTS), text(build(*STACKS))
        for letters in ("", "page", "page 0", "page 1 0\n", "page 256\n", "page 0\n" * 257, "page 0 \n"):
            self.assertEqual(right(3, c, b, text(letters)), [-10])
        self.assertEqual(right(3, c, text(build()), []), [-10])

    def test_length_of_instructions(self):
        c, b = text(PARTS), text(build(*BESIDE))
        whole = instructions(range(256)) * 71 + "page 0\n" * 41
        self.assertEqual(len(whole), 65536)
        self.assertEqual(right(256, c, b, text(whole)), [1, NOT_THERE_OR_AGAIN, 1, 0])
        self.assertEqual(right(256, c, b, text(whole)[:65535]), [-10])
        for length in (65537, 65600):
            self.assertEqual(right(256, c, b, (text(whole) + text(whole))[:length]), [-2])

    def test_ring(self):
        self.refused(-3, 1, [put("clamp", 0, 0, 0), put("cube", 1, 0, 1)], [0], [1])
        ringed = [put("cube", 9, 9, 0), put("step", 0, 0, 0), put("wind", 1, 0, 0), put("wine", 0, 0, 0)]
        self.refused(-3, 256, ringed, [0], [1], [2], [3])
        self.refused(-3, 256, ringed, [255])

    def test_line_without_a_hold(self):
        self.refused(-3, 1, [put("cube", 0, 0, 1)], [0])
        self.refused(-3, 256, [put("cube", 0, 0, 0), put("cube", 0, 0, 2)], [0], [1])


if __name__ == "__main__":
    unittest.main()
