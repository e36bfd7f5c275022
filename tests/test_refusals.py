"""Where two refusals would hold, the one that is looked at first; and what a call leaves as it was."""

import unittest

from laystones.builds import can, over
from tests.helper import PARTS, build, part, put, text

MOST = 18446744073709551615

NO_CATALOGUE = text("part a 1 1 1 0\n#\n")
NOT_RIGHT_CATALOGUE = text(part("cube", "#.#"))
CATALOGUE = text(PARTS)

TOO_LONG = text(build(put("cube", 0, 0, 0))) + [10] * 16384
NO_BUILD = text(build(put("cube", 0, 0, 96)))
NOT_RIGHT_BUILD = text(build(put("cube", 0, 0, 0), put("cube", 0, 0, 0)))
BUILD = text(build(put("cube", 0, 0, 0), put("cube", 0, 0, 1)))


class Refusals(unittest.TestCase):
    def both(self, c, b, refusal):
        self.assertEqual(can(c, b), [refusal])
        # Lines that are there, and lines that are not: -4 is looked at behind all of these.
        for i, j in ((0, 0), (1, 0), (0, MOST), (MOST, 0), (MOST, MOST)):
            self.assertEqual(over(i, j, c, b), [refusal])

    def test_length_first(self):
        for c in ([], NO_CATALOGUE, NOT_RIGHT_CATALOGUE, CATALOGUE):
            self.both(c, TOO_LONG[:16400], -2)

    def test_catalogue_text_second(self):
        for c in ([], NO_CATALOGUE):
            for b in ([], NO_BUILD, NOT_RIGHT_BUILD, BUILD):
                self.both(c, b, -6)

    def test_catalogue_third(self):
        for b in ([], NO_BUILD, NOT_RIGHT_BUILD, BUILD):
            self.both(NOT_RIGHT_CATALOGUE, b, -8)

    def test_build_text_fourth(self):
        for b in ([], NO_BUILD):
            self.both(CATALOGUE, b, -5)

    def test_build_fifth(self):
        self.both(CATALOGUE, NOT_RIGHT_BUILD, -9)

    def test_line_last(self):
        self.assertEqual(over(1, 0, CATALOGUE, BUILD), [1])
        self.assertEqual(over(2, 0, CATALOGUE, BUILD), [-4])
        self.assertEqual(can(CATALOGUE, BUILD), [0])

    def test_whole_catalogue_text_before_its_parts(self):
        wrong_then_none = part("a", "#.#") + "part b 1 1 1 1\n"
        self.both(text(wrong_then_none), BUILD, -6)

    def test_whole_build_text_before_its_lines(self):
        beyond_then_none = build(put("long", 63, 0, 0), put("nothing", 0, 0, 0))
        self.both(CATALOGUE, text(beyond_then_none), -5)
        twice_then_none = build(put("cube", 0, 0, 0), put("cube", 0, 0, 0), put("cube", 0, 64, 0))
        self.both(CATALOGUE, text(twice_then_none), -5)

    def test_not_right_before_what_cannot_be_built(self):
        self.both(CATALOGUE, text(build(put("cube", 0, 0, 5), put("cube", 0, 0, 5))), -9)

    def test_no_refusal_of_what_cannot_be_built(self):
        hovering = text(build(put("cube", 0, 0, 5), put("cube", 0, 0, 7)))
        self.assertEqual(over(1, 0, CATALOGUE, hovering), [1])
        self.assertEqual(over(2, 0, CATALOGUE, hovering), [-4])
        self.assertEqual(can(CATALOGUE, hovering), [1, 2, 0])
        ring = text(build(put("clamp", 0, 0, 0), put("cube", 1, 0, 1)))
        self.assertEqual(over(0, 1, CATALOGUE, ring), [1])
        self.assertEqual(can(CATALOGUE, ring), [1, 1, 0])


class Untouched(unittest.TestCase):
    pairs = [
        (c, b)
        for c in (NO_CATALOGUE, NOT_RIGHT_CATALOGUE, CATALOGUE)
        for b in (TOO_LONG[:16400], NO_BUILD, NOT_RIGHT_BUILD, BUILD)
    ]

    def test_lists_stay_the_same(self):
        for c, b in self.pairs:
            c_before, b_before = list(c), list(b)
            can(c, b)
            over(1, 0, c, b)
            over(MOST, 0, c, b)
            self.assertEqual(c, c_before)
            self.assertEqual(b, b_before)

    def test_lists_are_never_written_to(self):
        for c, b in self.pairs:
            c, b = ReadOnly(c), ReadOnly(b)
            can(c, b)
            over(1, 0, c, b)

    def test_same_answer_twice(self):
        first = [can(c, b) + over(1, 0, c, b) for c, b in self.pairs]
        second = [can(c, b) + over(1, 0, c, b) for c, b in reversed(self.pairs)]
        self.assertEqual(first, second[::-1])

    def test_answers_are_new_lists(self):
        answer = can(CATALOGUE, BUILD)
        answer.append(7)
        self.assertEqual(can(CATALOGUE, BUILD), [0])
        answer = over(1, 0, CATALOGUE, BUILD)
        answer.append(7)
        self.assertEqual(over(1, 0, CATALOGUE, BUILD), [1])

    def test_answers_are_lists_of_whole_numbers(self):
        for c, b in self.pairs:
            for answer in (can(c, b), over(1, 0, c, b), over(0, 0, c, b)):
                self.assertIs(type(answer), list)
                self.assertTrue(all(type(number) is int for number in answer))


class ReadOnly(list):
    """A list that fails if it is changed, even if it is changed back."""

    def fail(self, *ignored):
        raise AssertionError("the list handed in was changed")

    append = extend = insert = remove = pop = clear = sort = reverse = fail
    __setitem__ = __delitem__ = __iadd__ = __imul__ = fail


if __name__ == "__main__":
    unittest.main()
