"""Where two refusals would hold, the one that is looked at first; and what a call leaves as it was."""

import unittest

from laystones.builds import can, checks, judge, make, off, order, over, page, right
from tests.helper import MOST, PARTS, build, instructions, part, put, text

NO_CATALOGUE = text("part a 1 1 1 0\n#\n")
NOT_RIGHT_CATALOGUE = text(part("cube", "#.#"))
CATALOGUE = text(PARTS)

TOO_LONG = (text(build(put("cube", 0, 0, 0))) + [10] * 16384)[:16400]
NO_BUILD = text(build(put("cube", 0, 0, 96)))
NOT_RIGHT_BUILD = text(build(put("cube", 0, 0, 0), put("cube", 0, 0, 0)))
HOVERING = text(build(put("cube", 0, 0, 5), put("cube", 0, 0, 7)))
RING = text(build(put("clamp", 0, 0, 0), put("cube", 1, 0, 1)))
BUILD = text(build(put("cube", 0, 0, 0), put("cube", 0, 0, 1)))

CATALOGUES = ([], NO_CATALOGUE, NOT_RIGHT_CATALOGUE, CATALOGUE)
BUILDS = ([], TOO_LONG, NO_BUILD, NOT_RIGHT_BUILD, HOVERING, RING, BUILD)

# Lines that are there, and lines that are not.
LINES = (0, 1, 2, MOST)
LINE_PAIRS = ((0, 0), (1, 0), (0, 2), (0, MOST), (MOST, 0), (MOST, MOST))
# An order, and rows that are none.
ROWS = ((0, 1), (1, 0), (), (0,), (2,), (MOST,), (0,) * 256)
LONG_ROWS = ((0,) * 257, (MOST,) * 257, tuple(range(300)))
# How many lines a page may have at most, and what is no such number.
PAGE_BOUNDS = (1, 2, 256)
NO_PAGE_BOUNDS = (0, 257, MOST)

INSTRUCTIONS = text(instructions([0], [1]))
NO_INSTRUCTIONS = text("page 1 1\n")
LONG_INSTRUCTIONS = INSTRUCTIONS + [10] * (65537 - len(INSTRUCTIONS))
WRONG_INSTRUCTIONS = text(instructions([1], [0, 7]))
INSTRUCTION_TEXTS = ([], NO_INSTRUCTIONS, LONG_INSTRUCTIONS, WRONG_INSTRUCTIONS, INSTRUCTIONS)


def each_answer(c, b):
    """What every call with these texts answers, as long as what else is handed in isn't refused ahead of them."""
    answers = [can(c, b), order(c, b)]
    answers += [over(i, j, c, b) for i, j in LINE_PAIRS]
    answers += [checks(c, b, list(row)) for row in ROWS]
    answers += [page(i, c, b) for i in LINES]
    answers += [off(i, c, b) for i in LINES]
    answers += [make(K, c, b) for K in PAGE_BOUNDS]
    answers += [right(K, c, b, t) for K in PAGE_BOUNDS for t in (INSTRUCTIONS, WRONG_INSTRUCTIONS)]
    return answers


class Refusals(unittest.TestCase):
    def all_refused(self, c, b, refusal):
        for answer in each_answer(c, b):
            self.assertEqual(answer, [refusal])

    def test_long_row_ahead_of_all(self):
        for c in CATALOGUES:
            for b in BUILDS:
                for row in LONG_ROWS:
                    self.assertEqual(checks(c, b, list(row)), [-1])

    def test_page_bound_ahead_of_all(self):
        for c in CATALOGUES:
            for b in BUILDS:
                for K in NO_PAGE_BOUNDS:
                    self.assertEqual(make(K, c, b), [-1])
                    for t in INSTRUCTION_TEXTS:
                        self.assertEqual(right(K, c, b, t), [-1])

    def test_length_first(self):
        for c in CATALOGUES:
            self.all_refused(c, TOO_LONG, -2)

    def test_just_long_enough_to_be_refused(self):
        self.all_refused(CATALOGUE, TOO_LONG[:16384], -5)
        self.all_refused(CATALOGUE, TOO_LONG[:16385], -2)

    def test_length_of_instructions_first(self):
        for c in CATALOGUES:
            for b in BUILDS:
                self.assertEqual(right(1, c, b, LONG_INSTRUCTIONS), [-2])
            for t in INSTRUCTION_TEXTS:
                self.assertEqual(right(1, c, TOO_LONG, t), [-2])

    def test_instructions_behind_catalogue_and_build(self):
        for t in ([], NO_INSTRUCTIONS):
            for c in CATALOGUES:
                for b in (b for b in BUILDS if b != TOO_LONG):
                    refusal = can(c, b)[0]
                    self.assertEqual(right(1, c, b, t), [refusal if refusal < 0 else -10])

    def test_instructions_ahead_of_what_cannot_be_built(self):
        for K in PAGE_BOUNDS:
            for b in (HOVERING, RING, BUILD):
                for t in ([], NO_INSTRUCTIONS):
                    self.assertEqual(right(K, CATALOGUE, b, t), [-10])

    def test_catalogue_text_second(self):
        for c in ([], NO_CATALOGUE):
            for b in ([], NO_BUILD, NOT_RIGHT_BUILD, HOVERING, RING, BUILD):
                self.all_refused(c, b, -6)

    def test_catalogue_third(self):
        for b in ([], NO_BUILD, NOT_RIGHT_BUILD, HOVERING, RING, BUILD):
            self.all_refused(NOT_RIGHT_CATALOGUE, b, -8)

    def test_build_text_fourth(self):
        for b in ([], NO_BUILD):
            self.all_refused(CATALOGUE, b, -5)

    def test_build_fifth(self):
        self.all_refused(CATALOGUE, NOT_RIGHT_BUILD, -9)

    def test_line_behind_these(self):
        self.assertEqual(over(1, 0, CATALOGUE, BUILD), [1])
        self.assertEqual(over(2, 0, CATALOGUE, BUILD), [-4])
        for line in (2, 3, 255, 256, MOST):
            self.assertEqual(page(line, CATALOGUE, BUILD), [-4])
            self.assertEqual(off(line, CATALOGUE, BUILD), [-4])

    def test_line_ahead_of_what_cannot_be_built(self):
        for b in (HOVERING, RING):
            for line in (2, 3, 255, 256, MOST):
                self.assertEqual(page(line, CATALOGUE, b), [-4])
                self.assertEqual(off(line, CATALOGUE, b), [-4])

    def test_what_cannot_be_built_last(self):
        for b in (HOVERING, RING):
            self.assertEqual(order(CATALOGUE, b), [-3])
            for row in ROWS:
                self.assertEqual(checks(CATALOGUE, b, list(row)), [-3])
            for K in PAGE_BOUNDS:
                self.assertEqual(make(K, CATALOGUE, b), [-3])
                self.assertEqual(right(K, CATALOGUE, b, INSTRUCTIONS), [-3])
                self.assertEqual(right(K, CATALOGUE, b, WRONG_INSTRUCTIONS), [-3])
            for line in (0, 1):
                self.assertEqual(page(line, CATALOGUE, b), [-3])
                self.assertEqual(off(line, CATALOGUE, b), [-3])

    def test_nothing_to_refuse(self):
        self.assertEqual(can(CATALOGUE, BUILD), [0])
        self.assertEqual(order(CATALOGUE, BUILD), [0, 1])
        self.assertEqual(checks(CATALOGUE, BUILD, [0, 1]), [0])
        self.assertEqual(checks(CATALOGUE, BUILD, [1, 0]), [1, 0])
        self.assertEqual([page(line, CATALOGUE, BUILD) for line in (0, 1)], [[0], [1]])
        self.assertEqual([off(line, CATALOGUE, BUILD) for line in (0, 1)], [[1], []])
        for K in PAGE_BOUNDS:
            self.assertEqual(make(K, CATALOGUE, BUILD), [len(INSTRUCTIONS)] + INSTRUCTIONS)
            self.assertEqual(right(K, CATALOGUE, BUILD, INSTRUCTIONS), [0])
            self.assertEqual(right(K, CATALOGUE, BUILD, WRONG_INSTRUCTIONS), [1, 3, 0, 1])
        self.assertEqual(judge(INSTRUCTIONS), [2])

    def test_judge(self):
        self.assertEqual([judge(t) for t in INSTRUCTION_TEXTS], [[-10, 0], [-10, 8], [-2], [2], [2]])

    def test_whole_catalogue_text_before_its_parts(self):
        wrong_then_none = part("a", "#.#") + "part b 1 1 1 1\n"
        self.all_refused(text(wrong_then_none), BUILD, -6)

    def test_whole_build_text_before_its_lines(self):
        beyond_then_none = build(put("long", 63, 0, 0), put("nothing", 0, 0, 0))
        self.all_refused(CATALOGUE, text(beyond_then_none), -5)
        twice_then_none = build(put("cube", 0, 0, 0), put("cube", 0, 0, 0), put("cube", 0, 64, 0))
        self.all_refused(CATALOGUE, text(twice_then_none), -5)

    def test_not_right_before_what_cannot_be_built(self):
        self.all_refused(CATALOGUE, text(build(put("cube", 0, 0, 5), put("cube", 0, 0, 5))), -9)
        ringed = (put("clamp", 0, 0, 0), put("cube", 1, 0, 1))
        self.all_refused(CATALOGUE, text(build(*ringed, put("cube", 1, 0, 1))), -9)
        self.all_refused(CATALOGUE, text(build(*ringed, put("long", 62, 0, 0))), -9)
        self.all_refused(CATALOGUE, text(build(*ringed, put("stud", 9, 9, 0), put("cube", 9, 9, 1))), -9)

    def test_over_and_can_answer_of_what_cannot_be_built(self):
        self.assertEqual(over(1, 0, CATALOGUE, HOVERING), [1])
        self.assertEqual(over(2, 0, CATALOGUE, HOVERING), [-4])
        self.assertEqual(can(CATALOGUE, HOVERING), [1, 2, 0])
        self.assertEqual(over(0, 1, CATALOGUE, RING), [1])
        self.assertEqual(can(CATALOGUE, RING), [1, 1, 0])


class PageAndOff(unittest.TestCase):
    def both_refused(self, line, b, refusal):
        self.assertEqual(page(line, CATALOGUE, text(b)), [refusal])
        self.assertEqual(off(line, CATALOGUE, text(b)), [refusal])

    def test_no_such_line(self):
        for line in (3, 4, 64, 255, 256, 2 ** 63, MOST):
            self.both_refused(line, build(put("cube", 0, 0, 0), put("cube", 0, 0, 1), put("cube", 5, 0, 0)), -4)

    def test_no_lines(self):
        for line in (0, 1, 256, MOST):
            self.both_refused(line, build(), -4)

    def cannot_be_built(self, *puts):
        for line in range(len(puts)):
            self.both_refused(line, build(*puts), -3)
        for line in (len(puts), len(puts) + 1, MOST):
            self.both_refused(line, build(*puts), -4)

    def test_ring(self):
        self.cannot_be_built(put("clamp", 0, 0, 0), put("cube", 1, 0, 1))
        self.cannot_be_built(put("step", 0, 0, 0), put("wind", 1, 0, 0), put("wine", 0, 0, 0))
        self.cannot_be_built(put("cube", 9, 9, 0), put("clamp", 0, 0, 0), put("cube", 1, 0, 1))

    def test_line_without_a_hold(self):
        self.cannot_be_built(put("cube", 0, 0, 1))
        self.cannot_be_built(put("cube", 0, 0, 0), put("cube", 0, 0, 2))
        self.cannot_be_built(put("cube", 9, 9, 9), put("cube", 0, 0, 0), put("cube", 0, 0, 1))


class Untouched(unittest.TestCase):
    pairs = [(c, b) for c in CATALOGUES for b in BUILDS]

    def test_lists_stay_the_same(self):
        for c, b in self.pairs:
            c_before, b_before = list(c), list(b)
            each_answer(c, b)
            self.assertEqual(c, c_before)
            self.assertEqual(b, b_before)

    def test_rows_stay_the_same(self):
        for c, b in self.pairs:
            for row in ROWS + LONG_ROWS:
                handed_in = list(row)
                checks(c, b, handed_in)
                self.assertEqual(handed_in, list(row))

    def test_instructions_stay_the_same(self):
        for t in INSTRUCTION_TEXTS:
            t_before = list(t)
            judge(t)
            judge(ReadOnly(t))
            for c, b in self.pairs:
                right(1, c, b, t)
                right(1, ReadOnly(c), ReadOnly(b), ReadOnly(t))
            self.assertEqual(t, t_before)

    def test_lists_are_never_written_to(self):
        for c, b in self.pairs:
            c, b = ReadOnly(c), ReadOnly(b)
            each_answer(c, b)
            for row in ROWS + LONG_ROWS:
                checks(c, b, ReadOnly(row))

    def test_same_answer_twice(self):
        first = [each_answer(c, b) for c, b in self.pairs]
        second = [each_answer(c, b) for c, b in reversed(self.pairs)]
        self.assertEqual(first, second[::-1])

    def test_same_answer_to_instructions_twice(self):
        handed_in = [(K, c, b, t) for K in (0, 1, 256) for c, b in self.pairs for t in INSTRUCTION_TEXTS]
        first = [(judge(t), right(K, c, b, t)) for K, c, b, t in handed_in]
        second = [(judge(t), right(K, c, b, t)) for K, c, b, t in reversed(handed_in)]
        self.assertEqual(first, second[::-1])

    def test_answers_are_new_lists(self):
        before = each_answer(CATALOGUE, BUILD)
        for answer in each_answer(CATALOGUE, BUILD):
            answer.append(7)
        self.assertEqual(each_answer(CATALOGUE, BUILD), before)

    def test_the_row_handed_in_is_not_the_answer(self):
        row = [0]
        self.assertIsNot(checks(CATALOGUE, BUILD, row), row)

    def test_answers_are_lists_of_whole_numbers(self):
        for c, b in self.pairs:
            for answer in each_answer(c, b) + [checks(c, b, list(LONG_ROWS[0])), make(0, c, b)]:
                self.is_list_of_whole_numbers(answer)
        for t in INSTRUCTION_TEXTS:
            self.is_list_of_whole_numbers(judge(t))
            self.is_list_of_whole_numbers(right(1, CATALOGUE, BUILD, t))

    def is_list_of_whole_numbers(self, answer):
        self.assertIs(type(answer), list)
        self.assertTrue(all(type(number) is int for number in answer))


class ReadOnly(list):
    """A list that fails if it is changed, even if it is changed back."""

    def fail(self, *ignored):
        raise AssertionError("the list handed in was changed")

    append = extend = insert = remove = pop = clear = sort = reverse = fail
    __setitem__ = __delitem__ = __iadd__ = __imul__ = fail


if __name__ == "__main__":
    unittest.main()
