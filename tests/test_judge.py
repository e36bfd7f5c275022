"""judge: how many pages instructions' text has, or -10 and how far the text is the beginning of one."""

import itertools
import random
import re
import unittest

from laystones.builds import judge
from tests.helper import instructions, judge_of, text

WHOLE = re.compile(r"(page( (0|[1-9][0-9]*))+\n)+")
ALL_LINES = instructions(range(256))


def is_instructions(letters):
    """Put down from the words: what the text looks like, then its numbers."""
    if not WHOLE.fullmatch(letters):
        return False
    pages = [[int(word) for word in row.split(" ")[1:]] for row in letters.splitlines()]
    rising = all(first < second for lines in pages for first, second in zip(lines, lines[1:]))
    return rising and len(pages) <= 256 and all(line <= 255 for lines in pages for line in lines)


# Whatever is begun can be ended by one of these, if by anything: the rest of a head and a line, a number, or the rest
# of one.
ENDINGS = ["page 0\n"[place:] for place in range(7)] + [""]
ENDINGS += [f"{digits}\n" for digits in range(256)] + [f"{digits:02}\n" for digits in range(10)]


class Oracle:
    """The fault by trying to end each beginning; what was tried is kept."""

    def __init__(self):
        self.tried = {}

    def can_be_ended(self, letters):
        if letters not in self.tried:
            self.tried[letters] = any(is_instructions(letters + ending) for ending in ENDINGS)
        return self.tried[letters]

    def answer(self, letters):
        if is_instructions(letters):
            return [letters.count("\n")]
        fault = 0
        while fault < len(letters) and self.can_be_ended(letters[:fault + 1]):
            fault += 1
        return [-10, fault]


class Pages(unittest.TestCase):
    def has_pages(self, count, letters):
        self.assertEqual(judge_of(letters), [count], letters)

    def test_one_page_with_one_line(self):
        for line in (0, 1, 9, 10, 11, 99, 100, 101, 199, 200, 249, 250, 254, 255):
            self.has_pages(1, f"page {line}\n")

    def test_one_page_with_some_lines(self):
        self.has_pages(1, "page 0 1\n")
        self.has_pages(1, "page 5 10\n")
        self.has_pages(1, "page 9 10 99 100 254 255\n")
        self.has_pages(1, "page 0 255\n")

    def test_page_of_256_lines(self):
        self.has_pages(1, ALL_LINES)
        self.has_pages(2, ALL_LINES * 2)

    def test_many_pages(self):
        for count in (2, 3, 10, 99, 255, 256):
            self.has_pages(count, instructions(*[[line] for line in range(count)]))

    def test_lines_rise_within_a_page_alone(self):
        self.has_pages(3, "page 255\npage 7\npage 0\n")
        self.has_pages(2, "page 3 4 5\npage 1 2\n")

    def test_right_for_no_build(self):
        # Lines that come twice, or not at all, are told by right, not here.
        self.has_pages(2, "page 3\npage 3\n")
        self.has_pages(256, "page 200\n" * 256)


class Fault(unittest.TestCase):
    def fault(self, letters, fault):
        self.assertEqual(judge_of(letters), [-10, fault], letters)

    def test_empty(self):
        self.fault("", 0)

    def test_ends_within_the_word(self):
        self.fault("p", 1)
        self.fault("pa", 2)
        self.fault("pag", 3)
        self.fault("page", 4)
        self.fault("page 0\np", 8)
        self.fault("page 0\npag", 10)

    def test_ends_behind_the_word_or_a_blank(self):
        self.fault("page ", 5)
        self.fault("page 7 ", 7)
        self.fault("page 7\npage ", 12)

    def test_without_its_last_row_end(self):
        self.fault("page 0", 6)
        self.fault("page 1 2 3", 10)
        self.fault("page 0\npage 255", 15)

    def test_page_without_lines(self):
        self.fault("page\n", 4)
        self.fault("page \n", 5)
        self.fault("page 0\npage\n", 11)

    def test_words_beside_page(self):
        self.fault("Page 0\n", 0)
        self.fault("pagE 0\n", 3)
        self.fault("pages 0\n", 4)
        self.fault("pagepage 0\n", 4)
        self.fault(" page 0\n", 0)
        self.fault("0\n", 0)
        self.fault("put 0\n", 1)
        self.fault("\n", 0)
        self.fault("page 0\n\n", 7)
        self.fault("page 0\n\npage 1\n", 7)

    def test_blanks(self):
        self.fault("page  0\n", 5)
        self.fault("page 0  1\n", 7)
        self.fault("page 0 \n", 7)
        self.fault("page 0 1 \n", 9)
        self.fault("page\t0\n", 4)
        self.fault("page0\n", 4)
        self.fault("page 0,1\n", 6)
        self.fault("page 0\r\n", 6)

    def test_needless_noughts(self):
        self.fault("page 00\n", 6)
        self.fault("page 01\n", 6)
        self.fault("page 0 01\n", 7)
        self.fault("page 5 06\n", 7)
        self.fault("page 0255\n", 6)

    def test_nought_later(self):
        self.fault("page 0 0\n", 7)
        self.fault("page 1 0\n", 7)
        self.fault("page 200 0\n", 9)
        self.assertEqual(judge_of("page 1\npage 0\n"), [2])

    def test_beyond_the_greatest_line(self):
        self.fault("page 256\n", 7)
        self.fault("page 257\n", 7)
        self.fault("page 259\n", 7)
        self.fault("page 260\n", 7)
        self.fault("page 300\n", 7)
        self.fault("page 999\n", 7)
        self.fault("page 0 256\n", 9)
        self.assertEqual(judge_of("page 26\n"), [1])

    def test_four_digits_and_more(self):
        self.fault("page 1000\n", 8)
        self.fault("page 1999\n", 8)
        self.fault("page 2550\n", 8)
        self.fault("page 2555\n", 8)
        self.fault("page 1" + "0" * 60000, 8)

    def test_not_rising_but_the_next_digit_could_still_make_it_so(self):
        self.fault("page 5 1", 8)
        self.fault("page 5 1\n", 8)
        self.fault("page 5 1 7\n", 8)
        self.fault("page 5 5\n", 8)
        self.fault("page 99 1\n", 9)
        self.fault("page 99 10\n", 10)
        self.fault("page 199 2\n", 10)
        self.fault("page 199 20\n", 11)
        self.fault("page 254 2\n", 10)
        self.fault("page 254 25\n", 11)
        self.fault("page 254 250\n", 11)
        self.fault("page 249 25\n", 11)
        self.fault("page 29 2\n", 9)
        self.fault("page 109 11\n", 11)

    def test_not_rising_and_no_digit_can_make_it_so(self):
        self.fault("page 99 9\n", 8)
        self.fault("page 39 3\n", 8)
        self.fault("page 38 38\n", 9)
        self.fault("page 49 39\n", 8)
        self.fault("page 100 26\n", 10)
        self.fault("page 199 1\n", 9)
        self.fault("page 198 19\n", 11)
        self.fault("page 198 198\n", 11)
        self.fault("page 109 10\n", 10)
        self.fault("page 249 24\n", 10)
        self.fault("page 209 20\n", 10)
        self.fault("page 100 100\n", 11)
        self.fault("page 100 3\n", 9)

    def test_behind_the_greatest_line_comes_none(self):
        for more in (" ", " 2", " 255\n", " 256\n", " 0\n", " 1\n", "  "):
            self.fault("page 255" + more, 8)
            self.fault("page 3 255" + more, 10)
            self.fault("page 0\npage 255" + more, 15)

    def test_257_pages(self):
        whole = instructions(*[[line] for line in range(256)])
        for more in ("p", "page", "page 0\n", "page 0\n" * 40):
            self.fault(whole + more, len(whole))
        for more in ("\n", "x", " "):
            self.fault(whole + more, len(whole))
        short = instructions(*[[line] for line in range(255)])
        self.fault(short + "p", len(short) + 1)

    def test_in_a_later_page(self):
        self.fault("page 0 1\npage 3 2\n", 17)
        self.fault("page 0 1\npage 3 2 1\n", 17)
        self.fault("page 0 1\npage 3 0\n", 16)
        self.fault("page 0 1\npage 3 x", 16)

    def test_first_fault_counts(self):
        self.fault("page 0 0\npage 256\n", 7)
        self.fault("pag 300\n", 3)

    def test_every_byte_beside_those_of_such_a_text(self):
        known = text("page 0123456789\n")
        for byte in range(256):
            for begun in ("", "pa", "page", "page ", "page 1", "page 12", "page 1 ", "page 1 2", "page 1\n"):
                if byte not in known:
                    self.assertEqual(judge(text(begun) + [byte]), [-10, len(begun)], (begun, byte))
                    self.assertEqual(judge(text(begun) + [byte] + text("\n")), [-10, len(begun)], (begun, byte))


class Lengths(unittest.TestCase):
    def test_length_alone(self):
        for byte in (0, 10, 32, 48, 112, 255):
            for length in (65537, 65538, 65600):
                self.assertEqual(judge([byte] * length), [-2])
        self.assertEqual(judge([10] * 65536), [-10, 0])
        self.assertEqual(judge([112] * 65536), [-10, 1])

    def test_cut_at_the_length(self):
        many = text(ALL_LINES * 72)
        self.assertEqual(judge(many[:65535]), [-10, 65535])
        self.assertEqual(judge(many[:65536]), [-10, 65536])
        for length in (65537, 65600):
            self.assertEqual(judge(many[:length]), [-2])

    def test_whole_text_of_just_the_length(self):
        whole = ALL_LINES * 71 + "page 0\n" * 41
        self.assertEqual(len(whole), 65536)
        self.assertEqual(judge_of(whole), [112])
        self.assertEqual(judge_of(whole + "p"), [-2])
        self.assertEqual(judge_of(whole + "page 0\n"), [-2])


class Words(unittest.TestCase):
    """Against the words of the fault, worked out by trying how a beginning could be ended."""

    samples = (
        "page 0\n", "page 255\n", "page 0 1 2\n", "page 5 10 19\n", "page 9 25 100 254\n",
        "page 19 20 199 200 249 250\n",
        "page 3\npage 3\n", "page 0 255\npage 99 100\n", "page 24 25 26 240\npage 0\npage 1 7\n",
    )
    signs = "page 0123456789\n/:bPx\r"

    def held(self, variants):
        oracle = Oracle()
        seen = {}
        for letters in variants:
            expected = oracle.answer(letters)
            self.assertEqual(judge_of(letters), expected, letters)
            whole = expected[0] > 0
            seen[whole] = seen.get(whole, 0) + 1
        self.assertTrue(len(seen) == 2 and min(seen.values()) > 10, seen)

    def test_cut_at_each_byte(self):
        self.held(sample[:length] for sample in self.samples for length in range(len(sample) + 1))

    def test_one_byte_changed(self):
        self.held(
            sample[:place] + sign + sample[place + 1:]
            for sample in self.samples for place in range(len(sample)) for sign in self.signs
        )

    def test_one_byte_put_in(self):
        self.held(
            sample[:place] + sign + sample[place:]
            for sample in self.samples for place in range(len(sample) + 1) for sign in self.signs
        )

    def test_one_byte_left_out(self):
        self.held(sample[:place] + sample[place + 1:] for sample in self.samples for place in range(len(sample)))

    def test_all_short_rows(self):
        self.held(
            begun + "".join(signs)
            for begun in ("page ", "page 5", "page 24 ", "page 199 ")
            for length in range(5) for signs in itertools.product("01259 \n", repeat=length)
        )

    def test_all_pairs_of_lines(self):
        # Of each first line all the beginnings that a second one can have.
        for first in range(256):
            begun = f"page {first}"
            rows = [f"{begun} {second}\n" for second in range(first + 1, 256)] + [f"{begun}\n"]
            beginnings = {row[:length] for row in rows for length in range(len(row) + 1)}
            for second in range(0, 300, 1 if first % 50 in (0, 49) else 7):
                row = f"{begun} {second}\n"
                fault = max(length for length in range(len(row) + 1) if row[:length] in beginnings)
                self.assertEqual(judge_of(row), [1] if first < second < 256 else [-10, fault], row)

    def test_any_changes(self):
        source = random.Random(17)
        variants = []
        for attempt in range(1500):
            letters = source.choice(self.samples) + source.choice(self.samples)
            for change in range(source.randrange(4)):
                place = source.randrange(len(letters) + 1)
                letters = letters[:place] + source.choice(self.signs) + letters[place + source.randrange(2):]
            variants.append(letters)
        self.held(variants)


if __name__ == "__main__":
    unittest.main()
