"""A build's text: what is one, what is refused by -5, and the length that is refused by -2."""

import unittest

from laystones.builds import can, over
from tests.helper import build, part, put, text

CATALOGUE = text(part("ab", "#") + part("abc", "##") + part("b1", "#") + part("longname", "#"))


class BuildText(unittest.TestCase):
    def taken(self, written, answer=0):
        self.assertEqual(can(CATALOGUE, text(written))[0], answer, written)

    def refused(self, written, refusal=-5):
        signs = written if isinstance(written, list) else text(written)
        self.assertEqual(can(CATALOGUE, signs), [refusal], written)
        self.assertEqual(over(0, 0, CATALOGUE, signs), [refusal], written)

    def test_names(self):
        for name in ("a", "z", "a0", "z9", "abcdefghijklmnop", "a123456789012345"):
            self.taken(f"build {name}\n")
        for name in ("", "abcdefghijklmnopq", "abcdefghijklmnopqrstuvwxyz", "1", "0a", "A", "aB", "a_b", "a b", "a "):
            self.refused(f"build {name}\n")

    def test_name_with_bytes_beside_the_letters_and_digits(self):
        for byte in (0, 9, 11, 13, 31, 33, 47, 58, 64, 65, 90, 96, 123, 127, 128, 225, 255):
            self.refused(text("build a") + [byte] + text("\n"))
            self.refused(text("build ") + [byte] + text("a\n"))

    def test_first_row(self):
        for row in ("", "build", "builds a", "Build a", "buil a", "build  a", " build a", "builda", "build a\r", "a",
                    "put ab 0 0 0 0 0", "part a 1 1 1 1"):
            self.refused(row + "\n")
        self.refused("")

    def test_two_first_rows(self):
        self.refused("build a\nbuild b\n")

    def test_part_names(self):
        for name in ("ab", "abc", "b1", "longname"):
            self.taken(build(put(name, 0, 0, 0)))
        for name in ("a", "abcd", "b", "b11", "longnam", "longnames", "longname1", "c", "AB", "", "0", "ab\r", "ab abc"):
            self.refused(build(put(name, 0, 0, 0)))

    def test_part_name_that_another_begins_with(self):
        # ab is one cell, abc two: so one can tell which was taken.
        written = text(build(put("abc", 0, 0, 0), put("ab", 1, 0, 1)))
        self.assertEqual(over(1, 0, CATALOGUE, written), [1])
        written = text(build(put("ab", 0, 0, 0), put("ab", 1, 0, 1)))
        self.assertEqual(over(1, 0, CATALOGUE, written), [0])

    def test_colour(self):
        for colour in (0, 1, 9, 10, 99, 100, 254, 255):
            self.taken(build(put("ab", 0, 0, 0, colour=colour)))
        for colour in (256, 257, 260, 300, 999, 1000, 2560):
            self.refused(build(put("ab", 0, 0, 0, colour=colour)))

    def test_x(self):
        for x in (0, 1, 9, 10, 62, 63):
            self.taken(build(put("ab", x, 0, 0)))
        for x in (64, 65, 70, 100, 630):
            self.refused(build(put("ab", x, 0, 0)))

    def test_y(self):
        for y in (0, 1, 9, 10, 62, 63):
            self.taken(build(put("ab", 0, y, 0)))
        for y in (64, 65, 70, 95, 100, 630):
            self.refused(build(put("ab", 0, y, 0)))

    def test_z(self):
        self.taken(build(put("ab", 0, 0, 0)))
        for z in (1, 9, 10, 63, 64, 94, 95):
            self.taken(build(put("ab", 0, 0, z)), answer=1)
        for z in (96, 97, 100, 950):
            self.refused(build(put("ab", 0, 0, z)))

    def test_turns(self):
        for r in (0, 1, 2, 3):
            self.taken(build(put("ab", 0, 0, 0, r)))
        for r in (4, 5, 9, 10, 30):
            self.refused(build(put("ab", 0, 0, 0, r)))

    def test_how_numbers_are_written(self):
        wrong = ("00", "01", "001", "", "+0", "-0", "-1", "0.", "0a", "a", "x", "0x0", "#", "/", ":", "1/", "1:", "\t0")
        for written in wrong:
            for place in range(5):
                numbers = ["0", "0", "0", "0", "0"]
                numbers[place] = written
                self.refused(build("put ab " + " ".join(numbers) + "\n"))

    def test_number_as_long_as_the_text(self):
        self.refused(build("put ab 1" + "0" * 16000 + " 0 0 0 0\n"))
        self.refused(build("put ab " + "0" * 16000 + " 0 0 0 0\n"))

    def test_words_of_a_line(self):
        for line in ("", "put", "put ", "put ab", "put ab ", "put ab 0 0 0 0", "put ab 0 0 0 0 0 0", "Put ab 0 0 0 0 0",
                     "puts ab 0 0 0 0 0", "pu ab 0 0 0 0 0", " put ab 0 0 0 0 0", "put  ab 0 0 0 0 0",
                     "put ab  0 0 0 0 0", "put ab 0 0 0 0 0 ", "put ab 0 0 0 0 0\r", "ab 0 0 0 0 0", "part ab 0 0 0 0 0",
                     "putab 0 0 0 0 0", "put ab 0 0 0 0  0", "put\tab 0 0 0 0 0"):
            self.refused(build(line + "\n"))

    def test_fault_in_a_later_line(self):
        self.refused(build(put("ab", 0, 0, 0), put("ab", 64, 0, 0), put("ab", 2, 0, 0)))
        self.refused(build(put("ab", 0, 0, 0), "\n", put("ab", 2, 0, 0)))
        self.refused(build(put("ab", 0, 0, 0), put("xx", 1, 0, 0)))

    def test_256_and_257_lines(self):
        puts = [put("ab", number % 64, number // 64, 0) for number in range(257)]
        self.taken(build(*puts[:255]))
        self.taken(build(*puts[:256]))
        self.refused(build(*puts))

    def test_longest_build_text(self):
        # Every number and name as long as can be: far from the length that is refused.
        written = "build abcdefghijklmnop\n" + "".join(
            put("longname", 10 + number % 54, 10 + number // 54, 10, 0, 255) for number in range(256))
        self.assertEqual(can(CATALOGUE, text(written)), [1, 2, 0])

    def test_each_beginning_is_none_but_whole_rows(self):
        written = build(put("ab", 10, 0, 0, 3, 200), put("abc", 20, 0, 0))
        for length in range(len(written) + 1):
            if length > 0 and written[length - 1] == "\n":
                self.taken(written[:length])
            else:
                self.refused(written[:length])

    def test_bytes_too_many(self):
        for whole in (build(), build(put("ab", 0, 0, 0))):
            for more in (" ", "\n", "0", "p", "put", "put ab 1 1 1 1 1", "\r", "\0", "#"):
                self.refused(whole + more)

    def test_length(self):
        self.refused([10] * 16383)
        self.refused([10] * 16384)
        self.refused([10] * 16385, refusal=-2)
        self.refused([10] * 16400, refusal=-2)
        self.refused([120] * 16384)
        self.refused([120] * 16385, refusal=-2)

    def test_length_of_a_text_that_begins_right(self):
        begun = text(build(put("ab", 0, 0, 0)))
        self.refused(begun + [10] * (16384 - len(begun)))
        self.refused(begun + [10] * (16385 - len(begun)), refusal=-2)
        lines = text(build()) + text(put("ab", 0, 0, 0)) * 1200
        self.refused(lines[:16384])
        self.refused(lines[:16385], refusal=-2)


if __name__ == "__main__":
    unittest.main()
