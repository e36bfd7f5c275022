"""A catalogue's text: what is one, and what is refused by -6."""

import unittest

from laystones.builds import can, over
from tests.helper import build, part, text

EMPTY_BUILD = text(build())


class CatalogueText(unittest.TestCase):
    def taken(self, catalogue):
        self.assertEqual(can(text(catalogue), EMPTY_BUILD), [0], catalogue)

    def refused(self, catalogue):
        signs = catalogue if isinstance(catalogue, list) else text(catalogue)
        self.assertEqual(can(signs, EMPTY_BUILD), [-6], catalogue)
        self.assertEqual(over(0, 0, signs, EMPTY_BUILD), [-6], catalogue)

    def test_names(self):
        for name in ("a", "z", "a0", "z9", "abcdefgh", "a1234567", "aaaaaaaa"):
            self.taken(part(name, "#"))
        for name in ("", "abcdefghi", "abcdefghijklmnop", "1", "1a", "0abc", "A", "aB", "a_b", "a-b", "a.b"):
            self.refused(part(name, "#"))

    def test_name_with_bytes_beside_the_letters_and_digits(self):
        for byte in (0, 9, 11, 13, 31, 33, 47, 58, 64, 65, 90, 96, 123, 127, 128, 225, 255):
            self.refused(text("part a") + [byte] + text(" 1 1 1 1\n#\n"))
            self.refused(text("part ") + [byte] + text("a 1 1 1 1\n#\n"))

    def test_no_name(self):
        self.refused("part 1 1 1 1\n#\n")
        self.refused("part  1 1 1 1\n#\n")

    def test_name_with_a_blank(self):
        self.refused("part a b 1 1 1 1\n#\n")

    def test_width(self):
        for width in (1, 2, 9, 10, 16):
            self.taken(f"part a {width} 1 1 1\n" + "#" * width + "\n")
        for width in (0, 17, 18, 99, 100, 10000):
            self.refused(f"part a {width} 1 1 1\n" + "#" * width + "\n")

    def test_depth(self):
        for depth in (1, 2, 9, 10, 16):
            self.taken(f"part a 1 {depth} 1 1\n" + "#\n" * depth)
        for depth in (0, 17, 18, 99, 100, 10000):
            self.refused(f"part a 1 {depth} 1 1\n" + "#\n" * depth)

    def test_height(self):
        for height in (1, 2, 9, 10, 16, 17, 18):
            self.taken(f"part a 1 1 {height} 1\n" + "#\n" * height)
        for height in (0, 19, 20, 99, 100, 10000):
            self.refused(f"part a 1 1 {height} 1\n" + "#\n" * height)

    def test_weight(self):
        for weight in (1, 9, 10, 100, 1000, 9999):
            self.taken(f"part a 1 1 1 {weight}\n#\n")
        for weight in (0, 10000, 99999, 10 ** 50):
            self.refused(f"part a 1 1 1 {weight}\n#\n")

    def test_number_as_long_as_the_text(self):
        self.refused("part a 1 1 1 1" + "0" * 99000 + "\n#\n")
        self.refused("part a 1 1 1 " + "0" * 99000 + "1\n#\n")

    def test_how_numbers_are_written(self):
        for wrong in ("01", "001", "00", "", "+1", "-1", "1.", "1a", "a1", "x", "#", "0x1", "1/", "1:", "/", ":"):
            for place in range(4):
                numbers = ["1", "1", "1", "1"]
                numbers[place] = wrong
                self.refused("part a " + " ".join(numbers) + "\n#\n")

    def test_needless_noughts_of_greater_numbers(self):
        self.taken("part a 10 1 1 1\n" + "#" * 10 + "\n")
        self.refused("part a 010 1 1 1\n" + "#" * 10 + "\n")
        self.refused("part a 1 016 1 1\n" + "#\n" * 16)
        self.refused("part a 1 1 018 1\n" + "#\n" * 18)
        self.refused("part a 1 1 1 0100\n#\n")
        self.refused("part a 1 1 1 09999\n#\n")

    def test_width_is_not_depth_is_not_height(self):
        self.taken("part a 3 2 1 1\n###\n###\n")
        self.taken("part a 1 2 3 1\n" + "#\n" * 6)
        self.refused("part a 2 3 1 1\n###\n###\n")
        self.refused("part a 3 1 2 1\n##\n##\n##\n")

    def test_words_of_the_head(self):
        for head in ("Part a 1 1 1 1", "par a 1 1 1 1", "parts a 1 1 1 1", "put a 1 1 1 1", " a 1 1 1 1", "a 1 1 1 1",
                     " part a 1 1 1 1", "part a 1 1 1 1 ", "part a 1 1 1", "part a 1 1 1 1 1", "part a 1  1 1 1",
                     "part  a 1 1 1 1", "parta 1 1 1 1", "part\ta 1 1 1 1", "part a 1 1 1 1\r", "part", "part ",
                     "part a", "part a ", ""):
            self.refused(head + "\n#\n")

    def test_signs_of_places(self):
        for places in ("#", "s", "t", "b"):
            self.taken(part("a", places))
        self.taken(part("a", "#stb.#/######"))
        for byte in range(256):
            if byte not in b"\n.#stb":
                self.refused(text("part a 1 1 1 1\n") + [byte] + text("\n"))
                self.refused(text("part a 2 1 1 1\n#") + [byte] + text("\n"))

    def test_place_too_few_or_too_many(self):
        self.refused("part a 2 1 1 1\n#\n")
        self.refused("part a 2 1 1 1\n###\n")
        self.refused("part a 2 2 1 1\n##\n#\n")
        self.refused("part a 2 2 1 1\n##\n###\n")
        self.refused("part a 2 2 1 1\n###\n#\n")
        self.refused("part a 1 1 1 1\n\n")

    def test_row_too_few_or_too_many(self):
        self.refused("part a 2 3 1 1\n##\n##\n")
        self.taken("part a 2 3 1 1\n##\n##\n##\n")
        self.refused("part a 2 3 1 1\n##\n##\n##\n##\n")
        self.refused("part a 1 2 1 1\n#\npart b 1 1 1 1\n#\n")
        self.refused("part a 1 1 1 1\n#\n#\npart b 1 1 1 1\n#\n")

    def test_layer_too_few_or_too_many(self):
        self.refused("part a 2 2 2 1\n##\n##\n")
        self.refused("part a 2 2 2 1\n##\n##\n##\n")
        self.taken("part a 2 2 2 1\n##\n##\n##\n##\n")
        self.refused("part a 2 2 2 1\n##\n##\n##\n##\n##\n##\n")

    def test_no_empty_rows(self):
        self.refused("part a 1 1 2 1\n#\n\n#\n")
        self.refused("\npart a 1 1 1 1\n#\n")
        self.refused("part a 1 1 1 1\n#\n\n")
        self.refused("part a 1 1 1 1\n\n#\n")
        self.refused("part a 1 1 1 1\n#\n\npart b 1 1 1 1\n#\n")

    def test_how_many_parts(self):
        parts = [part(f"p{number}", "#") for number in range(10, 75)]
        self.assertEqual(len(parts), 65)
        self.refused("")
        self.taken("".join(parts[:1]))
        self.taken("".join(parts[:63]))
        self.taken("".join(parts[:64]))
        self.refused("".join(parts))

    def test_empty_rows_alone(self):
        self.refused("\n")
        self.refused("\n\n")
        self.refused(" ")

    def test_each_beginning_is_none_but_whole_parts(self):
        first = part("a", "#./##", "#./#s")
        whole = first + part("b", "tt#", weight=120)
        for length in range(len(whole) + 1):
            if length in (len(first), len(whole)):
                self.taken(whole[:length])
            else:
                self.refused(whole[:length])

    def test_bytes_too_many(self):
        whole = part("a", "#")
        for more in (" ", "#", ".", "\n", "p", "part", "part b", "part b 1 1 1 1\n", "\r", "\0"):
            self.refused(whole + more)

    def test_fault_in_a_later_part(self):
        self.refused(part("a", "#") + "part b 1 1 1 0\n#\n" + part("c", "#"))

    def test_longest_text(self):
        # Of the most bytes that are handed in, and hardly a part's.
        self.refused([10] * 100000)
        self.refused([32] * 100000)
        self.refused([35] * 100000)
        self.refused(text("part a 1 1 1 1\n#\n") * 5882 + text("part a"))

    def test_greatest_part(self):
        layer = "/".join(["#" * 16] * 16)
        self.taken(part("a", *[layer] * 18, weight=9999))

    def test_nearly_100000_bytes(self):
        layer = "/".join(["#" * 16] * 16)
        parts = [part(f"p{number}", *[layer] * 18) for number in range(10, 30)]
        whole = "".join(parts)
        self.assertTrue(95000 < len(whole) <= 100000)
        self.taken(whole)


if __name__ == "__main__":
    unittest.main()
