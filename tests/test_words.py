"""The calls against the document's words, put down anew and without regard for time, on many small builds.

The builds come from a source of numbers that always begins the same, so each run sees the same ones.
"""

import itertools
import random
import unittest

from laystones.builds import judge
from tests.helper import (
    MOST, build, can_of, checks_of, instructions, make_of, off_of, order_of, over_of, page_of, part, put, right_of,
    text,
)

SHAPES = {
    "bent": ["#./##"],
    "clamp": ["##", "#.", "##"],
    "cube": ["#"],
    "hook": ["b#", ".#", "t#"],
    "long": ["t#t"],
    "plate": ["bb/b#"],
    "step": ["t#.", ".##"],
    "tall": ["t", "#", "s"],
    "wind": [".#/.#", "../##"],
}
CATALOGUE = "".join(part(name, *layers) for name, layers in SHAPES.items())
SMALL_ROOM = 3
# Above all that can be there: the highest shape begins at height 2 at most.
SMALL_ROOM_HEIGHT = 6


def cells_of(line):
    name, x, y, z, r = line
    layers = [layer.split("/") for layer in SHAPES[name]]
    width, depth = len(layers[0][0]), len(layers[0])
    cells = {}
    for cell_z, layer in enumerate(layers):
        for cell_y, row in enumerate(layer):
            for cell_x, sign in enumerate(row):
                if sign != ".":
                    # Turned 0 to 3 times, each written out from the words' one turn.
                    turned = [
                        (cell_x, cell_y), (cell_y, width - 1 - cell_x),
                        (width - 1 - cell_x, depth - 1 - cell_y), (depth - 1 - cell_y, cell_x),
                    ][r]
                    cells[(x + turned[0], y + turned[1], z + cell_z)] = sign
    return cells


def clash(first, second):
    if set(first) & set(second):
        return True
    for lower, upper in ((first, second), (second, first)):
        for (x, y, z), sign in lower.items():
            if sign in "sb" and upper.get((x, y, z + 1), "t") not in "tb":
                return True
    return False


def is_right(lines):
    return not any(clash(cells_of(i), cells_of(j)) for i, j in itertools.combinations(lines, 2))


def is_over(i, j):
    return any(
        above[:2] == below[:2] and above[2] > below[2] for above in cells_of(i) for below in cells_of(j)
    )


def lies_on(i, j):
    return any((x, y, z - 1) in cells_of(j) for x, y, z in cells_of(i))


def has_hold(number, lines):
    if any(z == 0 for x, y, z in cells_of(lines[number])):
        return True
    return any(lies_on(lines[number], line) for other, line in enumerate(lines) if other != number)


def over_pairs(lines):
    numbers = range(len(lines))
    return {(i, j) for i in numbers for j in numbers if i != j and is_over(lines[i], lines[j])}


def comes_back(start, pairs):
    reached = {j for i, j in pairs if i == start}
    while True:
        further = reached | {j for i, j in pairs if i in reached}
        if further == reached:
            return start in reached
        reached = further


def orders(count, pairs):
    for row in itertools.permutations(range(count)):
        if all(row.index(j) < row.index(i) for i, j in pairs):
            yield row


def expected_can(lines, pairs):
    for number in range(len(lines)):
        if comes_back(number, pairs):
            return [1, 1, number]
    for number in range(len(lines)):
        if not has_hold(number, lines):
            return [1, 2, number]
    return [0]


def expected_checks(row, count, pairs):
    for place, line in enumerate(row):
        before = row[:place]
        if line >= count or line in before or any(i == line and j not in before for i, j in pairs):
            return [1, place]
    return [0] if len(row) == count else [1, len(row)]


def expected_page(line, pairs):
    return max([1 + expected_page(j, pairs) for i, j in pairs if i == line], default=0)


def expected_off(line, pairs):
    found = {i for i, j in pairs if j == line}
    while not {i for i, j in pairs if j in found} <= found:
        found |= {i for i, j in pairs if j in found}
    return sorted(found)


def chains_over(line, pairs):
    """All chains over the line, each a row of lines; the empty one too."""
    longer = [[i] + chain for i, j in pairs if j == line for chain in chains_over(i, pairs)]
    return [[]] + longer


def expected_pages(K, count, pairs):
    """The pages made by K."""
    pages = []
    left = set(range(count))
    while left:
        ready = {line for line in left if not any(i == line and j in left for i, j in pairs)}
        chosen = set()
        while len(chosen) < K and ready - chosen:
            longest = max(len(chain) for line in ready - chosen for chain in chains_over(line, pairs))
            chosen.add(min(
                line for line in ready - chosen if longest in [len(chain) for chain in chains_over(line, pairs)]
            ))
        pages.append(sorted(chosen))
        left -= chosen
    return pages


def expected_wrong(K, pages, count, pairs):
    """What is wrong with the pages, as the words tell it: 0 alone if nothing is."""
    for number, lines in enumerate(pages):
        earlier = {line for page in pages[:number] for line in page}
        if len(lines) > K:
            return [1, 1, number, len(lines)]
        twice = [line for line in lines if line >= count or line in earlier]
        if twice:
            return [1, 2, number, min(twice)]
        early = [line for line in lines if any(i == line and j not in earlier for i, j in pairs)]
        if early:
            return [1, 3, number, min(early)]
    missing = set(range(count)) - {line for page in pages for line in page}
    return [1, 4, len(pages), min(missing)] if missing else [0]


def pages_in(signs):
    return [[int(word) for word in row.split(" ")[1:]] for row in bytes(signs).decode().splitlines()]


def all_pages(count):
    """All ways to put the lines into pages, each in one."""
    for many in range(1, count + 1):
        for chosen in itertools.product(range(many), repeat=count):
            if len(set(chosen)) == many:
                yield [[line for line in range(count) if chosen[line] == page] for page in range(many)]


def can_be_put_down(line, there):
    """Straight down from above, past what is there, onto the table or onto what is there."""
    filled = {cell for other in there for cell in cells_of(other)}
    for x, y, z in cells_of(line):
        if any((x, y, height) in filled for height in range(z, SMALL_ROOM_HEIGHT)):
            return False
    return any(z == 0 or (x, y, z - 1) in filled for x, y, z in cells_of(line))


def can_be_put_together(pages, lines):
    """Page after page and line after line: whichever line of a page one takes first."""
    there = []
    for page in pages:
        for row in itertools.permutations(page):
            for place, number in enumerate(row):
                if not can_be_put_down(lines[number], there + [lines[other] for other in row[:place]]):
                    return False
        there += [lines[number] for number in page]
    return True


def any_pages(source, count, pages):
    """Pages that are right, changed at one or two places, or not at all."""
    pages = [set(page) for page in pages]
    for change in range(source.randrange(3)):
        kind = source.randrange(5)
        if kind == 0:
            source.choice(pages).add(source.choice(list(range(count + 1)) + [255]))
        elif kind == 1:
            page = source.choice(pages)
            page.discard(source.choice(sorted(page) or [0]))
        elif kind == 2:
            pages.insert(source.randrange(len(pages) + 1), {source.randrange(count + 1)})
        elif kind == 3:
            place = source.randrange(len(pages))
            pages[place:place + 2] = pages[place:place + 2][::-1]
        else:
            place = source.randrange(len(pages))
            pages[place:place + 2] = [set().union(*pages[place:place + 2])]
    return [sorted(page) for page in pages if page] or [[0]]


def any_line(source):
    name = source.choice(sorted(SHAPES))
    return (name, source.randrange(SMALL_ROOM), source.randrange(SMALL_ROOM), source.choice((0, 0, 1, 2)), source.randrange(4))


def written(lines):
    return build(*[put(*line) for line in lines])


def some_right_lines(source, count):
    """Mostly by chance alone; but a ring is rare so, and at times the lines are begun with one."""
    lines = []
    if source.randrange(4) == 0:
        z = source.randrange(2)
        lines = [("clamp", 0, 0, z, 0), source.choice([("cube", 1, 0, z + 1, 0), ("bent", 1, 0, z + 1, 0)])]
    for attempt in range(count * 10):
        line = any_line(source)
        if len(lines) < count and is_right(lines + [line]):
            lines.append(line)
    source.shuffle(lines)
    return lines


def some_buildable_lines(source, count):
    """Told in any order, so that a line often comes ahead of those that it is over."""
    lines = []
    for attempt in range(count * 20):
        more = lines + [any_line(source)]
        if len(lines) < count and is_right(more) and expected_can(more, over_pairs(more)) == [0]:
            lines = more
    source.shuffle(lines)
    return lines


def any_row(source, count, row):
    """A row that is an order, changed at one or two places, or not at all."""
    row = list(row)
    for change in range(source.randrange(3)):
        place = source.randrange(len(row) + 1)
        kind = source.randrange(4)
        if kind == 0:
            row.insert(place, source.choice(list(range(count + 1)) + [MOST]))
        elif kind == 1:
            del row[place:place + 1]
        elif kind == 2:
            row[place:place + 1] = [source.randrange(count + 2)]
        else:
            row[place:place + 2] = row[place:place + 2][::-1]
    return row


class Words(unittest.TestCase):
    def test_right_or_not(self):
        source = random.Random(1)
        seen = {True: 0, False: 0}
        for attempt in range(1500):
            lines = [any_line(source) for number in range(source.randrange(2, 4))]
            right = is_right(lines)
            seen[right] += 1
            self.assertEqual(can_of(CATALOGUE, written(lines)) != [-9], right, lines)
        self.assertTrue(min(seen.values()) > 300, seen)

    def test_over_and_can(self):
        source = random.Random(2)
        seen = {0: 0, 1: 0, 2: 0}
        for attempt in range(500):
            lines = some_right_lines(source, source.randrange(8))
            pairs = over_pairs(lines)
            answer = can_of(CATALOGUE, written(lines))
            self.assertEqual(answer, expected_can(lines, pairs), lines)
            seen[answer[0] and answer[1]] += 1
            if attempt % 10 == 0:
                for i in range(len(lines)):
                    for j in range(len(lines)):
                        self.assertEqual(over_of(i, j, CATALOGUE, written(lines)), [int((i, j) in pairs)], lines)
        self.assertTrue(min(seen.values()) > 30, seen)

    def test_d1_can_just_if_there_is_an_order_and_each_has_a_hold(self):
        source = random.Random(3)
        seen = {}
        for attempt in range(400):
            lines = some_right_lines(source, source.randrange(7))
            pairs = over_pairs(lines)
            ordered = any(True for row in orders(len(lines), pairs))
            held = all(has_hold(number, lines) for number in range(len(lines)))
            seen[(ordered, held)] = seen.get((ordered, held), 0) + 1
            self.assertEqual(can_of(CATALOGUE, written(lines)) == [0], ordered and held, lines)
        self.assertEqual(len(seen), 4, seen)

    def test_the_other_calls_are_refused_just_if_it_cannot_be_built(self):
        source = random.Random(5)
        seen = {True: 0, False: 0}
        for attempt in range(300):
            lines = some_right_lines(source, source.randrange(7))
            hindered = expected_can(lines, over_pairs(lines)) != [0]
            seen[hindered] += 1
            told = (CATALOGUE, written(lines))
            answers = [order_of(*told), checks_of([], *told), make_of(1, *told), make_of(256, *told)]
            answers += [right_of(1, *told, [[0]]), right_of(256, *told, [[7], [7]])]
            answers += [ask(line, *told) for line in range(len(lines)) for ask in (page_of, off_of)]
            self.assertEqual([answer == [-3] for answer in answers], [hindered] * len(answers), lines)
            self.assertEqual([ask(len(lines), *told) for ask in (page_of, off_of)], [[-4], [-4]], lines)
        self.assertTrue(min(seen.values()) > 30, seen)


class Orders(unittest.TestCase):
    def test_d1_first_order_is_one_and_none_is_before_it(self):
        source = random.Random(4)
        seen = {}
        for attempt in range(250):
            lines = some_buildable_lines(source, source.randrange(7))
            found = list(orders(len(lines), over_pairs(lines)))
            answer = order_of(CATALOGUE, written(lines))
            self.assertEqual(answer, list(min(found)), lines)
            self.assertEqual(checks_of(answer, CATALOGUE, written(lines)), [0], lines)
            by_numbers = answer == sorted(answer)
            seen[by_numbers] = seen.get(by_numbers, 0) + 1
        self.assertTrue(min(seen[True], seen[False]) > 50, seen)

    def test_checks_of_all_rows_of_the_lines(self):
        source = random.Random(6)
        for attempt in range(30):
            lines = some_buildable_lines(source, source.randrange(2, 6))
            found = list(orders(len(lines), over_pairs(lines)))
            for row in itertools.permutations(range(len(lines))):
                answer = checks_of(list(row), CATALOGUE, written(lines))
                self.assertEqual(answer == [0], row in found, (lines, row))

    def test_checks_of_any_rows(self):
        source = random.Random(7)
        seen = {}
        for attempt in range(150):
            lines = some_buildable_lines(source, source.randrange(8))
            pairs = over_pairs(lines)
            first = order_of(CATALOGUE, written(lines))
            for change in range(10):
                row = any_row(source, len(lines), first)
                expected = expected_checks(row, len(lines), pairs)
                self.assertEqual(checks_of(row, CATALOGUE, written(lines)), expected, (lines, row))
                kind = "order" if expected == [0] else "missing" if expected[1] == len(row) else "wrong"
                seen[kind] = seen.get(kind, 0) + 1
        self.assertTrue(len(seen) == 3 and min(seen.values()) > 100, seen)

    def grown(self, beginning, lines):
        """The beginnings that are one line longer and still right, as checks tells it."""
        longer = [beginning + [line] for line in range(len(lines))]
        return [row for row in longer if checks_of(row, CATALOGUE, written(lines)) in ([0], [1, len(row)])]

    def all_orders_by_growing(self, lines):
        beginnings = [[]]
        for length in range(len(lines)):
            further = [self.grown(beginning, lines) for beginning in beginnings]
            self.assertTrue(all(further), "a right beginning that can't be ended")
            beginnings = [row for rows in further for row in rows]
        return beginnings

    def test_d2_an_order_begun_right_can_be_ended(self):
        source = random.Random(9)
        for attempt in range(25):
            lines = some_buildable_lines(source, source.randrange(6))
            ended = self.all_orders_by_growing(lines)
            for row in ended:
                self.assertEqual(checks_of(row, CATALOGUE, written(lines)), [0], (lines, row))
            self.assertEqual(ended, [list(row) for row in orders(len(lines), over_pairs(lines))], lines)

    def test_d4_in_each_beginning_each_line_has_its_hold(self):
        source = random.Random(10)
        lying = 0
        for attempt in range(60):
            lines = some_buildable_lines(source, source.randrange(1, 6))
            rows = [list(row) for row in itertools.permutations(range(len(lines)))]
            taken = [row for row in rows if checks_of(row, CATALOGUE, written(lines)) == [0]]
            for row in taken + [order_of(CATALOGUE, written(lines))]:
                for place, line in enumerate(row):
                    begun = [lines[number] for number in row[:place + 1]]
                    self.assertTrue(has_hold(place, begun), (lines, row))
                    lying += not any(z == 0 for x, y, z in cells_of(lines[line]))
        self.assertTrue(lying > 100, lying)


class PagesAndOff(unittest.TestCase):
    def test_page_and_off(self):
        source = random.Random(13)
        pages, lengths = {}, {}
        for attempt in range(150):
            lines = some_buildable_lines(source, source.randrange(9))
            pairs = over_pairs(lines)
            for line in range(len(lines)):
                page, off = expected_page(line, pairs), expected_off(line, pairs)
                self.assertEqual(page_of(line, CATALOGUE, written(lines)), [page], (lines, line))
                self.assertEqual(off_of(line, CATALOGUE, written(lines)), off, (lines, line))
                pages[page] = pages.get(page, 0) + 1
                lengths[len(off)] = lengths.get(len(off), 0) + 1
        self.assertTrue(len(pages) > 3 and len(lengths) > 3, (pages, lengths))

    def test_d5_page_and_off_tell_one_another(self):
        source = random.Random(15)
        seen = {True: 0, False: 0}
        for attempt in range(100):
            lines = some_buildable_lines(source, source.randrange(1, 7))
            numbers = range(len(lines))
            rows = list(orders(len(lines), over_pairs(lines)))
            pages = [page_of(line, CATALOGUE, written(lines))[0] for line in numbers]
            for i in numbers:
                off = off_of(i, CATALOGUE, written(lines))
                for j in numbers:
                    always = i != j and all(row.index(i) < row.index(j) for row in rows)
                    seen[always] += 1
                    self.assertEqual(j in off, always, (lines, i, j))
                    self.assertTrue(not always or pages[j] > pages[i], (lines, i, j))
        self.assertTrue(min(seen.values()) > 100, seen)

    def test_d5_taken_off_from_the_last_page_down(self):
        # Put in by rising pages, no line comes too early; taken off by falling ones, none either.
        source = random.Random(16)
        for attempt in range(100):
            lines = some_buildable_lines(source, source.randrange(9))
            numbers = range(len(lines))
            rising = sorted(numbers, key=lambda line: page_of(line, CATALOGUE, written(lines))[0])
            self.assertEqual(checks_of(rising, CATALOGUE, written(lines)), [0], lines)
            for place, line in enumerate(rising):
                off = off_of(line, CATALOGUE, written(lines))
                self.assertTrue(set(off) <= set(rising[place + 1:]), (lines, line))


class Made(unittest.TestCase):
    def test_made_as_the_words_say(self):
        source = random.Random(18)
        crowded = 0
        for attempt in range(200):
            lines = some_buildable_lines(source, source.randrange(10))
            pairs = over_pairs(lines)
            for K in (1, 2, 3, 4, 255, 256):
                pages = expected_pages(K, len(lines), pairs)
                expected = text(instructions(*pages))
                answer = make_of(K, CATALOGUE, written(lines))
                self.assertEqual(answer, [len(expected)] + expected, (lines, K))
                crowded += pages != expected_pages(256, len(lines), pairs)
        self.assertTrue(crowded > 200, crowded)

    def test_d3_made_by_k_is_right(self):
        source = random.Random(20)
        for attempt in range(150):
            lines = some_buildable_lines(source, source.randrange(1, 10))
            for K in (1, 2, 3, 4, 255, 256):
                count, *signs = make_of(K, CATALOGUE, written(lines))
                self.assertEqual(len(signs), count)
                pages = pages_in(signs)
                self.assertEqual(judge(signs), [len(pages)], lines)
                self.assertEqual(expected_wrong(K, pages, len(lines), over_pairs(lines)), [0], (lines, K))
                self.assertEqual(right_of(K, CATALOGUE, written(lines), pages), [0], (lines, K))

    def test_d3_by_256_each_line_is_on_its_page(self):
        source = random.Random(21)
        longest = {}
        for attempt in range(150):
            lines = some_buildable_lines(source, source.randrange(1, 9))
            pages = pages_in(make_of(256, CATALOGUE, written(lines))[1:])
            told = [page_of(line, CATALOGUE, written(lines)) for line in range(len(lines))]
            found = [[number for number, page in enumerate(pages) if line in page] for line in range(len(lines))]
            self.assertEqual(found, told, lines)
            pairs = over_pairs(lines)
            chains = [len(chain) + 1 for line in range(len(lines)) for chain in chains_over(line, pairs)]
            self.assertEqual(len(pages), max(chains), lines)
            longest[len(pages)] = longest.get(len(pages), 0) + 1
        self.assertTrue(len(longest) > 3, longest)

    def test_d3_none_that_are_right_have_fewer_pages(self):
        source = random.Random(22)
        seen = {}
        for attempt in range(25):
            lines = some_buildable_lines(source, source.randrange(1, 5))
            made, = judge(make_of(256, CATALOGUE, written(lines))[1:])
            least = {}
            for pages in all_pages(len(lines)):
                for K in range(1, len(lines) + 1):
                    if right_of(K, CATALOGUE, written(lines), pages) == [0]:
                        least[K] = min(least.get(K, 256), len(pages))
            self.assertEqual(min(least.values()), made, lines)
            seen[(len(lines), made)] = seen.get((len(lines), made), 0) + 1
        self.assertTrue(len(seen) > 5, seen)


class Right(unittest.TestCase):
    def test_right_as_the_words_say(self):
        source = random.Random(23)
        seen = {}
        for attempt in range(200):
            lines = some_buildable_lines(source, source.randrange(1, 9))
            pairs = over_pairs(lines)
            for change in range(12):
                K = source.choice((1, 2, 3, 256))
                pages = any_pages(source, len(lines), expected_pages(K, len(lines), pairs))
                expected = expected_wrong(K, pages, len(lines), pairs)
                self.assertEqual(right_of(K, CATALOGUE, written(lines), pages), expected, (lines, K, pages))
                seen[expected[0] and expected[1]] = seen.get(expected[0] and expected[1], 0) + 1
        self.assertTrue(len(seen) == 5 and min(seen.values()) > 50, seen)

    def test_main_right_just_if_each_part_can_be_put_straight_down(self):
        source = random.Random(24)
        seen = {True: 0, False: 0}
        for attempt in range(25):
            lines = some_buildable_lines(source, source.randrange(1, 5))
            for pages in all_pages(len(lines)):
                together = can_be_put_together(pages, lines)
                seen[together] += 1
                for K in range(1, len(lines) + 1):
                    expected = together and max(len(page) for page in pages) <= K
                    answer = right_of(K, CATALOGUE, written(lines), pages)
                    self.assertEqual(answer == [0], expected, (lines, K, pages))
        self.assertTrue(min(seen.values()) > 100, seen)

    def test_main_each_line_in_one_page(self):
        source = random.Random(25)
        seen = {True: 0, False: 0}
        for attempt in range(200):
            lines = some_buildable_lines(source, source.randrange(1, 6))
            K = source.choice((1, 2, 256))
            pages = any_pages(source, len(lines), expected_pages(K, len(lines), over_pairs(lines)))
            each_once = sorted(line for page in pages for line in page) == list(range(len(lines)))
            short = max(len(page) for page in pages) <= K
            expected = each_once and short and can_be_put_together(pages, lines)
            seen[expected] += 1
            answer = right_of(K, CATALOGUE, written(lines), pages)
            self.assertEqual(answer == [0], expected, (lines, K, pages))
        self.assertTrue(min(seen.values()) > 30, seen)

    def test_main_what_cannot_be_built_cannot_be_put_together(self):
        source = random.Random(26)
        hindered = 0
        for attempt in range(150):
            lines = some_right_lines(source, source.randrange(1, 5))
            together = any(can_be_put_together(pages, lines) for pages in all_pages(len(lines)))
            self.assertEqual(make_of(256, CATALOGUE, written(lines)) != [-3], together, lines)
            hindered += not together
        self.assertTrue(30 < hindered < 120, hindered)


if __name__ == "__main__":
    unittest.main()
