"""The calls against the document's words, put down anew and without regard for time, on many small builds.

The builds come from a source of numbers that always begins the same, so each run sees the same ones.
"""

import itertools
import random
import unittest

from tests.helper import build, can_of, over_of, part, put

SHAPES = {
    "bent": ["#./##"],
    "clamp": ["##", "#.", "##"],
    "cube": ["#"],
    "hook": ["b#", ".#", "t#"],
    "long": ["t#t"],
    "plate": ["bb/b#"],
    "step": ["t#.", ".##"],
    "tall": ["t", "#", "s"],
    "wind": [".#/.#", "../##"],
}
CATALOGUE = "".join(part(name, *layers) for name, layers in SHAPES.items())
SMALL_ROOM = 3


def cells_of(line):
    name, x, y, z, r = line
    layers = [layer.split("/") for layer in SHAPES[name]]
    width, depth = len(layers[0][0]), len(layers[0])
    cells = {}
    for cell_z, layer in enumerate(layers):
        for cell_y, row in enumerate(layer):
            for cell_x, sign in enumerate(row):
                if sign != ".":
                    # Turned 0 to 3 times, each written out from the words' one turn.
                    turned = [
                        (cell_x, cell_y), (cell_y, width - 1 - cell_x),
                        (width - 1 - cell_x, depth - 1 - cell_y), (depth - 1 - cell_y, cell_x),
                    ][r]
                    cells[(x + turned[0], y + turned[1], z + cell_z)] = sign
    return cells


def clash(first, second):
    if set(first) & set(second):
        return True
    for lower, upper in ((first, second), (second, first)):
        for (x, y, z), sign in lower.items():
            if sign in "sb" and upper.get((x, y, z + 1), "t") not in "tb":
                return True
    return False


def is_right(lines):
    return not any(clash(cells_of(i), cells_of(j)) for i, j in itertools.combinations(lines, 2))


def is_over(i, j):
    return any(
        above[:2] == below[:2] and above[2] > below[2] for above in cells_of(i) for below in cells_of(j)
    )


def lies_on(i, j):
    return any((x, y, z - 1) in cells_of(j) for x, y, z in cells_of(i))


def has_hold(number, lines):
    if any(z == 0 for x, y, z in cells_of(lines[number])):
        return True
    return any(lies_on(lines[number], line) for other, line in enumerate(lines) if other != number)


def over_pairs(lines):
    numbers = range(len(lines))
    return {(i, j) for i in numbers for j in numbers if i != j and is_over(lines[i], lines[j])}


def comes_back(start, pairs):
    reached = {j for i, j in pairs if i == start}
    while True:
        further = reached | {j for i, j in pairs if i in reached}
        if further == reached:
            return start in reached
        reached = further


def orders(count, pairs):
    for row in itertools.permutations(range(count)):
        if all(row.index(j) < row.index(i) for i, j in pairs):
            yield row


def expected_can(lines, pairs):
    for number in range(len(lines)):
        if comes_back(number, pairs):
            return [1, 1, number]
    for number in range(len(lines)):
        if not has_hold(number, lines):
            return [1, 2, number]
    return [0]


def any_line(source):
    name = source.choice(sorted(SHAPES))
    return (name, source.randrange(SMALL_ROOM), source.randrange(SMALL_ROOM), source.choice((0, 0, 1, 2)), source.randrange(4))


def written(lines):
    return build(*[put(*line) for line in lines])


def some_right_lines(source, count):
    """Mostly by chance alone; but a ring is rare so, and at times the lines are begun with one."""
    lines = []
    if source.randrange(4) == 0:
        z = source.randrange(2)
        lines = [("clamp", 0, 0, z, 0), source.choice([("cube", 1, 0, z + 1, 0), ("bent", 1, 0, z + 1, 0)])]
    for attempt in range(count * 10):
        line = any_line(source)
        if len(lines) < count and is_right(lines + [line]):
            lines.append(line)
    source.shuffle(lines)
    return lines


class Words(unittest.TestCase):
    def test_right_or_not(self):
        source = random.Random(1)
        seen = {True: 0, False: 0}
        for attempt in range(1500):
            lines = [any_line(source) for number in range(source.randrange(2, 4))]
            right = is_right(lines)
            seen[right] += 1
            self.assertEqual(can_of(CATALOGUE, written(lines)) != [-9], right, lines)
        self.assertTrue(min(seen.values()) > 300, seen)

    def test_over_and_can(self):
        source = random.Random(2)
        seen = {0: 0, 1: 0, 2: 0}
        for attempt in range(500):
            lines = some_right_lines(source, source.randrange(8))
            pairs = over_pairs(lines)
            answer = can_of(CATALOGUE, written(lines))
            self.assertEqual(answer, expected_can(lines, pairs), lines)
            seen[answer[0] and answer[1]] += 1
            if attempt % 10 == 0:
                for i in range(len(lines)):
                    for j in range(len(lines)):
                        self.assertEqual(over_of(i, j, CATALOGUE, written(lines)), [int((i, j) in pairs)], lines)
        self.assertTrue(min(seen.values()) > 30, seen)

    def test_d1_can_just_if_there_is_an_order_and_each_has_a_hold(self):
        source = random.Random(3)
        seen = {}
        for attempt in range(400):
            lines = some_right_lines(source, source.randrange(7))
            pairs = over_pairs(lines)
            ordered = any(True for row in orders(len(lines), pairs))
            held = all(has_hold(number, lines) for number in range(len(lines)))
            seen[(ordered, held)] = seen.get((ordered, held), 0) + 1
            self.assertEqual(can_of(CATALOGUE, written(lines)) == [0], ordered and held, lines)
        self.assertEqual(len(seen), 4, seen)


if __name__ == "__main__":
    unittest.main()
