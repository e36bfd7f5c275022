"""A part: its cells, whether it is right, and how it is turned."""

NO_CELL = 46
PLAIN_CELL = 35
STUD_CELL = 115
TUBE_CELL = 116
BOTH_CELL = 98


class Part:
    """Its cells are a dict: from (x, y, z) to the sign that stands for the cell in a text."""

    def __init__(self, name, width, depth, height, cells):
        self.name = name
        self.width = width
        self.depth = depth
        self.height = height
        self.cells = cells


def is_place_sign(sign):
    return sign in (NO_CELL, PLAIN_CELL, STUD_CELL, TUBE_CELL, BOTH_CELL)


def has_stud(sign):
    return sign in (STUD_CELL, BOTH_CELL)


def has_tube(sign):
    return sign in (TUBE_CELL, BOTH_CELL)


def moved(place, x, y, z):
    return (place[0] + x, place[1] + y, place[2] + z)


def place_above(place):
    return moved(place, 0, 0, 1)


def place_below(place):
    return moved(place, 0, 0, -1)


def places_beside(place):
    return [moved(place, -1, 0, 0), moved(place, 1, 0, 0), moved(place, 0, -1, 0), moved(place, 0, 1, 0)]


def studs_are_free(part):
    for place, sign in part.cells.items():
        if has_stud(sign) and place_above(place) in part.cells:
            return False
    return True


def tubes_are_free(part):
    for place, sign in part.cells.items():
        if has_tube(sign) and place_below(place) in part.cells:
            return False
    return True


def reaches_its_sides(part):
    for axis, size in enumerate([part.width, part.depth, part.height]):
        taken = [place[axis] for place in part.cells]
        if 0 not in taken or size - 1 not in taken:
            return False
    return True


def hangs_together(part):
    if len(part.cells) == 0:
        return False
    start = list(part.cells)[0]
    reached = {start: True}
    waiting = [start]
    while len(waiting) > 0:
        place = waiting.pop()
        for near in places_beside(place) + [place_above(place), place_below(place)]:
            if near in part.cells and near not in reached:
                reached[near] = True
                waiting.append(near)
    return len(reached) == len(part.cells)


def is_right_part(part):
    return (
        studs_are_free(part)
        and tubes_are_free(part)
        and reaches_its_sides(part)
        and hangs_together(part)
    )


def turned_once(part):
    cells = {}
    for place, sign in part.cells.items():
        cells[(place[1], part.width - 1 - place[0], place[2])] = sign
    return Part(part.name, part.depth, part.width, part.height, cells)


def turned(part, turns):
    result = part
    for turn in range(turns):
        result = turned_once(result)
    return result
