"""The room with a build's lines in it, and whether the build is right."""

from laystones.lines import ROOM_DEPTH, ROOM_HEIGHT, ROOM_WIDTH
from laystones.parts import has_stud, has_tube, moved, place_above, turned


def is_in_room(line, part):
    return (
        line.x + part.width <= ROOM_WIDTH
        and line.y + part.depth <= ROOM_DEPTH
        and line.z + part.height <= ROOM_HEIGHT
    )


def cells_in_room(line, part):
    cells = {}
    for place, sign in part.cells.items():
        cells[moved(place, line.x, line.y, line.z)] = sign
    return cells


def studs_meet_tubes(cells):
    # A right part has no cell of its own above its studs, so what is above one is another line's.
    for place, sign in cells.items():
        if has_stud(sign):
            above = cells.get(place_above(place))
            if above is not None and not has_tube(above):
                return False
    return True


def owners_of_places(lines):
    """From each place with a cell to the line whose cell it is; None if the build isn't right."""
    owners = {}
    taken = {}
    for number, line in enumerate(lines):
        part = turned(line.part, line.turns)
        if not is_in_room(line, part):
            return None
        for place, sign in cells_in_room(line, part).items():
            if place in owners:
                return None
            owners[place] = number
            taken[place] = sign
    if not studs_meet_tubes(taken):
        return None
    return owners
