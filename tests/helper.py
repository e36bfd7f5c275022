"""Small makers of texts, shared by the tests."""

from laystones.builds import can, over


def text(letters):
    """The bytes of a text, as the program takes them."""
    return list(letters.encode("ascii"))


def part(name, *layers, weight=1):
    """A part's text; a layer is its rows with a stroke between them, the lowest layer first."""
    rows = [layer.split("/") for layer in layers]
    head = f"part {name} {len(rows[0][0])} {len(rows[0])} {len(rows)} {weight}\n"
    return head + "".join(row + "\n" for layer in rows for row in layer)


def put(name, x, y, z, r=0, colour=0):
    return f"put {name} {colour} {x} {y} {z} {r}\n"


def build(*puts):
    return "build house\n" + "".join(puts)


def can_of(catalogue, written_build):
    return can(text(catalogue), text(written_build))


def over_of(i, j, catalogue, written_build):
    return over(i, j, text(catalogue), text(written_build))


# Their names rise, as a right catalogue's do.
BENT = part("bent", "#./##")
CLAMP = part("clamp", "##", "#.", "##")
CUBE = part("cube", "#")
GATE = part("gate", "#.#", "###")
LONG = part("long", "###")
STEP = part("step", "##.", ".##")
STUD = part("stud", "s")
TUBE = part("tube", "t")
WIDE = part("wide", "..#/..#/..#", "#../###/..#")
WIND = part("wind", ".#/.#", "../##")
WINE = part("wine", "../##", "#./#.")
PARTS = BENT + CLAMP + CUBE + GATE + LONG + STEP + STUD + TUBE + WIDE + WIND + WINE
