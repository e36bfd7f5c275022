"""Small makers of texts, shared by the tests."""

from laystones.builds import can, checks, judge, make, off, order, over, page, right


def text(letters):
    """The bytes of a text, as the program takes them."""
    return list(letters.encode("ascii"))


def part(name, *layers, weight=1):
    """A part's text; a layer is its rows with a stroke between them, the lowest layer first."""
    rows = [layer.split("/") for layer in layers]
    head = f"part {name} {len(rows[0][0])} {len(rows[0])} {len(rows)} {weight}\n"
    return head + "".join(row + "\n" for layer in rows for row in layer)


def put(name, x, y, z, r=0, colour=0):
    return f"put {name} {colour} {x} {y} {z} {r}\n"


def build(*puts):
    return "build house\n" + "".join(puts)


def instructions(*pages):
    return "".join("page" + "".join(f" {line}" for line in lines) + "\n" for lines in pages)


def can_of(catalogue, written_build):
    return can(text(catalogue), text(written_build))


def over_of(i, j, catalogue, written_build):
    return over(i, j, text(catalogue), text(written_build))


def order_of(catalogue, written_build):
    return order(text(catalogue), text(written_build))


def checks_of(row, catalogue, written_build):
    return checks(text(catalogue), text(written_build), row)


def page_of(i, catalogue, written_build):
    return page(i, text(catalogue), text(written_build))


def off_of(i, catalogue, written_build):
    return off(i, text(catalogue), text(written_build))


def make_of(K, catalogue, written_build):
    return make(K, text(catalogue), text(written_build))


def judge_of(letters):
    return judge(text(letters))


def right_of(K, catalogue, written_build, pages):
    return right(K, text(catalogue), text(written_build), text(instructions(*pages)))


def stack(x, height):
    """One cube above another."""
    return [put("cube", x, 0, z) for z in range(height)]


def snake_puts():
    """256 steps, two layers high, each with its higher end over the lower end of the next one."""
    puts = []
    for y in range(0, 16, 4):
        puts += [put("step", x, y, 0, 0) for x in range(0, 62, 2)] + [put("step", 62, y, 0, 3)]
        puts += [put("step", x, y + 2, 0, 2) for x in range(60, -1, -2)] + [put("step", 0, y + 2, 0, 3)]
    return puts


MOST = 18446744073709551615

# Their names rise, as a right catalogue's do.
BENT = part("bent", "#./##")
CLAMP = part("clamp", "##", "#.", "##")
CUBE = part("cube", "#")
GATE = part("gate", "#.#", "###")
LONG = part("long", "###")
STEP = part("step", "##.", ".##")
STUD = part("stud", "s")
TUBE = part("tube", "t")
WIDE = part("wide", "..#/..#/..#", "#../###/..#")
WIND = part("wind", ".#/.#", "../##")
WINE = part("wine", "../##", "#./#.")
PARTS = BENT + CLAMP + CUBE + GATE + LONG + STEP + STUD + TUBE + WIDE + WIND + WINE
