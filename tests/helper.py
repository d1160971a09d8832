"""What the tests share: charts written short, and the document's words taken one by one."""

from itertools import product
from math import gcd

DOC_CHARTS = ["ab/ba/", "aab/", "aabc/", "ab/cd/", "abc/bca/cab/", "ab/"]

# Quarter turns and no mirrors: the knots b lie where y is 2x.
PINWHEEL = "baaaa/aaaba/abaaa/aaaab/aabaa/"

# Steps (2, 2): each second row but one is pushed on by two.
PUSHED_ON = "aabb/abbb/bbaa/bbab/"
# Steps (2, 1), p 6: each row is pushed on by two.
BY_TWO = "aaabbc/bcaaab/abbcaa/"
# Steps (3, 1) and none (0, 1), p 5.
BY_THREE = "abcde/cdeab/eabcd/bcdea/deabc/"
# No steps but those by the width and by the height.
WITHOUT_STEPS = ["abcd/efgh/ijkl/", "ab/cd/", "ab/aa/", "aaa/aba/", "aab/", "a/a/b/", "aa/ab/aa/"]

REFUSED_TEXTS = [
    (-6, "the empty text", []),
    (-6, "no byte 10 at the end", list(b"ab\nba")),
    (-6, "one knot and no byte 10", list(b"a")),
    (-6, "a row of no knots alone", [10]),
    (-6, "a row of no knots first", list(b"\nab\n")),
    (-6, "a row of no knots between", list(b"ab\n\nab\n")),
    (-6, "a row of no knots last", list(b"ab\n\n")),
    (-6, "600 rows of no knots", [10] * 600),
    (-6, "a shorter second row", list(b"ab\na\n")),
    (-6, "a longer second row", list(b"ab\nabc\n")),
    (-6, "a blank", list(b"a b\n")),
    (-6, "a byte 13", list(b"ab\r\n")),
    (-6, "a byte 0", [97, 0, 10]),
    (-6, "a byte 255", [97, 255, 10]),
    (-6, "no colour in the last row", list(b"ab\nb-\n")),
    (-6, "513 wide", [97] * 513 + [10]),
    (-6, "599 wide", [97] * 599 + [10]),
    (-2, "66,049 bytes, 512 wide", ([97] * 512 + [10]) * 128 + [97] * 384 + [10]),
    (-2, "66,049 bytes, 1 wide, no byte 10 at the end", [97, 10] * 33024 + [97]),
    (-2, "66,049 bytes that are no colours", [0] * 66049),
    (-2, "66,100 bytes, 1 wide", [97, 10] * 33050),
]

COLOURS = b"abcdefghijklmnopqrstuvwxyzABCDEFGHIJKLMNOPQRSTUVWXYZ0123456789"


def text(written):
    """Give the bytes of a chart written with / for byte 10."""
    return list(written.replace("/", "\n").encode())


def repeated(written, across, down):
    """Give the chart set beside itself and below itself that many times."""
    return "".join(row * across + "/" for row in written.split("/")[:-1]) * down


def in_ring(written, right, down):
    """Give the chart with its knots moved on in a ring."""
    rows = written.split("/")[:-1]
    width, height = len(rows[0]), len(rows)
    return "".join("".join(rows[(y - down) % height][(x - right) % width] for x in range(width)) + "/"
                   for y in range(height))


def coloured_anew(written, on):
    """Give the chart with each colour changed for that which stands so many further on, in a ring."""
    return "".join(knot if knot == "/" else chr(COLOURS[(COLOURS.index(ord(knot)) + on) % 62]) for knot in written)


def drawn(width, height, motions):
    """Give a chart as colourful as can be that has these motions (m, a, b).

    With m odd it's to be as high as it is wide.
    """
    colours = {}
    for y, x in product(range(height), range(width)):
        if (x, y) in colours:
            continue
        colour = chr(COLOURS[len(set(colours.values()))])
        open_places = [(x, y)]
        while open_places:
            place = open_places.pop()
            colours[place] = colour
            for m, a, b in motions:
                moved = turn(m, *place)
                moved = ((moved[0] + a) % width, (moved[1] + b) % height)
                if moved not in colours:
                    open_places.append(moved)
    return "".join("".join(colours[x, y] for x in range(width)) + "/" for y in range(height))


def turn(m, x, y):
    return [(x, y), (-y, x), (-x, -y), (y, -x), (-x, y), (-y, -x), (x, -y), (y, x)][m]


def is_symmetry(written, m, a, b):
    """Look at every place of a square after which field and turned field repeat."""
    rows = written.split("/")[:-1]
    width, height = len(rows[0]), len(rows)
    side = width * height // gcd(width, height)
    for place in product(range(side), repeat=2):
        x, y = turn(m, *place)
        if rows[(y + b) % height][(x + a) % width] != rows[place[1] % height][place[0] % width]:
            return False
    return True


def told(written):
    """Give all (m, a, b) that are told, by the document's words alone."""
    rows = written.split("/")[:-1]
    return [(m, a, b) for m in range(8) for b in range(len(rows)) for a in range(len(rows[0]))
            if is_symmetry(written, m, a, b)]


def is_step(written, a, b):
    """Look at every knot of the chart and at that which lies (a, b) further on in the field."""
    rows = written.split("/")[:-1]
    width, height = len(rows[0]), len(rows)
    return all(rows[(y + b) % height][(x + a) % width] == rows[y][x]
               for y in range(height) for x in range(width))


def least_repeat(written):
    """Give p, q and r by the document's words alone."""
    width, height = written.index("/"), written.count("/")
    p = min(p for p in range(1, width + 1) if is_step(written, p, 0))
    r = min(r for r in range(1, height + 1) if any(is_step(written, a, r) for a in range(width)))
    q = min(a for a in range(width) if is_step(written, a, r))
    return p, q, r


def small_charts():
    """Give every chart of two colours with at most 6 knots, and some of 8."""
    for width, height in product(range(1, 7), repeat=2):
        if width * height <= 6:
            for knots in product("ab", repeat=width * height):
                rows = ["".join(knots[y * width:(y + 1) * width]) for y in range(height)]
                yield "".join(row + "/" for row in rows)
    yield from ["abab/baba/", "ab/ba/ab/ba/", "aabb/bbaa/", "ab/bb/ab/bb/", "abab/bbbb/"]


class Watched(list):
    """A list that fails the test when anything is changed in it."""

    def refuse(self, *rest, **named):
        raise AssertionError("what was handed in was changed")

    append = extend = insert = pop = remove = clear = reverse = sort = refuse
    __setitem__ = __delitem__ = __iadd__ = __imul__ = refuse
