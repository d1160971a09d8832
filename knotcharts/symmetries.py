"""The symmetries of the field that a chart gives when it is repeated without end.

Each call of the interface answers a list of whole numbers; one number below 0
alone is a refusal.
"""

LONGEST_TEXT = 66048
MOST_KNOTS = 65536
WIDEST = 512
HIGHEST = 512
ROW_END = 10
LAST_TURN = 7
FIRST_MIRRORED = 4
BORDER_TURNS = (0, 2, 4, 6)

REFUSED_MOTION = -1
REFUSED_LONG_TEXT = -2
REFUSED_PLACE = -4
REFUSED_NO_CHART = -6


def has(m, a, b, t):
    """Answer [1] if (m, a, b) is a symmetry of the chart's field, else [0]."""
    refusal = text_refusal(t)
    if refusal < 0:
        return [refusal]
    if m > LAST_TURN:
        return [REFUSED_MOTION]
    tile = tile_for(split_rows(t), m)
    if tile is not None and fits(tile, turned(tile, m), a, b):
        return [1]
    return [0]


def count(t):
    """Answer how many symmetries of the chart's field are told."""
    refusal = text_refusal(t)
    if refusal < 0:
        return [refusal]
    return [len(told(split_rows(t)))]


def nth(k, t):
    """Answer 0, m, a, b: the k-th symmetry that is told, from 0."""
    refusal = text_refusal(t)
    if refusal < 0:
        return [refusal]
    found = told(split_rows(t))
    if k >= len(found):
        return [REFUSED_PLACE]
    return [0] + list(found[k])


def least(t):
    """Answer 0, p, q, r: the least repeat of the chart's field."""
    refusal = text_refusal(t)
    if refusal < 0:
        return [refusal]
    return [0] + list(least_repeat(split_rows(t)))


def cell(t):
    """Answer how many bytes the text of the chart of the least repeat has, and these bytes."""
    refusal = text_refusal(t)
    if refusal < 0:
        return [refusal]
    rows = split_rows(t)
    repeat = least_repeat(rows)
    written = []
    for row in rows[:repeat[2]]:
        written.extend(row[:repeat[0]] + [ROW_END])
    return [len(written)] + written


def kind(t):
    """Answer the field's kind, of how many m there are symmetries, of how many m mirrors."""
    refusal = text_refusal(t)
    if refusal < 0:
        return [refusal]
    rows = split_rows(t)
    turns = [m for m in range(LAST_TURN + 1) if len(told_with_turn(rows, m)) > 0]
    doubles = [done_twice(rows, m) for m in turns if m >= FIRST_MIRRORED]
    mirrors = len([steps for steps in doubles if (0, 0) in steps])
    glides = any([has_glide(rows, steps) for steps in doubles])
    return [kind_number(turns, mirrors, glides), len(turns), mirrors]


def strip(t):
    """Answer, of the chart as a border: its kind, its least step above 0, how many symmetries have a below w."""
    refusal = text_refusal(t)
    if refusal < 0:
        return [refusal]
    rows = split_rows(t)
    turns = [border_moves(rows, m) for m in BORDER_TURNS]
    number = border_kind(turns[1], turns[2], turns[3])
    return [number, least_step_across(rows), sum([len(moves) for moves in turns])]


def text_refusal(t):
    """Give the number that refuses t as a chart's text, or 0."""
    if len(t) > LONGEST_TEXT:
        return REFUSED_LONG_TEXT
    if len(t) == 0 or t[-1] != ROW_END or not is_chart(split_rows(t)):
        return REFUSED_NO_CHART
    return 0


def split_rows(t):
    """Give the rows of a text that closes with a row's end, without their ends."""
    rows = []
    row = []
    for byte in t:
        if byte == ROW_END:
            rows.append(row)
            row = []
        else:
            row.append(byte)
    return rows


def is_chart(rows):
    """Tell whether one row or more are those of a chart."""
    height = len(rows)
    width = len(rows[0])
    if width < 1 or width > WIDEST or height > HIGHEST or width * height > MOST_KNOTS:
        return False
    return all([is_chart_row(row, width) for row in rows])


def is_chart_row(row, width):
    """Tell whether a row has that many knots, each with a colour."""
    return len(row) == width and all([is_colour(byte) for byte in row])


def is_colour(byte):
    """Tell whether a byte is one of a to z, A to Z, 0 to 9."""
    return 97 <= byte <= 122 or 65 <= byte <= 90 or 48 <= byte <= 57


def told(rows):
    """Give the told symmetries as (m, a, b), in order by m, then b, then a."""
    found = []
    for m in range(LAST_TURN + 1):
        found.extend(told_with_turn(rows, m))
    return found


def told_with_turn(rows, m):
    """Give the told symmetries with this m alone, in order by b, then a."""
    tile = tile_for(rows, m)
    if tile is None:
        return []
    image = turned(tile, m)
    found = []
    for b in range(len(rows)):
        for a in range(len(rows[0])):
            if fits(tile, image, a, b):
                found.append((m, a, b))
    return found


def least_repeat(rows):
    """Give p, q and r of the least repeat."""
    p = least_step_across(rows)
    down = least_step_down(rows, p)
    return (p, down[0], down[1])


def least_step_across(rows):
    """Give the least p above 0 for which (p, 0) is a step."""
    width = len(rows[0])
    for p in range(1, width):
        if fits(rows, rows, p, 0):
            return p
    return width


def least_step_down(rows, p):
    """Give the step (q, r) with the least r above 0 and, for that r, the least q, 0 or more."""
    height = len(rows)
    for r in range(1, height):
        # With (q, r) there is (q - p, r), so the least q is below p.
        for q in range(p):
            if fits(rows, rows, q, r):
                return (q, r)
    return (0, height)


def done_twice(rows, m):
    """Give the steps that symmetries with this m, from 4 to 7, are when they are done twice.

    The symmetries are as many as it takes to find every mirror and every glide.
    """
    tile = tile_for(rows, m)
    steps = []
    for found in told_with_turn(tile, m):
        a = found[1]
        # The told ones aren't enough: with m 7 a mirror's b is -a. And with odd m
        # half of the step lies half a side off when b is less by a side, so it may be
        # no step there. Any other a and b put that half whole sides off, or nowhere.
        for b in (found[2], found[2] - len(tile)):
            place = turned_place(m, a, b)
            steps.append((place[0] + a, place[1] + b))
    return steps


def has_glide(rows, steps):
    """Tell whether one of these steps, each a symmetry done twice, is not twice a step."""
    return any([not is_twice_a_step(rows, step[0], step[1]) for step in steps])


def is_twice_a_step(rows, a, b):
    """Tell whether half of (a, b) is a step of the field."""
    return a % 2 == 0 and b % 2 == 0 and fits(rows, rows, a // 2, b // 2)


def kind_number(turns, mirrors, glides):
    """Give the field's kind: by the m of its symmetries, how many m have mirrors, and if there are glides."""
    # A symmetry with m 4 to 7 that is no glide, moved back by half of the step that it
    # is when done twice, is a mirror. So without mirrors and glides no m 4 to 7 has any.
    if 1 in turns or 3 in turns:
        return kind_with_quarter_turns(mirrors, glides)
    if 2 in turns:
        return kind_with_half_turns(mirrors, glides)
    return kind_without_turns(mirrors, glides)


def kind_without_turns(mirrors, glides):
    """Give the kind, 1 to 4, of a field that has no symmetry with m 1, 2, 3."""
    if mirrors == 0:
        return 3 if glides else 1
    return 4 if glides else 2


def kind_with_half_turns(mirrors, glides):
    """Give the kind, 5 to 9, of a field that has symmetries with m 2, none with m 1, 3."""
    if mirrors == 0:
        return 8 if glides else 5
    if mirrors == 1:
        return 7
    return 9 if glides else 6


def kind_with_quarter_turns(mirrors, glides):
    """Give the kind, 10 to 12, of a field that has symmetries with m 1 or 3."""
    if mirrors == 0 and not glides:
        return 10
    return 11 if mirrors == 4 else 12


def border_moves(rows, m):
    """Give each a from 0 to w - 1 with which the border has the symmetry (m, a)."""
    # These are the field's symmetries that leave every row within its chart: upside
    # down, with m 2 and m 6, row y goes to -y, and by h - 1 further on to h - 1 - y.
    b = len(rows) - 1 if m == 2 or m == 6 else 0
    image = turned(rows, m)
    return [a for a in range(len(rows[0])) if fits(rows, image, a, b)]


def border_kind(half_turns, mirrors, flips):
    """Give a border's kind, 1 to 7, by its symmetries with m 2, with m 4 and with m 6."""
    # With (6, a) and the step (0, a), also undone, there's (6, 0); its step is (0, 0).
    if 0 in flips:
        return 7 if len(mirrors) > 0 else 2
    if len(flips) > 0:
        return 6 if len(mirrors) > 0 else 4
    if len(mirrors) > 0:
        return 3
    return 5 if len(half_turns) > 0 else 1


def tile_for(rows, m):
    """Give rows that repeat to the same field and that m turns onto themselves.

    None if there are none, as then no symmetry has this m.
    """
    # Turns with odd m change places between the sides: w by h becomes h by w.
    if m % 2 == 1:
        return square_tile(rows)
    return rows


def square_tile(rows):
    """Give the square whose side is the common measure of w and h, if it repeats to rows, else None."""
    # A symmetry with odd m carries the steps (w, 0) and (0, h) over into (0, w)
    # and (h, 0). So the field repeats by w and by h to either side, and thus by
    # the greatest common measure of both; without that no odd m has a symmetry.
    width = len(rows[0])
    height = len(rows)
    side = common_measure(width, height)
    tile = [row[:side] for row in rows[:side]]
    if rows == [tile[y % side] * (width // side) for y in range(height)]:
        return tile
    return None


def common_measure(first, second):
    """Give the greatest whole number that divides both."""
    while second > 0:
        rest = first % second
        first = second
        second = rest
    return first


def turned(tile, m):
    """Give the tile with each knot at m's turn of its place, brought back within the tile."""
    width = len(tile[0])
    height = len(tile)
    image = [[0] * width for y in range(height)]
    for y in range(height):
        for x in range(width):
            place = turned_place(m, x, y)
            image[place[1] % height][place[0] % width] = tile[y][x]
    return image


def turned_place(m, x, y):
    """Give m's turn of the place (x, y)."""
    if m == 0:
        return (x, y)
    if m == 1:
        return (-y, x)
    if m == 2:
        return (-x, -y)
    if m == 3:
        return (y, -x)
    if m == 4:
        return (-x, y)
    if m == 5:
        return (-y, -x)
    if m == 6:
        return (x, -y)
    return (y, x)


def fits(tile, image, a, b):
    """Tell whether the image, moved on by (a, b), lies on the repeated tile colour on colour."""
    height = len(tile)
    left = a % len(tile[0])
    for y in range(height):
        row = tile[(y + b) % height]
        # Whole rows are compared, not knot by knot, for count asks this very often.
        if row[left:] + row[:left] != image[y]:
            return False
    return True
