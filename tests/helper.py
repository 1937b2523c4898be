"""What the tests share: panels to try, and the document's words worked out in another way.

A panel is laid out here as a grid of 2 high - 1 rows of 2 wide - 1 cells. The
squares are every other cell of every other row, and what stands at a place is
in the cell between its two squares. Mirrors and turns then move whole rows of
cells, with no arithmetic on places.
"""

import itertools

MARK = [0x50, 0x4C, 0x50, 0x31]
BLANK = 9
SAMPLE_SIZES = [
    (1, 1), (1, 2), (2, 1), (1, 4), (4, 1), (1, 8), (8, 1), (2, 2), (2, 3), (3, 2), (3, 3), (4, 3), (3, 5), (8, 8),
]


def places(wide, high):
    return (wide - 1) * high + wide * (high - 1)


def told(wide, high, stands):
    """The bytes of a panel."""
    return MARK + [wide, high] + list(stands)


def plain(wide, high, kind):
    """The bytes of a panel with one kind at all places."""
    return told(wide, high, [kind] * places(wide, high))


def mixed(wide, high, seed):
    """The bytes of a panel of all kinds, always the same for the same seed."""
    state = seed * 7919 + wide * 31 + high
    stands = []
    for place in range(places(wide, high)):
        state = (state * 1103515245 + 12345) % 2147483648
        stands.append((state >> 16) % 3)
    return told(wide, high, stands)


def samples(seeds=4):
    """Panels of many sizes: of one kind each, and of all kinds."""
    found = []
    for wide, high in SAMPLE_SIZES:
        found += [plain(wide, high, kind) for kind in range(3)]
        found += [mixed(wide, high, seed) for seed in range(seeds)]
    return found


def all_panels(wide, high, kinds):
    """The bytes of all panels of a size, of so many kinds of places."""
    for stands in itertools.product(range(kinds), repeat=places(wide, high)):
        yield told(wide, high, stands)


def place_cells(wide, high):
    """The cells (row, column) of the places, in the order of their numbers."""
    upright = [(2 * y, 2 * x + 1) for y in range(high) for x in range(wide - 1)]
    level = [(2 * y + 1, 2 * x) for y in range(high - 1) for x in range(wide)]
    return upright + level


def grid(b):
    wide, high = b[4], b[5]
    rows = [[BLANK] * (2 * wide - 1) for row in range(2 * high - 1)]
    for (row, column), kind in zip(place_cells(wide, high), b[6:]):
        rows[row][column] = kind
    return rows


def from_grid(rows):
    wide, high = (len(rows[0]) + 1) // 2, (len(rows) + 1) // 2
    return told(wide, high, [rows[row][column] for row, column in place_cells(wide, high)])


def moved_grid(rows, m):
    if m >= 4:
        rows = [row[::-1] for row in rows]
    for quarter in range(m % 4):
        rows = [list(column) for column in zip(*rows[::-1])]
    return rows


def moved_by(b, m):
    """The bytes of the panel moved by motion m."""
    return from_grid(moved_grid(grid(b), m))


def after(first, second):
    """The motion that is the first and then the second."""
    picture = [[1, 2], [3, 4]]
    both = moved_grid(moved_grid(picture, first), second)
    return [m for m in range(8) if moved_grid(picture, m) == both][0]


# Strands are followed here as lines on paper. A square is two units wide and
# high; a piece runs from the middle of one side to that of the next, and is
# told by those two points. What stands at a side says how the step by which
# a line comes to its middle goes on.
MIDDLES = [(1, 0), (2, 1), (1, 2), (0, 1)]


def piece_points(wide, i):
    s, d = i // 4, i % 4
    x, y = 2 * (s % wide), 2 * (s // wide)
    return frozenset((x + dx, y + dy) for dx, dy in (MIDDLES[d], MIDDLES[(d + 1) % 4]))


def kinds_on_paper(rows):
    """What stands at the middle of each side between squares, by the rows of cells."""
    cells = [(x + 1, y + 1, kind) for y, row in enumerate(rows) for x, kind in enumerate(row)]
    return {(x, y): kind for x, y, kind in cells if kind != BLANK}


def turned(kinds, point, dx, dy):
    """The step by which a line goes on that has come to the point by the step (dx, dy)."""
    kind = kinds.get(point)
    upright = point[0] % 2 == 0
    if kind == 0:
        return dx, dy
    # A break across an upright side, or along a level one, lets the line on to
    # the right or left and turns it back up or down; the others the reverse.
    # The border turns it back as breaks along do.
    if (kind == 2) == upright:
        return dx, -dy
    return -dx, dy


def next_point(kinds, before, point):
    """Where a line goes on that has come from the point before."""
    dx, dy = turned(kinds, point, point[0] - before[0], point[1] - before[1])
    return point[0] + dx, point[1] + dy


def strands_of(b):
    """The strands, by their numbers, each as the set of its pieces' points."""
    kinds = kinds_on_paper(grid(b))
    found, seen = [], set()
    for i in range(4 * b[4] * b[5]):
        piece = piece_points(b[4], i)
        if piece in seen:
            continue
        strand = set()
        before, point = sorted(piece)
        while frozenset((before, point)) not in strand:
            strand.add(frozenset((before, point)))
            before, point = point, next_point(kinds, before, point)
        found.append(strand)
        seen |= strand
    return found


def moved_point(wide, high, m, point):
    x, y = point
    if m >= 4:
        x = 2 * wide - x
    for quarter in range(m % 4):
        x, y = 2 * high - y, x
        wide, high = high, wide
    return x, y


def strand_moved(b, m, k):
    """The number that strand k has in the panel moved by motion m."""
    goes = {frozenset(moved_point(b[4], b[5], m, point) for point in piece) for piece in strands_of(b)[k]}
    return strands_of(moved_by(b, m)).index(goes)


def merged(sets):
    """Sets put together as long as two of them meet."""
    found = []
    for new in sets:
        new = set(new)
        apart = []
        for old in found:
            if old & new:
                new |= old
            else:
                apart.append(old)
        found = apart + [new]
    return found


def group_count(b):
    """How many groups the strands have: lines that share a crossing's point."""
    lines = [{point for piece in strand for point in piece} for strand in strands_of(b)]
    crossings = [point for point, kind in kinds_on_paper(grid(b)).items() if kind == 0]
    meetings = [{n for n, line in enumerate(lines) if point in line} for point in crossings]
    return len(merged([{n} for n in range(len(lines))] + meetings))


def rooms_of(b):
    """The rooms, by their numbers, as sets of squares."""
    wide, rows = b[4], grid(b)
    links = [{s} for s in range(wide * b[5])]
    for s in range(wide * b[5]):
        x, y = s % wide, s // wide
        if 2 * x + 1 < len(rows[0]) and rows[2 * y][2 * x + 1] == 2:
            links.append({s, s + 1})
        if 2 * y + 1 < len(rows) and rows[2 * y + 1][2 * x] == 2:
            links.append({s, s + wide})
    return sorted(merged(links), key=min)


def courts_of(b):
    """The courts, by their numbers among courts, as sets of corners (x, y)."""
    wide, high = b[4], b[5]
    corners = [(x, y) for x in range(wide + 1) for y in range(high + 1)]
    outside = {(x, y) for x, y in corners if x in (0, wide) or y in (0, high)}
    links = [outside] + [{corner} for corner in corners]
    for (row, column), kind in zip(place_cells(wide, high), b[6:]):
        if kind == 1:
            x, y = (column + 1) // 2, (row + 1) // 2
            links.append({(x, y), (x, y + 1)} if row % 2 == 0 else {(x, y), (x + 1, y)})
    return sorted(merged(links), key=lambda court: min((y, x) for x, y in court))


def areas_on_paper(b):
    """The number of the area at each square's middle and at each corner, as points on paper."""
    wide = b[4]
    rooms = [{(2 * (s % wide) + 1, 2 * (s // wide) + 1) for s in squares} for squares in rooms_of(b)]
    courts = [{(2 * x, 2 * y) for x, y in corners} for corners in courts_of(b)]
    return {point: number for number, points in enumerate(rooms + courts) for point in points}


def piece_between(wide, i):
    """The points on paper between which piece i lies: its square's middle, and the corner that it cuts off."""
    s = i // 4
    middle = (2 * (s % wide) + 1, 2 * (s // wide) + 1)
    (x, y), (other_x, other_y) = piece_points(wide, i)
    return middle, (x + other_x - middle[0], y + other_y - middle[1])


# Bands are drawn as rows of cells, too: the unit's, again and again, each time
# with a column of what stands between behind them. The last such column is
# where a ring comes round; paper that ends ahead of it is the panel of n copies.
def ring_rows(b, j, n):
    rows = []
    for number, cells in enumerate(grid(b)):
        between = j[number // 2] if number % 2 == 0 else BLANK
        rows.append((cells + [between]) * n)
    return rows


def open_rows(b, j, n):
    return [row[:-1] for row in ring_rows(b, j, n)]


def lines_on_paper(kinds, wide, high, ring):
    """All lines, each as the set of its pieces' middles (in half units); a ring's right border is its left one."""
    around = 2 * wide if ring else 4 * wide
    kinds = {(x % around, y): kind for (x, y), kind in kinds.items()}
    found, seen = [], set()
    for x, y, dx, dy in pieces_on_paper(wide, high):
        line = set()
        while (middle := ((2 * x + dx) % (2 * around), 2 * y + dy)) not in seen | line:
            line.add(middle)
            x, y = (x + dx) % around, y + dy
            dx, dy = turned(kinds, (x, y), dx, dy)
        if line:
            found.append(line)
            seen |= line
    return found


def pieces_on_paper(wide, high):
    """Each piece as the point where it begins and the step to where it ends."""
    for s in range(wide * high):
        for d in range(4):
            (x, y), (end_x, end_y) = MIDDLES[d], MIDDLES[(d + 1) % 4]
            yield 2 * (s % wide) + x, 2 * (s // wide) + y, end_x - x, end_y - y


def traced_strands(b, j, n, ring):
    """How many strands n copies have: all of them followed."""
    rows = ring_rows(b, j, n) if ring else open_rows(b, j, n)
    return len(lines_on_paper(kinds_on_paper(rows), n * b[4], b[5], ring))


def traced_arcs(b, j, n):
    """The diagram of n copies as it's told, all strands followed."""
    wide, high, kinds = n * b[4], b[5], kinds_on_paper(open_rows(b, j, n))
    steps = [(0, 1, -1), (0, 1, 1), (2 * wide, -1, 1), (2 * wide, -1, -1)]
    points = [(x, 2 * y + 1, dx, dy) for pair in (steps[:2], steps[2:]) for y in range(high) for x, dx, dy in pair]
    joined = []
    for x, y, dx, dy in points:
        x, y = x + dx, y + dy
        while x not in (0, 2 * wide):
            dx, dy = turned(kinds, (x, y), dx, dy)
            x, y = x + dx, y + dy
        joined.append(points.index((x, y, -dx, -dy)))
    lines = lines_on_paper(kinds, wide, high, False)
    closed = [line for line in lines if all(1 < x < 4 * wide - 1 for x, y in line)]
    return [len(closed)] + joined


def behind(first, second, j):
    """What's told of a diagram and another behind it, put together by points that hang together."""
    half = 2 * len(j)
    links = [{("first", p), ("first", q)} for p, q in enumerate(first[1:])]
    links += [{("second", p), ("second", q)} for p, q in enumerate(second[1:])]
    for y, kind in enumerate(j):
        right = [("first", half + 2 * y), ("first", half + 2 * y + 1)]
        left = [("second", 2 * y), ("second", 2 * y + 1)]
        if kind == 1:
            links += [set(right), set(left)]
        else:
            links += [set(pair) for pair in zip(right, left if kind == 0 else left[::-1])]
    points = [("first", p) for p in range(half)] + [("second", half + p) for p in range(half)]
    joined, closed = [None] * (2 * half), first[0] + second[0]
    for strand in merged(links):
        outer = [points.index(point) for point in strand if point in points]
        if not outer:
            closed += 1
        else:
            joined[outer[0]], joined[outer[1]] = outer[1], outer[0]
    return [closed] + joined


def mixed_between(high, seed):
    """What stands between in each row, of all kinds, always the same for the same seed."""
    return mixed(high + 1, 1, seed + 50)[6:]


def sample_bands():
    """Units with what stands between: of one kind each, and of all kinds."""
    found = []
    for wide, high in ((1, 1), (2, 1), (1, 2), (2, 2), (3, 2), (2, 3), (1, 4), (4, 3), (3, 5)):
        found += [(plain(wide, high, kind), [between] * high) for kind in range(3) for between in range(3)]
        found += [(mixed(wide, high, seed), mixed_between(high, seed)) for seed in range(6)]
    found += [(mixed(wide, high, 3), mixed_between(high, 3)) for wide, high in ((8, 8), (8, 1), (1, 8), (8, 3), (3, 8))]
    return found


def wrong_betweens(high):
    """Lists that don't tell what stands between in so many rows, each at most 1,024 long."""
    wrong = [[], [0] * (high - 1), [0] * (high + 1), [0] * 1024]
    for spot in range(high):
        for number in (3, 4294967295):
            wrong.append([0] * spot + [number] + [0] * (high - 1 - spot))
    return wrong


def wrong_panels():
    """Bytes that are no right panel, each at most 1,024 long."""
    right = told(2, 2, [0, 1, 2, 0])
    wrong = [right[:n] for n in range(len(right))]
    wrong += [right + [0], right + [0] * (1024 - len(right)), [0] * 1024]
    for spot in range(4):
        wrong.append(right[:spot] + [right[spot] ^ 32] + right[spot + 1:])
    for size in (0, 9, 255):
        wrong.append(MARK + [size, 1] + [0] * max(0, size - 1))
        wrong.append(MARK + [1, size] + [0] * max(0, size - 1))
        wrong.append(MARK + [size, size])
    for kind in (3, 255):
        for spot in range(6, len(right)):
            wrong.append(right[:spot] + [kind] + right[spot + 1:])
    wrong.append(MARK + [1, 1, 0])
    wrong.append(MARK + [2, 1])
    return wrong


def long_bytes():
    """Too many bytes: a right panel's with some behind it, and none such at all."""
    return [told(1, 1, []) + [0] * 1019, [255] * 1025, [0] * 2000]


# Cards are drawn as text, from the rows of cells, and read by following lines
# over the signs: at a crossing the line is over whose slope the sign shows.
SIGNS = "\\/|-"


def in_bytes(text):
    return [ord(sign) for sign in text]


def in_text(t):
    return "".join(chr(byte) for byte in t)


def crossings(b):
    return b[6:].count(0)


def all_weaves(b):
    return [list(bits) for bits in itertools.product(range(2), repeat=crossings(b))]


def mixed_weave(b, seed):
    """A weave of either bit, always the same for the same seed."""
    return [kind % 2 for kind in mixed(crossings(b) + 1, 1, seed + 90)[6:]]


def sample_cards():
    """Panels with weaves of one bit alone, and of both."""
    found = []
    for b in samples(4) + [mixed(wide, high, 1) for wide, high in ((8, 2), (2, 8), (7, 5), (5, 7))]:
        found += [(b, [bit] * crossings(b)) for bit in range(2)]
        found += [(b, mixed_weave(b, seed)) for seed in range(3)]
    return found


def slope(wide, i):
    """The sign of the line that piece i lies on."""
    (x, y), (other_x, other_y) = piece_points(wide, i)
    return "\\" if (other_x - x) * (other_y - y) > 0 else "/"


def drawing_of(b, w):
    """A card's drawing: at a crossing the slope of the piece that's over."""
    wide, bits = b[4], iter(w)
    rows = [[" " if cell == BLANK else cell for cell in row] for row in grid(b)]
    for row in rows[::2]:
        row[::2] = "o" * wide
    for row, column in place_cells(wide, b[5]):
        kind, side = rows[row][column], 1 + row % 2
        if kind == 0:
            piece = 4 * (row // 2 * wide + column // 2) + side
            rows[row][column] = slope(wide, piece if next(bits) else piece - 1)
        else:
            rows[row][column] = "|" if (kind == 1) == (side == 1) else "-"
    return in_bytes("".join("".join(row) + "\n" for row in rows))


def kind_shown(sign, upright):
    """What stands at an upright or level side that has this sign."""
    if sign in "\\/":
        return 0
    return 1 if (sign == "|") == upright else 2


def courses_on_paper(t):
    """Each strand's course over a card: at each crossing passed its point and whether the strand is over."""
    rows = in_text(t).split("\n")[:-1]
    signs = {(x + 1, y + 1): row[x] for y, row in enumerate(rows) for x in range(len(row)) if (x + y) % 2}
    kinds = {point: kind_shown(sign, point[0] % 2 == 0) for point, sign in signs.items()}
    found, seen = [], set()
    for x, y, dx, dy in pieces_on_paper((len(rows[0]) + 1) // 2, (len(rows) + 1) // 2):
        if (2 * x + dx, 2 * y + dy) in seen:
            continue
        passed = []
        while (2 * x + dx, 2 * y + dy) not in seen:
            seen.add((2 * x + dx, 2 * y + dy))
            x, y = x + dx, y + dy
            if kinds.get((x, y)) == 0:
                passed.append(((x, y), signs[x, y] == ("\\" if dx == dy else "/")))
            dx, dy = turned(kinds, (x, y), dx, dy)
        found.append(passed)
    return found


def wrong_turns(passed):
    """Where along a course the strand is both times over or both times under, as numbers of the first of the two."""
    overs = [over for point, over in passed]
    return [n for n, over in enumerate(overs) if over == overs[(n + 1) % len(overs)]]


def judged_on_paper(t):
    """What card_judge tells."""
    courses = courses_on_paper(t)
    turns = not any(wrong_turns(passed) for passed in courses)
    groups = len(merged([{n} | {point for point, over in passed} for n, passed in enumerate(courses)]))
    return [int(turns and len(courses) == groups), int(turns), len(courses), groups]


def drawing_forms():
    """For each size of a drawing what may stand at each place."""
    found = []
    for wide, high in itertools.product(range(1, 9), repeat=2):
        squares = (["o", SIGNS] * wide)[:-1] + ["\n"]
        between = ([SIGNS, " "] * wide)[:-1] + ["\n"]
        found.append(((squares + between) * high)[:-len(between)])
    return found


DRAWING_FORMS = drawing_forms()


def first_fault(t):
    """The first place where no card's drawing of any size goes on as t does; None if t is one."""
    text, furthest = in_text(t), 0
    for form in DRAWING_FORMS:
        fits = 0
        while fits < min(len(text), len(form)) and text[fits] in form[fits]:
            fits += 1
        if fits == len(text) == len(form):
            return None
        furthest = max(furthest, fits)
    return furthest


# Drawings that are no card's, and the place of the fault in each.
WRONG_DRAWINGS = [
    ("", 0), ("x", 0), (" ", 0), ("\n", 0), ("|", 0), ("O\n", 0), ("\no\n", 0),
    ("o", 1), ("oo\n", 1), ("oxo\n", 1), ("o o\n", 1), ("o\r\n", 1), ("o\0", 1), ("o\xff", 1),
    ("o|", 2), ("o|\n", 2), ("o||o\n", 2), ("o|xo\n", 2), ("o| o\n", 2),
    ("o|o", 3), ("o|oo\n", 3), ("o|o \n", 3), ("o|o|\n", 4),
    # One square wide: what stands behind the line may be a line of level places, but nothing else.
    ("o\no", 2), ("o\n\n", 2), ("o\n ", 2), ("o\nx\no\n", 2), ("o\n|", 3), ("o\n||", 3), ("o\n| \no\n", 3),
    ("o\n|\n", 4), ("o\n|\n|\n", 4), ("o\n|\n\n", 4), ("o\n|\no", 5), ("o\n|\no|o\n", 5), ("o\n|\no\no", 6),
    # Two squares wide.
    ("o/o\n/", 5), ("o/o\n//", 5), ("o/o\n/\n", 5), ("o/o\n/o", 5), ("o/o\n/ ", 6), ("o/o\n/ \n", 6),
    ("o/o\n/ x\n", 6), ("o/o\n/  \n", 6), ("o/o\n/ -", 7), ("o/o\n/ - -\n", 7), ("o/o\n/ --\n", 7),
    ("o/o\n/ -\n", 8), ("o/o\n/ -\n/", 8), ("o/o\n/ -\n\n", 8), ("o/o\n/ -\no", 9), ("o/o\n/ -\no\n", 9),
    ("o/o\n/ -\no o\n", 9), ("o/o\n/ -\noxo\n", 9), ("o/o\n/ -\no\\", 10), ("o/o\n/ -\no\\\n", 10),
    ("o/o\n/ -\no\\o", 11), ("o/o\n/ -\no\\o\\o\n", 11), ("o/o\n/ -\no\\o\no", 12), ("o/o\n/ -\no\\o\n\n", 12),
    # A ninth square in a row, and a ninth row.
    ("o" + "-o" * 8 + "\n", 15), ("o" + "-o" * 7 + "-\n", 15), ("o" + "-o" * 7 + "-", 15), ("o" + "-o" * 7, 15),
    ("o" + "-o" * 7 + " ", 15), ("o" + "/o" * 7 + "oo", 15),
    ("o\n" + "|\no\n" * 8, 30), ("o\n" + "|\no\n" * 7 + "|", 30), ("o\n" + "|\no\n" * 7 + "|\n", 30),
    ("o\n" + "|\no\n" * 7 + "\n", 30), ("o\n" + "|\no\n" * 7 + "o", 30), ("o\n" + "|\no\n" * 7 + "o\n", 30),
    ("o\n" + "|\no\n" * 6 + "|\n", 28), ("o\n" + "|\no\n" * 6 + "|\no", 29),
]


def wrong_drawings():
    """Drawings that are no card's: some by hand, and right ones with bytes changed, left out or put in between."""
    found = [in_bytes(text) for text, place in WRONG_DRAWINGS]
    rights = [(told(1, 1, []), []), (told(2, 1, [0]), [1]), (told(1, 2, [2]), []), (plain(2, 2, 0), [0, 1, 1, 0])]
    rights += [(mixed(wide, high, 4), None) for wide, high in ((3, 2), (2, 3), (8, 1), (1, 8), (4, 3))]
    for b, w in rights:
        t = drawing_of(b, mixed_weave(b, 0) if w is None else w)
        for n in range(len(t) + 1):
            found.append(t[:n])
            found.append(t[:n] + t[n + 1:])
            for byte in in_bytes(SIGNS + "o x\n\r\0O\xff"):
                found += [t[:n] + [byte] + t[n:], t[:n] + [byte] + t[n + 1:]]
    whole = drawing_of(mixed(8, 8, 4), mixed_weave(mixed(8, 8, 4), 0))
    found += [whole[:n] + [byte] + whole[n + 1:] for n in range(0, 241, 7) for byte in in_bytes("o x\n|")]
    found += [t + [byte] * (1024 - len(t)) for t in (whole, in_bytes("o\n"), []) for byte in in_bytes("o x\n|")]
    return [t for t in found if first_fault(t) is not None]


def long_drawings():
    """Too many bytes: a right drawing's with some behind it, and none such at all."""
    return [in_bytes("o\n") + [10] * 1023, in_bytes("x" * 1025), in_bytes("o|" * 1000)]
