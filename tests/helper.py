"""What the tests share: panels to try, and the document's words worked out in another way.

A panel is laid out here as a grid of 2 high - 1 rows of 2 wide - 1 cells. The
squares are every other cell of every other row, and what stands at a place is
in the cell between its two squares. Mirrors and turns then move whole rows of
cells, with no arithmetic on places.
"""

import itertools

MARK = [0x50, 0x4C, 0x50, 0x31]
BLANK = 9
SAMPLE_SIZES = [
    (1, 1), (1, 2), (2, 1), (1, 4), (4, 1), (1, 8), (8, 1), (2, 2), (2, 3), (3, 2), (3, 3), (4, 3), (3, 5), (8, 8),
]


def places(wide, high):
    return (wide - 1) * high + wide * (high - 1)


def told(wide, high, stands):
    """The bytes of a panel."""
    return MARK + [wide, high] + list(stands)


def plain(wide, high, kind):
    """The bytes of a panel with one kind at all places."""
    return told(wide, high, [kind] * places(wide, high))


def mixed(wide, high, seed):
    """The bytes of a panel of all kinds, always the same for the same seed."""
    state = seed * 7919 + wide * 31 + high
    stands = []
    for place in range(places(wide, high)):
        state = (state * 1103515245 + 12345) % 2147483648
        stands.append((state >> 16) % 3)
    return told(wide, high, stands)


def samples(seeds=4):
    """Panels of many sizes: of one kind each, and of all kinds."""
    found = []
    for wide, high in SAMPLE_SIZES:
        found += [plain(wide, high, kind) for kind in range(3)]
        found += [mixed(wide, high, seed) for seed in range(seeds)]
    return found


def all_panels(wide, high, kinds):
    """The bytes of all panels of a size, of so many kinds of places."""
    for stands in itertools.product(range(kinds), repeat=places(wide, high)):
        yield told(wide, high, stands)


def place_cells(wide, high):
    """The cells (row, column) of the places, in the order of their numbers."""
    upright = [(2 * y, 2 * x + 1) for y in range(high) for x in range(wide - 1)]
    level = [(2 * y + 1, 2 * x) for y in range(high - 1) for x in range(wide)]
    return upright + level


def grid(b):
    wide, high = b[4], b[5]
    rows = [[BLANK] * (2 * wide - 1) for row in range(2 * high - 1)]
    for (row, column), kind in zip(place_cells(wide, high), b[6:]):
        rows[row][column] = kind
    return rows


def from_grid(rows):
    wide, high = (len(rows[0]) + 1) // 2, (len(rows) + 1) // 2
    return told(wide, high, [rows[row][column] for row, column in place_cells(wide, high)])


def moved_grid(rows, m):
    if m >= 4:
        rows = [row[::-1] for row in rows]
    for quarter in range(m % 4):
        rows = [list(column) for column in zip(*rows[::-1])]
    return rows


def moved_by(b, m):
    """The bytes of the panel moved by motion m."""
    return from_grid(moved_grid(grid(b), m))


def after(first, second):
    """The motion that is the first and then the second."""
    picture = [[1, 2], [3, 4]]
    both = moved_grid(moved_grid(picture, first), second)
    return [m for m in range(8) if moved_grid(picture, m) == both][0]


# Strands are followed here as lines on paper. A square is two units wide and
# high; a piece runs from the middle of one side to that of the next, and is
# told by those two points. What stands at a side says how the step by which
# a line comes to its middle goes on.
MIDDLES = [(1, 0), (2, 1), (1, 2), (0, 1)]


def piece_points(wide, i):
    s, d = i // 4, i % 4
    x, y = 2 * (s % wide), 2 * (s // wide)
    return frozenset((x + dx, y + dy) for dx, dy in (MIDDLES[d], MIDDLES[(d + 1) % 4]))


def kinds_on_paper(rows):
    """What stands at the middle of each side between squares, by the rows of cells."""
    cells = [(x + 1, y + 1, kind) for y, row in enumerate(rows) for x, kind in enumerate(row)]
    return {(x, y): kind for x, y, kind in cells if kind != BLANK}


def turned(kinds, point, dx, dy):
    """The step by which a line goes on that has come to the point by the step (dx, dy)."""
    kind = kinds.get(point)
    upright = point[0] % 2 == 0
    if kind == 0:
        return dx, dy
    # A break across an upright side, or along a level one, lets the line on to
    # the right or left and turns it back up or down; the others the reverse.
    # The border turns it back as breaks along do.
    if (kind == 2) == upright:
        return dx, -dy
    return -dx, dy


def next_point(kinds, before, point):
    """Where a line goes on that has come from the point before."""
    dx, dy = turned(kinds, point, point[0] - before[0], point[1] - before[1])
    return point[0] + dx, point[1] + dy


def strands_of(b):
    """The strands, by their numbers, each as the set of its pieces' points."""
    kinds = kinds_on_paper(grid(b))
    found, seen = [], set()
    for i in range(4 * b[4] * b[5]):
        piece = piece_points(b[4], i)
        if piece in seen:
            continue
        strand = set()
        before, point = sorted(piece)
        while frozenset((before, point)) not in strand:
            strand.add(frozenset((before, point)))
            before, point = point, next_point(kinds, before, point)
        found.append(strand)
        seen |= strand
    return found


def moved_point(wide, high, m, point):
    x, y = point
    if m >= 4:
        x = 2 * wide - x
    for quarter in range(m % 4):
        x, y = 2 * high - y, x
        wide, high = high, wide
    return x, y


def strand_moved(b, m, k):
    """The number that strand k has in the panel moved by motion m."""
    goes = {frozenset(moved_point(b[4], b[5], m, point) for point in piece) for piece in strands_of(b)[k]}
    return strands_of(moved_by(b, m)).index(goes)


def merged(sets):
    """Sets put together as long as two of them meet."""
    found = []
    for new in sets:
        new = set(new)
        apart = []
        for old in found:
            if old & new:
                new |= old
            else:
                apart.append(old)
        found = apart + [new]
    return found


def group_count(b):
    """How many groups the strands have: lines that share a crossing's point."""
    lines = [{point for piece in strand for point in piece} for strand in strands_of(b)]
    crossings = [point for point, kind in kinds_on_paper(grid(b)).items() if kind == 0]
    meetings = [{n for n, line in enumerate(lines) if point in line} for point in crossings]
    return len(merged([{n} for n in range(len(lines))] + meetings))


def rooms_of(b):
    """The rooms, by their numbers, as sets of squares."""
    wide, rows = b[4], grid(b)
    links = [{s} for s in range(wide * b[5])]
    for s in range(wide * b[5]):
        x, y = s % wide, s // wide
        if 2 * x + 1 < len(rows[0]) and rows[2 * y][2 * x + 1] == 2:
            links.append({s, s + 1})
        if 2 * y + 1 < len(rows) and rows[2 * y + 1][2 * x] == 2:
            links.append({s, s + wide})
    return sorted(merged(links), key=min)


def courts_of(b):
    """The courts, by their numbers among courts, as sets of corners (x, y)."""
    wide, high = b[4], b[5]
    corners = [(x, y) for x in range(wide + 1) for y in range(high + 1)]
    outside = {(x, y) for x, y in corners if x in (0, wide) or y in (0, high)}
    links = [outside] + [{corner} for corner in corners]
    for (row, column), kind in zip(place_cells(wide, high), b[6:]):
        if kind == 1:
            x, y = (column + 1) // 2, (row + 1) // 2
            links.append({(x, y), (x, y + 1)} if row % 2 == 0 else {(x, y), (x + 1, y)})
    return sorted(merged(links), key=lambda court: min((y, x) for x, y in court))


def areas_on_paper(b):
    """The number of the area at each square's middle and at each corner, as points on paper."""
    wide = b[4]
    rooms = [{(2 * (s % wide) + 1, 2 * (s // wide) + 1) for s in squares} for squares in rooms_of(b)]
    courts = [{(2 * x, 2 * y) for x, y in corners} for corners in courts_of(b)]
    return {point: number for number, points in enumerate(rooms + courts) for point in points}


def piece_between(wide, i):
    """The points on paper between which piece i lies: its square's middle, and the corner that it cuts off."""
    s = i // 4
    middle = (2 * (s % wide) + 1, 2 * (s // wide) + 1)
    (x, y), (other_x, other_y) = piece_points(wide, i)
    return middle, (x + other_x - middle[0], y + other_y - middle[1])


# Bands are drawn as rows of cells, too: the unit's, again and again, each time
# with a column of what stands between behind them. The last such column is
# where a ring comes round; paper that ends ahead of it is the panel of n copies.
def ring_rows(b, j, n):
    rows = []
    for number, cells in enumerate(grid(b)):
        between = j[number // 2] if number % 2 == 0 else BLANK
        rows.append((cells + [between]) * n)
    return rows


def open_rows(b, j, n):
    return [row[:-1] for row in ring_rows(b, j, n)]


def lines_on_paper(kinds, wide, high, ring):
    """All lines, each as the set of its pieces' middles (in half units); a ring's right border is its left one."""
    around = 2 * wide if ring else 4 * wide
    kinds = {(x % around, y): kind for (x, y), kind in kinds.items()}
    found, seen = [], set()
    for x, y, dx, dy in pieces_on_paper(wide, high):
        line = set()
        while (middle := ((2 * x + dx) % (2 * around), 2 * y + dy)) not in seen | line:
            line.add(middle)
            x, y = (x + dx) % around, y + dy
            dx, dy = turned(kinds, (x, y), dx, dy)
        if line:
            found.append(line)
            seen |= line
    return found


def pieces_on_paper(wide, high):
    """Each piece as the point where it begins and the step to where it ends."""
    for s in range(wide * high):
        for d in range(4):
            (x, y), (end_x, end_y) = MIDDLES[d], MIDDLES[(d + 1) % 4]
            yield 2 * (s % wide) + x, 2 * (s // wide) + y, end_x - x, end_y - y


def traced_strands(b, j, n, ring):
    """How many strands n copies have: all of them followed."""
    rows = ring_rows(b, j, n) if ring else open_rows(b, j, n)
    return len(lines_on_paper(kinds_on_paper(rows), n * b[4], b[5], ring))


def traced_arcs(b, j, n):
    """The diagram of n copies as it's told, all strands followed."""
    wide, high, kinds = n * b[4], b[5], kinds_on_paper(open_rows(b, j, n))
    steps = [(0, 1, -1), (0, 1, 1), (2 * wide, -1, 1), (2 * wide, -1, -1)]
    points = [(x, 2 * y + 1, dx, dy) for pair in (steps[:2], steps[2:]) for y in range(high) for x, dx, dy in pair]
    joined = []
    for x, y, dx, dy in points:
        x, y = x + dx, y + dy
        while x not in (0, 2 * wide):
            dx, dy = turned(kinds, (x, y), dx, dy)
            x, y = x + dx, y + dy
        joined.append(points.index((x, y, -dx, -dy)))
    lines = lines_on_paper(kinds, wide, high, False)
    closed = [line for line in lines if all(1 < x < 4 * wide - 1 for x, y in line)]
    return [len(closed)] + joined


def behind(first, second, j):
    """What's told of a diagram and another behind it, put together by points that hang together."""
    half = 2 * len(j)
    links = [{("first", p), ("first", q)} for p, q in enumerate(first[1:])]
    links += [{("second", p), ("second", q)} for p, q in enumerate(second[1:])]
    for y, kind in enumerate(j):
        right = [("first", half + 2 * y), ("first", half + 2 * y + 1)]
        left = [("second", 2 * y), ("second", 2 * y + 1)]
        if kind == 1:
            links += [set(right), set(left)]
        else:
            links += [set(pair) for pair in zip(right, left if kind == 0 else left[::-1])]
    points = [("first", p) for p in range(half)] + [("second", half + p) for p in range(half)]
    joined, closed = [None] * (2 * half), first[0] + second[0]
    for strand in merged(links):
        outer = [points.index(point) for point in strand if point in points]
        if not outer:
            closed += 1
        else:
            joined[outer[0]], joined[outer[1]] = outer[1], outer[0]
    return [closed] + joined


def mixed_between(high, seed):
    """What stands between in each row, of all kinds, always the same for the same seed."""
    return mixed(high + 1, 1, seed + 50)[6:]


def sample_bands():
    """Units with what stands between: of one kind each, and of all kinds."""
    found = []
    for wide, high in ((1, 1), (2, 1), (1, 2), (2, 2), (3, 2), (2, 3), (1, 4), (4, 3), (3, 5)):
        found += [(plain(wide, high, kind), [between] * high) for kind in range(3) for between in range(3)]
        found += [(mixed(wide, high, seed), mixed_between(high, seed)) for seed in range(6)]
    found += [(mixed(wide, high, 3), mixed_between(high, 3)) for wide, high in ((8, 8), (8, 1), (1, 8), (8, 3), (3, 8))]
    return found


def wrong_betweens(high):
    """Lists that don't tell what stands between in so many rows, each at most 1,024 long."""
    wrong = [[], [0] * (high - 1), [0] * (high + 1), [0] * 1024]
    for spot in range(high):
        for number in (3, 4294967295):
            wrong.append([0] * spot + [number] + [0] * (high - 1 - spot))
    return wrong


def wrong_panels():
    """Bytes that are no right panel, each at most 1,024 long."""
    right = told(2, 2, [0, 1, 2, 0])
    wrong = [right[:n] for n in range(len(right))]
    wrong += [right + [0], right + [0] * (1024 - len(right)), [0] * 1024]
    for spot in range(4):
        wrong.append(right[:spot] + [right[spot] ^ 32] + right[spot + 1:])
    for size in (0, 9, 255):
        wrong.append(MARK + [size, 1] + [0] * max(0, size - 1))
        wrong.append(MARK + [1, size] + [0] * max(0, size - 1))
        wrong.append(MARK + [size, size])
    for kind in (3, 255):
        for spot in range(6, len(right)):
            wrong.append(right[:spot] + [kind] + right[spot + 1:])
    wrong.append(MARK + [1, 1, 0])
    wrong.append(MARK + [2, 1])
    return wrong


def long_bytes():
    """Too many bytes: a right panel's with some behind it, and none such at all."""
    return [told(1, 1, []) + [0] * 1019, [255] * 1025, [0] * 2000]
