"""What the tests share: panels to try, and the document's words worked out in another way.

A panel is laid out here as a grid of 2 high - 1 rows of 2 wide - 1 cells. The
squares are every other cell of every other row, and what stands at a place is
in the cell between its two squares. Mirrors and turns then move whole rows of
cells, with no arithmetic on places.
"""

import itertools

MARK = [0x50, 0x4C, 0x50, 0x31]
BLANK = 9
SAMPLE_SIZES = [
    (1, 1), (1, 2), (2, 1), (1, 4), (4, 1), (1, 8), (8, 1), (2, 2), (2, 3), (3, 2), (3, 3), (4, 3), (3, 5), (8, 8),
]


def places(wide, high):
    return (wide - 1) * high + wide * (high - 1)


def told(wide, high, stands):
    """The bytes of a panel."""
    return MARK + [wide, high] + list(stands)


def plain(wide, high, kind):
    """The bytes of a panel with one kind at all places."""
    return told(wide, high, [kind] * places(wide, high))


def mixed(wide, high, seed):
    """The bytes of a panel of all kinds, always the same for the same seed."""
    state = seed * 7919 + wide * 31 + high
    stands = []
    for place in range(places(wide, high)):
        state = (state * 1103515245 + 12345) % 2147483648
        stands.append((state >> 16) % 3)
    return told(wide, high, stands)


def samples(seeds=4):
    """Panels of many sizes: of one kind each, and of all kinds."""
    found = []
    for wide, high in SAMPLE_SIZES:
        found += [plain(wide, high, kind) for kind in range(3)]
        found += [mixed(wide, high, seed) for seed in range(seeds)]
    return found


def all_panels(wide, high, kinds):
    """The bytes of all panels of a size, of so many kinds of places."""
    for stands in itertools.product(range(kinds), repeat=places(wide, high)):
        yield told(wide, high, stands)


def place_cells(wide, high):
    """The cells (row, column) of the places, in the order of their numbers."""
    upright = [(2 * y, 2 * x + 1) for y in range(high) for x in range(wide - 1)]
    level = [(2 * y + 1, 2 * x) for y in range(high - 1) for x in range(wide)]
    return upright + level


def grid(b):
    wide, high = b[4], b[5]
    rows = [[BLANK] * (2 * wide - 1) for row in range(2 * high - 1)]
    for (row, column), kind in zip(place_cells(wide, high), b[6:]):
        rows[row][column] = kind
    return rows


def from_grid(rows):
    wide, high = (len(rows[0]) + 1) // 2, (len(rows) + 1) // 2
    return told(wide, high, [rows[row][column] for row, column in place_cells(wide, high)])


def moved_grid(rows, m):
    if m >= 4:
        rows = [row[::-1] for row in rows]
    for quarter in range(m % 4):
        rows = [list(column) for column in zip(*rows[::-1])]
    return rows


def moved_by(b, m):
    """The bytes of the panel moved by motion m."""
    return from_grid(moved_grid(grid(b), m))


def after(first, second):
    """The motion that is the first and then the second."""
    picture = [[1, 2], [3, 4]]
    both = moved_grid(moved_grid(picture, first), second)
    return [m for m in range(8) if moved_grid(picture, m) == both][0]


# Strands are followed here as lines on paper. A square is two units wide and
# high; a piece runs from the middle of one side to that of the next, and is
# told by those two points. What stands at a side says how the step by which
# a line comes to its middle goes on.
MIDDLES = [(1, 0), (2, 1), (1, 2), (0, 1)]


def piece_points(wide, i):
    s, d = i // 4, i % 4
    x, y = 2 * (s % wide), 2 * (s // wide)
    return frozenset((x + dx, y + dy) for dx, dy in (MIDDLES[d], MIDDLES[(d + 1) % 4]))


def kind_at_point(b, point):
    """What stands at the side with this middle; the border is None."""
    x, y = point
    if x in (0, 2 * b[4]) or y in (0, 2 * b[5]):
        return None
    return grid(b)[y - 1][x - 1]


def next_point(b, before, point):
    """Where a line goes on that has come from the point before."""
    dx, dy = point[0] - before[0], point[1] - before[1]
    kind = kind_at_point(b, point)
    upright = point[0] % 2 == 0
    if kind == 0:
        return point[0] + dx, point[1] + dy
    # A break across an upright side, or along a level one, lets the line on to
    # the right or left and turns it back up or down; the others the reverse.
    if (kind == 2) == upright:
        return point[0] + dx, point[1] - dy
    return point[0] - dx, point[1] + dy


def strands_of(b):
    """The strands, by their numbers, each as the set of its pieces' points."""
    found, seen = [], set()
    for i in range(4 * b[4] * b[5]):
        piece = piece_points(b[4], i)
        if piece in seen:
            continue
        strand = set()
        before, point = sorted(piece)
        while frozenset((before, point)) not in strand:
            strand.add(frozenset((before, point)))
            before, point = point, next_point(b, before, point)
        found.append(strand)
        seen |= strand
    return found


def moved_point(wide, high, m, point):
    x, y = point
    if m >= 4:
        x = 2 * wide - x
    for quarter in range(m % 4):
        x, y = 2 * high - y, x
        wide, high = high, wide
    return x, y


def strand_moved(b, m, k):
    """The number that strand k has in the panel moved by motion m."""
    goes = {frozenset(moved_point(b[4], b[5], m, point) for point in piece) for piece in strands_of(b)[k]}
    return strands_of(moved_by(b, m)).index(goes)


def merged(sets):
    """Sets put together as long as two of them meet."""
    found = []
    for new in sets:
        new = set(new)
        apart = []
        for old in found:
            if old & new:
                new |= old
            else:
                apart.append(old)
        found = apart + [new]
    return found


def group_count(b):
    """How many groups the strands have: lines that share a crossing's point."""
    lines = [{point for piece in strand for point in piece} for strand in strands_of(b)]
    crossings = [point for point in set().union(*lines) if kind_at_point(b, point) == 0]
    meetings = [{n for n, line in enumerate(lines) if point in line} for point in crossings]
    return len(merged([{n} for n in range(len(lines))] + meetings))


def rooms_of(b):
    """The rooms, by their numbers, as sets of squares."""
    wide, rows = b[4], grid(b)
    links = [{s} for s in range(wide * b[5])]
    for s in range(wide * b[5]):
        x, y = s % wide, s // wide
        if 2 * x + 1 < len(rows[0]) and rows[2 * y][2 * x + 1] == 2:
            links.append({s, s + 1})
        if 2 * y + 1 < len(rows) and rows[2 * y + 1][2 * x] == 2:
            links.append({s, s + wide})
    return sorted(merged(links), key=min)


def courts_of(b):
    """The courts, by their numbers among courts, as sets of corners (x, y)."""
    wide, high = b[4], b[5]
    corners = [(x, y) for x in range(wide + 1) for y in range(high + 1)]
    outside = {(x, y) for x, y in corners if x in (0, wide) or y in (0, high)}
    links = [outside] + [{corner} for corner in corners]
    for (row, column), kind in zip(place_cells(wide, high), b[6:]):
        if kind == 1:
            x, y = (column + 1) // 2, (row + 1) // 2
            links.append({(x, y), (x, y + 1)} if row % 2 == 0 else {(x, y), (x + 1, y)})
    return sorted(merged(links), key=lambda court: min((y, x) for x, y in court))


def areas_on_paper(b):
    """The number of the area at each square's middle and at each corner, as points on paper."""
    wide = b[4]
    rooms = [{(2 * (s % wide) + 1, 2 * (s // wide) + 1) for s in squares} for squares in rooms_of(b)]
    courts = [{(2 * x, 2 * y) for x, y in corners} for corners in courts_of(b)]
    return {point: number for number, points in enumerate(rooms + courts) for point in points}


def piece_between(wide, i):
    """The points on paper between which piece i lies: its square's middle, and the corner that it cuts off."""
    s = i // 4
    middle = (2 * (s % wide) + 1, 2 * (s // wide) + 1)
    (x, y), (other_x, other_y) = piece_points(wide, i)
    return middle, (x + other_x - middle[0], y + other_y - middle[1])


def wrong_panels():
    """Bytes that are no right panel, each at most 1,024 long."""
    right = told(2, 2, [0, 1, 2, 0])
    wrong = [right[:n] for n in range(len(right))]
    wrong += [right + [0], right + [0] * (1024 - len(right)), [0] * 1024]
    for spot in range(4):
        wrong.append(right[:spot] + [right[spot] ^ 32] + right[spot + 1:])
    for size in (0, 9, 255):
        wrong.append(MARK + [size, 1] + [0] * max(0, size - 1))
        wrong.append(MARK + [1, size] + [0] * max(0, size - 1))
        wrong.append(MARK + [size, size])
    for kind in (3, 255):
        for spot in range(6, len(right)):
            wrong.append(right[:spot] + [kind] + right[spot + 1:])
    wrong.append(MARK + [1, 1, 0])
    wrong.append(MARK + [2, 1])
    return wrong


def long_bytes():
    """Too many bytes: a right panel's with some behind it, and none such at all."""
    return [told(1, 1, []) + [0] * 1019, [255] * 1025, [0] * 2000]
