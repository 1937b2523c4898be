"""What the tests share: panels to try, and the document's words worked out in another way.

A panel is laid out here as a grid of 2 wide - 1 by 2 high - 1 cells: squares
(and what lies between four of them) at the even and odd crossings of the
grid, and each place's number in the cell between its two squares. Mirrors
and turns then move whole rows of cells, with no arithmetic on places.
"""

import itertools

MARK = [0x50, 0x4C, 0x50, 0x31]
BLANK = 9
SMALL_SIZES = [(1, 1), (1, 2), (2, 1), (1, 4), (4, 1), (2, 2), (2, 3), (3, 2), (3, 3), (4, 3), (3, 5), (8, 8), (8, 1), (1, 8)]


def places(wide, high):
    return (wide - 1) * high + wide * (high - 1)


def told(wide, high, stands):
    """The bytes of a panel."""
    return MARK + [wide, high] + list(stands)


def plain(wide, high, kind):
    """The bytes of a panel with one kind at all places."""
    return told(wide, high, [kind] * places(wide, high))


def mixed(wide, high, seed):
    """The bytes of a panel of all kinds, always the same for the same seed."""
    state = seed * 7919 + wide * 31 + high
    stands = []
    for place in range(places(wide, high)):
        state = (state * 1103515245 + 12345) % 2147483648
        stands.append((state >> 16) % 3)
    return told(wide, high, stands)


def samples(seeds=4):
    """Panels of many sizes: of one kind each, and of all kinds."""
    found = []
    for wide, high in SMALL_SIZES:
        found += [plain(wide, high, kind) for kind in range(3)]
        found += [mixed(wide, high, seed) for seed in range(seeds)]
    return found


def all_panels(wide, high, kinds):
    """The bytes of all panels of a size, of so many kinds of places."""
    for stands in itertools.product(range(kinds), repeat=places(wide, high)):
        yield told(wide, high, stands)


def place_cells(wide, high):
    """The cells (row, column) of the places, in the order of their numbers."""
    upright = [(2 * y, 2 * x + 1) for y in range(high) for x in range(wide - 1)]
    level = [(2 * y + 1, 2 * x) for y in range(high - 1) for x in range(wide)]
    return upright + level


def grid(b):
    wide, high = b[4], b[5]
    rows = [[BLANK] * (2 * wide - 1) for row in range(2 * high - 1)]
    for (row, column), kind in zip(place_cells(wide, high), b[6:]):
        rows[row][column] = kind
    return rows


def from_grid(rows):
    wide, high = (len(rows[0]) + 1) // 2, (len(rows) + 1) // 2
    return told(wide, high, [rows[row][column] for row, column in place_cells(wide, high)])


def moved_grid(rows, m):
    if m >= 4:
        rows = [row[::-1] for row in rows]
    for quarter in range(m % 4):
        rows = [list(column) for column in zip(*rows[::-1])]
    return rows


def moved_by(b, m):
    """The bytes of the panel moved by motion m."""
    return from_grid(moved_grid(grid(b), m))


def after(first, second):
    """The motion that is the first and then the second."""
    picture = [[1, 2], [3, 4]]
    both = moved_grid(moved_grid(picture, first), second)
    return [m for m in range(8) if moved_grid(picture, m) == both][0]


def wrong_panels():
    """Bytes that are no right panel, each at most 1,024 long."""
    right = told(2, 2, [0, 1, 2, 0])
    wrong = [right[:n] for n in range(len(right))]
    wrong += [right + [0], right + [0] * (1024 - len(right)), [0] * 1024]
    for spot in range(4):
        wrong.append(right[:spot] + [right[spot] ^ 32] + right[spot + 1:])
    for size in (0, 9, 255):
        wrong.append(MARK + [size, 1] + [0] * max(0, size - 1))
        wrong.append(MARK + [1, size] + [0] * max(0, size - 1))
        wrong.append(MARK + [size, size])
    for kind in (3, 255):
        for spot in range(6, len(right)):
            wrong.append(right[:spot] + [kind] + right[spot + 1:])
    wrong.append(MARK + [1, 1, 0])
    wrong.append(MARK + [2, 1])
    return wrong


def long_bytes():
    """Too many bytes: a right panel's with some behind it, and none such at all."""
    return [told(1, 1, []) + [0] * 1019, [255] * 1025, [0] * 2000]
