"""The ground: cells, spots and rectangles of a district."""

# The places of the numbers in a rectangle.
LEFT = 0
TOP = 1
RIGHT = 2
LOW = 3


def inside(rect, cell):
    return rect[LEFT] <= cell[0] <= rect[RIGHT] and rect[TOP] <= cell[1] <= rect[LOW]


def has_one(rect, some):
    return any([inside(rect, cell) for cell in some])


def cells(rect):
    found = []
    for y in range(rect[TOP], rect[LOW] + 1):
        for x in range(rect[LEFT], rect[RIGHT] + 1):
            found.append((x, y))
    return found


def area(rect):
    return (rect[RIGHT] - rect[LEFT] + 1) * (rect[LOW] - rect[TOP] + 1)


def can_part(rect, side, line):
    # Across side 0 the ends are left and right, across side 1 top and low: two places apart in both.
    return rect[side] < line <= rect[side + 2]


def parted(rect, side, line):
    if not can_part(rect, side, line):
        return None
    if side == 0:
        ahead = (rect[LEFT], rect[TOP], line - 1, rect[LOW])
        behind = (line, rect[TOP], rect[RIGHT], rect[LOW])
    else:
        ahead = (rect[LEFT], rect[TOP], rect[RIGHT], line - 1)
        behind = (rect[LEFT], line, rect[RIGHT], rect[LOW])
    return (ahead, behind)


def common(one, other):
    left = max(one[LEFT], other[LEFT])
    top = max(one[TOP], other[TOP])
    right = min(one[RIGHT], other[RIGHT])
    low = min(one[LOW], other[LOW])
    if left > right or top > low:
        return None
    return (left, top, right, low)


def in_ground(size, spot):
    return 0 <= spot[0] < size[0] and 0 <= spot[1] < size[1] and 0 <= spot[2] <= size[2]
