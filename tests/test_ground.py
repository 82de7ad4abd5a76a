"""Points 1, 3 and 4: cells, spots and rectangles."""

import unittest

from dipright.ground import area, cells, common, in_ground, inside, parted

HUGE = 10 ** 40 - 1  # the greatest number of 40 figures
FAR = (HUGE, -HUGE, 10 ** 39, -(10 ** 39))
RECTS = (
    (0, 0, 0, 0), (5, 7, 5, 7), (23, 23, 23, 23),  # one cell
    (3, 4, 9, 4), (0, 23, 23, 23), (7, 4, 8, 4),  # one row
    (4, 3, 4, 9), (23, 0, 23, 23), (4, 7, 4, 8),  # one column
    (0, 0, 23, 23), (0, 0, 1, 1), (2, 5, 11, 8), (5, 2, 8, 11), (1, 1, 22, 23),
)


def small_rects(most):
    ends = [(low, high) for low in range(most + 1) for high in range(low, most + 1)]
    return [(left, top, right, low) for left, right in ends for top, low in ends]


def by_hand(rect):
    """The cells of a rectangle, as point 3 says it: tried one by one."""
    left, top, right, low = rect
    return [(x, y) for y in range(-2, 27) for x in range(-2, 27) if left <= x and x <= right and top <= y and y <= low]


class Ground(unittest.TestCase):
    def assert_plain(self, numbers):
        """A tuple of whole numbers, none of them True or False."""
        self.assertIs(type(numbers), tuple)
        for number in numbers:
            self.assertIs(type(number), int)


class Inside(Ground):
    def test_every_cell_near_every_rectangle(self):
        for rect in RECTS:
            held = set(by_hand(rect))
            for y in range(-2, 27):
                for x in range(-2, 27):
                    self.assertIs(inside(rect, (x, y)), (x, y) in held, (rect, x, y))

    def test_corners_are_in_and_what_is_beside_is_out(self):
        rect = (2, 5, 11, 8)
        for corner in ((2, 5), (11, 5), (2, 8), (11, 8)):
            self.assertIs(inside(rect, corner), True, corner)
        for beside in ((1, 5), (2, 4), (12, 5), (11, 4), (1, 8), (2, 9), (12, 8), (11, 9), (1, 6), (12, 6), (5, 4), (5, 9)):
            self.assertIs(inside(rect, beside), False, beside)

    def test_x_and_y_are_not_taken_for_one_another(self):
        self.assertIs(inside((2, 5, 11, 8), (10, 6)), True)
        self.assertIs(inside((2, 5, 11, 8), (6, 10)), False)

    def test_numbers_below_nought_and_of_forty_figures(self):
        for rect in RECTS:
            for far in FAR + (-1, -rect[0] - 1, -rect[2] - 1):
                self.assertIs(inside(rect, (far, rect[1])), False, (rect, far))
                self.assertIs(inside(rect, (rect[0], far)), False, (rect, far))
                self.assertIs(inside(rect, (far, far)), False, (rect, far))


class CellsAndArea(Ground):
    def test_by_y_and_then_by_x(self):
        self.assertEqual(cells((1, 4, 3, 5)), [(1, 4), (2, 4), (3, 4), (1, 5), (2, 5), (3, 5)])
        self.assertEqual(cells((6, 9, 6, 9)), [(6, 9)])
        self.assertEqual(cells((0, 2, 2, 2)), [(0, 2), (1, 2), (2, 2)])
        self.assertEqual(cells((2, 0, 2, 2)), [(2, 0), (2, 1), (2, 2)])

    def test_just_those_inside_and_as_many_as_the_area(self):
        for rect in RECTS:
            with self.subTest(rect=rect):
                told = cells(rect)
                self.assertEqual(told, by_hand(rect))
                self.assertEqual(area(rect), len(told))
                near = [(x, y) for y in range(-1, 26) for x in range(-1, 26)]
                self.assertEqual(told, [cell for cell in near if inside(rect, cell)])

    def test_every_size_up_to_the_greatest(self):
        for wide in range(1, 25):
            for tall in range(1, 25):
                self.assertEqual(area((0, 0, wide - 1, tall - 1)), wide * tall)
                self.assertEqual(area((24 - wide, 24 - tall, 23, 23)), wide * tall)

    def test_areas(self):
        self.assertEqual(area((0, 0, 0, 0)), 1)
        self.assertEqual(area((3, 4, 9, 4)), 7)
        self.assertEqual(area((4, 3, 4, 9)), 7)
        self.assertEqual(area((2, 5, 11, 8)), 40)
        self.assertEqual(area((0, 0, 23, 23)), 576)

    def test_kinds(self):
        for rect in RECTS:
            told = cells(rect)
            self.assertIs(type(told), list)
            for cell in told:
                self.assert_plain(cell)
                self.assertEqual(len(cell), 2)
            self.assertIs(type(area(rect)), int)

    def test_a_told_list_is_the_callers_own(self):
        for rect in RECTS:
            with self.subTest(rect=rect):
                told = cells(rect)
                self.assertIsNot(cells(rect), told)
                told.append((99, 99))
                told.reverse()
                self.assertEqual(cells(rect), by_hand(rect))
                told.clear()
                self.assertEqual(cells(rect), by_hand(rect))
                self.assertEqual(area(rect), len(by_hand(rect)))
                self.assertIs(inside(rect, (99, 99)), False)


class Common(Ground):
    def both_ways(self, one, other, asked):
        for first, second in ((one, other), (other, one)):
            told = common(first, second)
            self.assertEqual(told, asked, (first, second))
            if told is not None:
                self.assert_plain(told)

    def test_one_in_another(self):
        self.both_ways((0, 0, 23, 23), (5, 7, 9, 8), (5, 7, 9, 8))
        self.both_ways((2, 3, 8, 9), (4, 5, 4, 5), (4, 5, 4, 5))
        self.both_ways((2, 3, 8, 9), (2, 3, 8, 4), (2, 3, 8, 4))

    def test_alike(self):
        for rect in RECTS:
            self.both_ways(rect, tuple(rect), rect)

    def test_crossing(self):
        self.both_ways((0, 5, 23, 6), (7, 0, 9, 23), (7, 5, 9, 6))
        self.both_ways((1, 2, 6, 8), (4, 5, 10, 12), (4, 5, 6, 8))
        self.both_ways((1, 5, 6, 12), (4, 2, 10, 8), (4, 5, 6, 8))

    def test_touching_by_one_cell(self):
        self.both_ways((1, 2, 4, 5), (4, 5, 9, 9), (4, 5, 4, 5))
        self.both_ways((1, 5, 4, 9), (4, 2, 9, 5), (4, 5, 4, 5))

    def test_touching_by_a_row_or_a_column(self):
        self.both_ways((1, 2, 4, 5), (4, 2, 9, 5), (4, 2, 4, 5))
        self.both_ways((1, 2, 4, 5), (1, 5, 4, 9), (1, 5, 4, 5))

    def test_side_by_side_without_a_common_cell(self):
        self.both_ways((1, 2, 4, 5), (5, 2, 9, 5), None)
        self.both_ways((1, 2, 4, 5), (1, 6, 4, 9), None)
        self.both_ways((1, 2, 4, 5), (5, 6, 9, 9), None)
        self.both_ways((5, 2, 9, 5), (1, 6, 4, 9), None)
        self.both_ways((0, 0, 0, 0), (23, 23, 23, 23), None)
        self.both_ways((0, 0, 23, 0), (0, 1, 23, 1), None)
        self.both_ways((0, 0, 0, 23), (1, 0, 1, 23), None)
        self.both_ways((1, 1, 4, 4), (2, 6, 3, 9), None)
        self.both_ways((1, 1, 4, 4), (6, 2, 9, 3), None)

    def test_all_pairs_of_small_rectangles(self):
        rects = small_rects(3)
        held = {rect: set(by_hand(rect)) for rect in rects}
        for one in rects:
            for other in rects:
                both = held[one] & held[other]
                told = common(one, other)
                if both:
                    self.assertEqual(held[told], both, (one, other))
                else:
                    self.assertIsNone(told, (one, other))


class InGround(Ground):
    SIZES = ((1, 1, 0), (24, 24, 12), (24, 1, 0), (1, 24, 12), (7, 5, 3), (5, 7, 3), (3, 5, 7), (2, 2, 1))

    def test_each_number_at_its_ends_and_beyond(self):
        for size in self.SIZES:
            wide, tall, deep = size
            for place, last in ((0, wide - 1), (1, tall - 1), (2, deep)):
                for base in ((0, 0, 0), (wide - 1, tall - 1, deep)):
                    for value, good in ((0, True), (last, True), (-1, False), (last + 1, False), (-last - 1, False)):
                        spot = base[:place] + (value,) + base[place + 1:]
                        self.assertIs(in_ground(size, spot), good, (size, spot))
                    for value in FAR:
                        spot = base[:place] + (value,) + base[place + 1:]
                        self.assertIs(in_ground(size, spot), False, (size, spot))

    def test_every_triple_near_small_districts(self):
        for size in ((1, 1, 0), (3, 2, 0), (2, 3, 1), (3, 4, 2), (1, 2, 4)):
            spots = {(x, y, z) for x in range(size[0]) for y in range(size[1]) for z in range(size[2] + 1)}
            for x in range(-2, 7):
                for y in range(-2, 7):
                    for z in range(-2, 7):
                        self.assertIs(in_ground(size, (x, y, z)), (x, y, z) in spots, (size, x, y, z))

    def test_a_district_without_floors_has_its_surface(self):
        self.assertIs(in_ground((4, 3, 0), (3, 2, 0)), True)
        self.assertIs(in_ground((4, 3, 0), (3, 2, 1)), False)


class Parted(Ground):
    def test_by_x(self):
        self.assertEqual(parted((2, 5, 11, 8), 0, 6), ((2, 5, 5, 8), (6, 5, 11, 8)))

    def test_by_y(self):
        self.assertEqual(parted((2, 5, 11, 8), 1, 7), ((2, 5, 11, 6), (2, 7, 11, 8)))

    def test_the_ends(self):
        self.assertIsNone(parted((2, 5, 11, 8), 0, 2))
        self.assertEqual(parted((2, 5, 11, 8), 0, 3), ((2, 5, 2, 8), (3, 5, 11, 8)))
        self.assertEqual(parted((2, 5, 11, 8), 0, 11), ((2, 5, 10, 8), (11, 5, 11, 8)))
        self.assertIsNone(parted((2, 5, 11, 8), 0, 12))
        self.assertIsNone(parted((2, 5, 11, 8), 1, 5))
        self.assertEqual(parted((2, 5, 11, 8), 1, 6), ((2, 5, 11, 5), (2, 6, 11, 8)))
        self.assertEqual(parted((2, 5, 11, 8), 1, 8), ((2, 5, 11, 7), (2, 8, 11, 8)))
        self.assertIsNone(parted((2, 5, 11, 8), 1, 9))

    def test_every_line_near_every_rectangle(self):
        for rect in RECTS:
            for side in (0, 1):
                least, most = rect[side], rect[side + 2]
                for line in tuple(range(-3, 28)) + FAR:
                    told = parted(rect, side, line)
                    if least < line and line <= most:
                        self.check_pieces(rect, side, line, told)
                    else:
                        self.assertIsNone(told, (rect, side, line))

    def check_pieces(self, rect, side, line, told):
        where = (rect, side, line)
        self.assertIs(type(told), tuple, where)
        self.assertEqual(len(told), 2, where)
        for piece in told:
            self.assert_plain(piece)
        ahead, behind = by_hand(told[0]), by_hand(told[1])
        self.assertEqual(ahead, [cell for cell in by_hand(rect) if cell[side] < line], where)
        self.assertEqual(behind, [cell for cell in by_hand(rect) if cell[side] >= line], where)
        self.assertEqual(sorted(ahead + behind), sorted(by_hand(rect)), where)

    def test_pieces_hold_the_whole_and_no_cell_twice(self):
        for rect in RECTS:
            for side in (0, 1):
                for line in range(rect[side] + 1, rect[side + 2] + 1):
                    ahead, behind = parted(rect, side, line)
                    self.assertIsNone(common(ahead, behind))
                    self.assertEqual(sorted(cells(ahead) + cells(behind)), sorted(cells(rect)))
                    self.assertEqual(area(ahead) + area(behind), area(rect))

    def test_one_cell_cannot_be_parted(self):
        for line in range(-2, 27):
            self.assertIsNone(parted((5, 7, 5, 7), 0, line))
            self.assertIsNone(parted((5, 7, 5, 7), 1, line))

    def test_below_nought(self):
        for line in (-1, -6, -HUGE):
            self.assertIsNone(parted((0, 0, 23, 23), 0, line))
            self.assertIsNone(parted((0, 0, 23, 23), 1, line))


if __name__ == "__main__":
    unittest.main()
