"""Tests of where1: promise 1 (the refusal) and what is told of a point within, on the border and outside."""

import itertools
import unittest
from fractions import Fraction

from straightfigures.pieces import where1
from tests import conduct, reference, samples
from tests.reference import along

GREATEST = samples.GREATEST

# Worked out by hand: of each figure some points within (2), on the border (1) and outside (0).
PLACES = {
    "smallest triangle": {
        2: ["1/3 1/3", "1/1000 1/1000", "1/2 499/1000"],
        1: ["0 0", "1 0", "0 1", "1/2 0", "0 1/2", "1/2 1/2", "1/3 2/3"],
        0: ["1 1", "-1/2 0", "2 0", "0 -1", "0 2", "-1 2", "2 -1", "1/2 501/1000"],
    },
    "square": {
        2: ["1 1", "1/3 5/3", "1999/1000 1/1000"],
        1: ["0 0", "2 0", "2 2", "0 2", "1 0", "2 1", "1 2", "0 1", "1/7 2", "2 13/7"],
        0: ["-1 0", "3 0", "-1 2", "3 2", "0 -1", "0 3", "2 -1", "2 3", "-1 1", "3 1", "1 -1", "1 3", "2001/1000 1"],
    },
    "four corners, one inner": {
        # The last lies on the line of the side that ends in the inner corner, and so within.
        2: ["1/2 1", "1 1/2", "999/1000 999/1000", "1/10 3", "7/6 1/2"],
        1: ["1 1", "0 0", "4 0", "0 4", "1/2 5/2", "5/2 1/2", "2 0", "0 2"],
        0: ["2 1", "1 2", "1001/1000 1001/1000", "2 2", "-1 1", "1 -1", "5 0", "0 5", "-1 7", "2 -2"],
    },
    "five corners, one inner": {
        2: ["2 1/2", "1 1", "3 1", "2 999/1000", "1/10 3", "39/10 3"],
        1: ["2 1", "0 4", "4 4", "1 5/2", "3 5/2", "2 0", "4 1", "0 1"],
        0: ["2 1001/1000", "2 2", "2 4", "-1 1", "5 1", "-1 4", "5 4", "-1 0", "5 0", "1 4", "2 -1", "2 5"],
    },
    "angle of six corners": {
        2: ["1/2 1", "1 1/2", "1/2 1/2", "1/2 2", "2 1/2", "999/1000 999/1000"],
        1: ["1 1", "2 1", "1 2", "3 1/2", "3/2 0", "3 1", "1 3", "1/2 3"],
        0: ["2 2", "1001/1000 1001/1000", "4 1", "1 4", "-1 1", "1 -1", "-1 0", "4 0", "0 -1", "0 4", "3 2", "2 3"],
    },
    "crown of seven corners": {
        2: ["2 1", "1/2 1", "7/2 1", "1 1/2", "3 1/2", "2 2", "2 299/100", "1/100 5/2"],
        1: ["3 1", "1 1", "2 3", "0 3", "4 3", "4 1", "0 1", "2 0", "1/2 2", "5/2 2"],
        0: ["1 2", "3 2", "1 3", "3 3", "-1 1", "5 1", "-1 3", "5 3", "2 4", "1 1001/1000", "-1 0", "5 0", "1 -1"],
    },
    "eight corners": {
        2: ["3/2 3/2", "1/2 1", "1 1/100", "1 1", "2 2", "5/2 2"],
        1: ["1 0", "3 2", "1/2 1/2", "5/2 5/2", "3 3/2", "0 3/2"],
        0: ["0 0", "3 3", "3 0", "0 3", "4 1", "4 2", "0 1/2", "1 4", "-1 1", "-1 2", "3 -1", "0 4"],
    },
    "cup of eight corners": {
        2: ["1/2 1", "5/2 1", "3/2 1/2", "1 1/2", "2 1/2", "1/2 2", "5/2 3", "29/10 19/5"],
        1: ["3/2 1", "1 1", "2 1", "2 2", "1 2", "5/2 7/2", "2 3", "3 3", "0 1", "3 4"],
        0: ["3/2 2", "3/2 3", "3/2 1001/1000", "3/2 4", "2 4", "-1 1", "4 1", "-1 3", "4 3", "1 4", "5/2 4", "4 5"],
    },
    "star of eight corners": {
        2: ["0 0", "2 0", "-2 0", "0 2", "0 -2", "0 1", "0 -1", "1 0", "-1 0", "299/100 0", "99/100 99/100"],
        1: ["1 1", "-1 -1", "0 3", "-3 0", "2 1/2", "1/2 2", "-1/2 -2"],
        0: ["4 0", "-4 0", "0 4", "0 -4", "2 1", "2 -1", "-2 1", "-2 -1", "1 2", "-1 -2", "0 -301/100", "3/2 3/2"],
    },
}


def point_of(text):
    return tuple(Fraction(part) for part in text.split())


def sides_of(row):
    return reference.sides_of(reference.corner_list(row))


class WhereTest(unittest.TestCase):
    def check(self, row, point, answer):
        z = samples.point_row(point)
        self.assertEqual(where1(list(row), z), [answer], (row, z))


class ByHand(WhereTest):
    def test_places(self):
        for name, places in PLACES.items():
            for turned in samples.begun_anywhere(samples.FIGURES[name][0]):
                for answer, texts in places.items():
                    for text in texts:
                        self.check(turned, point_of(text), answer)

    def test_at_the_bounds(self):
        row = samples.FIGURES["square at the bounds"][0]
        for place, answer in (("49999/1000", 2), ("50", 1), ("50001/1000", 0), ("51", 0)):
            for sign, other in itertools.product((1, -1), (Fraction(0), Fraction(50), Fraction(-50))):
                edge = sign * Fraction(place)
                expected = answer if other == 0 else min(answer, 1)
                self.check(row, (edge, other), expected)
                self.check(row, (other, edge), expected)

    def test_the_rows_themselves(self):
        self.assertEqual(where1([0, 0, 2, 0, 2, 2, 0, 2], [1, 2, 3, 2]), [2])
        self.assertEqual(where1([0, 0, 2, 0, 2, 2, 0, 2], [2, 1, 3, 2]), [1])
        self.assertEqual(where1([0, 0, 2, 0, 2, 2, 0, 2], [5, 2, 3, 2]), [0])
        self.assertEqual(where1([0, 0, 2, 0, 2, 2, 0, 2], [-1, 2, 3, 2]), [0])


class OnAndBesideTheBorder(WhereTest):
    def figures(self):
        return [row for row, whole in samples.FIGURES.values()] + reference.some_figures()[::5]

    def test_each_corner(self):
        for row in self.figures():
            for corner in reference.corner_list(row):
                self.check(row, corner, 1)

    def test_on_each_side_also_close_to_its_ends(self):
        for row in self.figures():
            for a, b in sides_of(row):
                for part in (Fraction(1, 2), Fraction(1, 7), Fraction(1, 2 ** 240), 1 - Fraction(1, 2 ** 240)):
                    self.check(row, along(a, b, part), 1)

    def test_a_little_to_the_left_and_right_of_each_side(self):
        near = Fraction(1, 2 ** 200)
        for row in self.figures():
            for a, b in sides_of(row):
                for part in (Fraction(1, 2), Fraction(1, 2 ** 20), 1 - Fraction(1, 2 ** 20)):
                    right, up = along(a, b, part)
                    over, upward = (a[1] - b[1]) * near, (b[0] - a[0]) * near
                    self.check(row, (right + over, up + upward), 2)
                    self.check(row, (right - over, up - upward), 0)

    def test_on_the_line_of_a_side_but_past_its_ends(self):
        for row in self.figures():
            for a, b in sides_of(row):
                for part in (Fraction(-1, 1000), Fraction(1001, 1000), Fraction(-1, 2), Fraction(3, 2)):
                    point = along(a, b, part)
                    self.check(row, point, reference.where(row, point))

    def test_in_the_notch_at_each_inner_corner(self):
        notches = 0
        for row in self.figures():
            corners = reference.corner_list(row)
            for k, corner in enumerate(corners):
                triangle = (corners[k - 1], corner, corners[(k + 1) % len(corners)])
                middle = along(along(corner, triangle[0], Fraction(1, 10 ** 9)), triangle[2], Fraction(1, 10 ** 9))
                if reference.size_of(reference.row_of(triangle)) < 0:
                    notches += 1
                    self.check(row, middle, 0)
                else:
                    self.check(row, middle, 2)
        self.assertGreater(notches, 50)


class AgainstTheReference(WhereTest):
    def test_all_around_in_steps_of_a_half(self):
        for row, whole in samples.FIGURES.values():
            if max(map(abs, row)) <= 9:
                rights = range(2 * min(row[0::2]) - 2, 2 * max(row[0::2]) + 3)
                ups = range(2 * min(row[1::2]) - 2, 2 * max(row[1::2]) + 3)
                for right, up in itertools.product(rights, ups):
                    point = (Fraction(right, 2), Fraction(up, 2))
                    self.check(row, point, reference.where(row, point))

    def test_straight_beside_above_and_below_each_corner(self):
        for row in reference.some_figures()[::12]:
            for right, up in reference.corner_list(row):
                for far in (Fraction(1, 3), Fraction(1), Fraction(7, 2)):
                    for point in ((right + far, up), (right - far, up), (right, up + far), (right, up - far)):
                        self.check(row, point, reference.where(row, point))

    def test_some_points(self):
        numbers = reference.Numbers(5)
        for row in reference.some_figures():
            reach = max(map(abs, row)) + 1
            for _ in range(5):
                parts = 1 + numbers.below(6)
                point = tuple(Fraction(number, parts) for number in numbers.corner(reach * parts))
                self.check(row, point, reference.where(row, point))


class VeryGreatNumbers(WhereTest):
    def test_close_to_upright_and_level_sides(self):
        one, two = [-1, -1, 1, -1, 1, 1, -1, 1], [0, 0, 2, 0, 2, 2, 0, 2]
        for row, edge, answer in (
            (one, [GREATEST - 1, GREATEST], 2),
            (one, [GREATEST, GREATEST - 1], 0),
            (one, [1 - GREATEST, GREATEST], 2),
            (one, [-GREATEST, GREATEST - 1], 0),
            (two, [1, GREATEST], 2),
            (two, [-1, GREATEST], 0),
            (two, [GREATEST, 2 ** 255], 2),
            (two, [GREATEST, 2 ** 255 - 1], 0),
        ):
            for other in ([1, 3], [1, GREATEST - 1], [GREATEST - 2, GREATEST - 1]):
                self.assertEqual(where1(list(row), edge + other), [answer])
                self.assertEqual(where1(list(row), other + edge), [answer])

    def test_close_to_a_slanting_side(self):
        row = [0, 0, 1, 0, 0, 1]
        less, more = GREATEST // 2, GREATEST // 2 + 1
        for z, answer in (
            ([less, GREATEST, more, GREATEST], 1),
            ([less, GREATEST, less, GREATEST], 2),
            ([more, GREATEST, more, GREATEST], 0),
            ([1, GREATEST, GREATEST - 2, GREATEST - 1], 2),
            ([1, GREATEST - 1, GREATEST - 1, GREATEST], 0),
            ([1, GREATEST, GREATEST - 1, GREATEST], 1),
            ([GREATEST - 1, GREATEST, 1, GREATEST], 1),
        ):
            self.assertEqual(where1(list(row), z), [answer], z)

    def test_close_to_an_inner_corner(self):
        row = samples.FIGURES["angle of six corners"][0]
        under, over = [GREATEST - 1, GREATEST], [GREATEST, GREATEST - 1]
        self.assertEqual(where1(list(row), under + under), [2])
        self.assertEqual(where1(list(row), under + over), [2])
        self.assertEqual(where1(list(row), over + under), [2])
        self.assertEqual(where1(list(row), over + over), [0])
        self.assertEqual(where1(list(row), [1, 1] + over), [1])
        self.assertEqual(where1(list(row), over + [1, 1]), [1])
        self.assertEqual(where1(list(row), [1, 1] + under), [2])

    def test_far_away(self):
        parts = ([GREATEST, 1], [-GREATEST, 1], [GREATEST, 2], [-GREATEST, 2 ** 245], [GREATEST, 2 ** 249 - 1])
        near = ([0, 1], [1, 1], [1, 2], [1, GREATEST], [GREATEST, GREATEST - 1])
        for row, whole in samples.FIGURES.values():
            for far in parts:
                for other in near + parts:
                    self.assertEqual(where1(list(row), far + other), [0])
                    self.assertEqual(where1(list(row), other + far), [0])


class Refusals(unittest.TestCase):
    def test_not_a_point(self):
        for name, z in samples.NOT_POINTS.items():
            for row, whole in samples.FIGURES.values():
                with self.subTest(name, row=row):
                    self.assertEqual(where1(list(row), list(z)), [-22])

    def test_not_a_figure(self):
        for name, row in samples.not_figures():
            for z in ([0, 1, 0, 1], [1, 2, 1, 3], [GREATEST, GREATEST - 1, -GREATEST, 2], [], [2, 4, 0, 1], [1, 0, 1, 0]):
                with self.subTest(name, row=row, z=z):
                    self.assertEqual(where1(list(row), list(z)), [-22])

    def test_a_figure_gone_round_the_other_way(self):
        for row, whole in samples.FIGURES.values():
            other = reference.row_of(reversed(reference.corner_list(row)))
            self.assertEqual(where1(other, [1, 2, 1, 2]), [-22])

    def test_each_fraction_in_lowest_terms_or_not(self):
        row = [-9, -9, 9, -9, 9, 9, -9, 9]
        for upper, lower in itertools.product(range(-12, 13), range(-3, 13)):
            told = lower > 0 and Fraction(upper, lower).as_integer_ratio() == (upper, lower)
            for z in ([upper, lower, 0, 1], [0, 1, upper, lower]):
                answer = -22
                if told:
                    answer = 2 if abs(upper) < 9 * lower else 1 if abs(upper) == 9 * lower else 0
                self.assertEqual(where1(list(row), z), [answer], z)


class Where1Conduct(conduct.Conduct, unittest.TestCase):
    def call(self, row, z):
        return where1(row, z)

    def cases(self):
        points = [[0, 1, 0, 1], [1, 2, 1, 3], [GREATEST, GREATEST - 1, 1, 2]]
        figures = [[row, z] for row, whole in samples.FIGURES.values() for z in points]
        square = samples.FIGURES["square"][0]
        wrong = [[square, z] for z in samples.NOT_POINTS.values()]
        return figures + wrong + [[row, points[0]] for name, row in samples.not_figures()]


if __name__ == "__main__":
    unittest.main()
