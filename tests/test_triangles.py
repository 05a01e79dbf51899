"""Tests of triangles: promise 1 (the refusal) and promise 2 (what a figure is cut up into)."""

import itertools
import unittest
from fractions import Fraction

from straightfigures.pieces import size, triangles
from tests import conduct, reference, samples

# Worked out by hand: of each triangle a row.
CUT_UP = {
    "smallest triangle": [[0, 0, 1, 0, 0, 1]],
    "triangle of half size": [[-1, -1, 2, 0, 0, 3]],
    "triangle at the bounds": [[-50, -50, 50, -50, -50, 50]],
    "square": [[0, 2, 0, 0, 2, 0], [2, 0, 2, 2, 0, 2]],
    "square at the bounds": [[-50, 50, -50, -50, 50, -50], [50, -50, 50, 50, -50, 50]],
    # In the first corner's triangle lies the inner corner.
    "four corners, one inner": [[0, 0, 4, 0, 1, 1], [0, 0, 1, 1, 0, 4]],
    "five corners": [[0, 1, 0, 0, 3, 0], [0, 1, 3, 0, 3, 1], [3, 1, 1, 2, 0, 1]],
    "five corners, one inner": [[4, 0, 4, 4, 2, 1], [0, 0, 4, 0, 2, 1], [0, 0, 2, 1, 0, 4]],
    "six corners": [[0, 1, 1, 0, 2, 0], [0, 1, 2, 0, 3, 1], [0, 1, 3, 1, 2, 2], [2, 2, 1, 2, 0, 1]],
    "angle of six corners": [[0, 0, 3, 0, 3, 1], [0, 0, 3, 1, 1, 1], [0, 3, 0, 0, 1, 1], [1, 1, 1, 3, 0, 3]],
    "crown of seven corners": [
        [4, 0, 4, 3, 3, 1], [0, 0, 4, 0, 3, 1], [3, 1, 2, 3, 1, 1], [0, 0, 3, 1, 1, 1], [0, 0, 1, 1, 0, 3],
    ],
    "eight corners": [
        [0, 1, 1, 0, 2, 0], [0, 1, 2, 0, 3, 1], [0, 1, 3, 1, 3, 2],
        [0, 1, 3, 2, 2, 3], [0, 1, 2, 3, 1, 3], [1, 3, 0, 2, 0, 1],
    ],
    "cup of eight corners": [
        [3, 0, 3, 4, 2, 3], [3, 0, 2, 3, 2, 1], [0, 0, 3, 0, 2, 1],
        [0, 0, 2, 1, 1, 1], [0, 3, 0, 0, 1, 1], [1, 1, 1, 3, 0, 3],
    ],
    # Inner corners become ears once their neighbours are cut off.
    "star of eight corners": [
        [-1, -1, 0, -3, 1, -1], [-1, -1, 1, -1, 3, 0], [-1, -1, 3, 0, 1, 1],
        [-1, -1, 1, 1, 0, 3], [-1, -1, 0, 3, -1, 1], [-1, 1, -3, 0, -1, -1],
    ],
}


def answer_of(rows):
    return [len(rows)] + [number for row in rows for number in row]


def triangles_in(answer):
    corners = reference.corner_list(answer[1:])
    return [tuple(corners[k:k + 3]) for k in range(0, len(corners), 3)]


class VeryTriangles(unittest.TestCase):
    def test_by_hand(self):
        for name, rows in CUT_UP.items():
            with self.subTest(name):
                self.assertEqual(triangles(list(samples.FIGURES[name][0])), answer_of(rows))

    def test_seven_corners_without_an_inner_one(self):
        rows = [
            [7, 12, 0, 0, 4, 0], [7, 12, 4, 0, 7, 1], [7, 12, 7, 1, 9, 3], [7, 12, 9, 3, 10, 6], [10, 6, 10, 9, 7, 12],
        ]
        self.assertEqual(triangles(samples.NINE_CORNERS[:14]), answer_of(rows))

    def test_three_corners_are_told_from_the_first_on(self):
        self.assertEqual(triangles([1, 0, 0, 1, 0, 0]), [1, 1, 0, 0, 1, 0, 0])
        self.assertEqual(triangles([0, 1, 0, 0, 1, 0]), [1, 0, 1, 0, 0, 1, 0])

    def test_the_first_corner_is_an_inner_one(self):
        rows = [[1, 1, 0, 4, 0, 0], [1, 1, 0, 0, 4, 0]]
        self.assertEqual(triangles([1, 1, 0, 4, 0, 0, 4, 0]), answer_of(rows))

    def test_a_corner_on_the_border_of_the_first_triangles(self):
        # (1, 1) lies on the third side of the triangles at (0, 0) and (2, 0); once
        # (3, 3) is cut off it is straight itself, and so no ear.
        rows = [[2, 0, 3, 3, 1, 1], [0, 0, 2, 0, 1, 1], [0, 0, 1, 1, 0, 2]]
        self.assertEqual(triangles([0, 0, 2, 0, 3, 3, 1, 1, 0, 2]), answer_of(rows))

    def test_a_straight_corner_comes_first(self):
        # (1, 1) is an inner corner at first, and straight once (0, 2) is cut off.
        rows = [[1, 1, 0, 2, 0, 0], [1, 1, 0, 0, 2, 0], [1, 1, 2, 0, 3, 3]]
        self.assertEqual(triangles([1, 1, 0, 2, 0, 0, 2, 0, 3, 3]), answer_of(rows))

    def test_one_begins_again_with_the_first_corner(self):
        # (0, 0) is an ear once (6, 0) is cut off, and comes before (2, 1), which is one then, too.
        rows = [[0, 0, 6, 0, 2, 1], [0, 6, 0, 0, 2, 1], [2, 1, 3, 3, 0, 6]]
        self.assertEqual(triangles([0, 0, 6, 0, 2, 1, 3, 3, 0, 6]), answer_of(rows))


class WhatHolds(unittest.TestCase):
    def check(self, row):
        answer = triangles(list(row))
        parts = triangles_in(answer)
        self.assertEqual(answer[0], len(row) // 2 - 2, row)
        self.assertEqual(len(answer), 1 + 6 * answer[0], row)
        sizes = [size(reference.row_of(part)) for part in parts]
        self.assertNotIn([-22], sizes, row)
        self.assertEqual(sum(Fraction(*part) for part in sizes), Fraction(*size(list(row))), row)
        for one, other in itertools.combinations(parts, 2):
            self.assertTrue(reference.keep_apart(one, other), row)
        self.assertEqual(parts, reference.cut_up(reference.corner_list(row)), row)

    def test_samples_begun_anywhere(self):
        for row, whole in samples.FIGURES.values():
            for turned in samples.begun_anywhere(row):
                self.check(turned)

    def test_every_four_corners_in_a_small_room(self):
        places = list(itertools.product(range(3), repeat=2))
        for corners in itertools.product(places, repeat=4):
            row = reference.row_of(corners)
            if reference.is_figure(row):
                self.check(row)

    def test_some_figures(self):
        for row in reference.some_figures():
            self.check(row)


class NotFigures(unittest.TestCase):
    def test_refused(self):
        for name, row in samples.not_figures():
            with self.subTest(name, row=row):
                self.assertEqual(triangles(list(row)), [-22])

    def test_gone_round_the_other_way(self):
        for name, (row, whole) in samples.FIGURES.items():
            other = reference.row_of(reversed(reference.corner_list(row)))
            with self.subTest(name):
                self.assertEqual(triangles(other), [-22])

    def test_refused_just_where_the_reference_does(self):
        numbers = reference.Numbers(4)
        for _ in range(2000):
            count = 3 + numbers.below(6)
            row = reference.row_of(numbers.corner(3) for _ in range(count))
            self.assertEqual(triangles(list(row)) != [-22], reference.is_figure(row), row)


class TrianglesConduct(conduct.Conduct, unittest.TestCase):
    def call(self, row):
        return triangles(row)

    def cases(self):
        figures = [[row] for row, whole in samples.FIGURES.values()]
        return figures + [[row] for name, row in samples.not_figures()]


if __name__ == "__main__":
    unittest.main()
