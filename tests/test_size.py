"""Tests of size: promise 1 (the refusal) and promise 2, as far as it speaks of a figure's size."""

import itertools
import unittest

from straightfigures.pieces import size
from tests import conduct, reference, samples


class OrdinaryFigures(unittest.TestCase):
    def test_sizes(self):
        for name, (row, answer) in samples.FIGURES.items():
            with self.subTest(name):
                self.assertEqual(size(list(row)), answer)

    def test_begun_with_any_corner(self):
        for name, (row, answer) in samples.FIGURES.items():
            for turned in samples.begun_anywhere(row):
                with self.subTest(name, row=turned):
                    self.assertEqual(size(turned), answer)

    def test_moved_to_the_bounds(self):
        for right, up in ((47, 47), (-50, -50), (47, -50), (-50, 46)):
            row = [0 + right, 0 + up, 3 + right, 0 + up, 3 + right, 3 + up, 1 + right, 2 + up]
            self.assertEqual(size(row), [6, 1])

    def test_lowest_terms(self):
        self.assertEqual(size([0, 0, 1, 0, 0, 1]), [1, 2])
        self.assertEqual(size([0, 0, 2, 0, 0, 1]), [1, 1])
        self.assertEqual(size([0, 0, 3, 0, 0, 1]), [3, 2])
        self.assertEqual(size([0, 0, 2, 0, 0, 2]), [2, 1])


class NotFigures(unittest.TestCase):
    def test_refused(self):
        for name, row in samples.not_figures():
            with self.subTest(name, row=row):
                self.assertEqual(size(list(row)), [-22])

    def test_fewest_and_most_corners(self):
        nine = samples.NINE_CORNERS
        self.assertEqual(size(nine[:4]), [-22])
        self.assertEqual(size(nine[:6]), [2, 1])
        self.assertNotEqual(size(nine[:16]), [-22])
        self.assertEqual(size(nine), [-22])

    def test_each_number_at_and_past_the_bound(self):
        square = samples.FIGURES["square at the bounds"][0]
        self.assertEqual(size(square), [10000, 1])
        for k, number in enumerate(square):
            for past in (1, 2 ** 64, samples.GREATEST - 50):
                row = list(square)
                row[k] = number + past if number > 0 else number - past
                with self.subTest(row=row):
                    self.assertEqual(size(row), [-22])

    def test_gone_round_the_other_way(self):
        for name, (row, answer) in samples.FIGURES.items():
            other = reference.row_of(reversed(reference.corner_list(row)))
            with self.subTest(name):
                self.assertEqual(size(other), [-22])


class AgainstTheReference(unittest.TestCase):
    def check(self, row):
        answer = [-22]
        if reference.is_figure(row):
            whole = reference.size_of(row)
            answer = [whole.numerator, whole.denominator]
        self.assertEqual(size(list(row)), answer, row)

    def test_every_three_corners_in_a_small_room(self):
        places = list(itertools.product(range(4), repeat=2))
        for corners in itertools.product(places, repeat=3):
            self.check(reference.row_of(corners))

    def test_every_four_corners_in_a_small_room(self):
        places = list(itertools.product(range(3), repeat=2))
        for corners in itertools.product(places, repeat=4):
            self.check(reference.row_of(corners))

    def test_some_rows(self):
        numbers = reference.Numbers(2)
        for _ in range(4000):
            count = 3 + numbers.below(6)
            reach = 1 + numbers.below(4)
            self.check(reference.row_of(numbers.corner(reach) for _ in range(count)))

    def test_some_figures_and_one_corner_changed(self):
        numbers = reference.Numbers(3)
        for row in reference.some_figures():
            self.check(row)
            for _ in range(4):
                corners = reference.corner_list(row)
                corners[numbers.below(len(corners))] = numbers.corner(3)
                self.check(reference.row_of(corners))


class SizeConduct(conduct.Conduct, unittest.TestCase):
    def call(self, row):
        return size(row)

    def cases(self):
        figures = [[row] for row, answer in samples.FIGURES.values()]
        return figures + [[row] for name, row in samples.not_figures()]


if __name__ == "__main__":
    unittest.main()
