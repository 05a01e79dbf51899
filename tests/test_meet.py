"""Tests of meet: promise 1 (the refusal) and promise 2 (what two pieces have in common)."""

import itertools
import unittest
from fractions import Fraction

from straightfigures.pieces import meet
from tests import conduct, reference, samples
from tests.samples import answer_of

GREATEST = samples.GREATEST

SQUARE = "0 0, 4 0, 4 4, 0 4"

# Worked out by hand: two pieces, then what they have in common.
OVERLAPS = {
    "two squares": ("0 0, 2 0, 2 2, 0 2", "1 1, 3 1, 3 3, 1 3", "1 1, 2 1, 2 2, 1 2"),
    "two squares, above and below": ("0 1, 2 1, 2 3, 0 3", "1 0, 3 0, 3 2, 1 2", "1 1, 2 1, 2 2, 1 2"),
    "a cross": ("0 1, 6 1, 6 2, 0 2", "2 -1, 5/2 -1, 5/2 4, 2 4", "2 1, 5/2 1, 5/2 2, 2 2"),
    "two triangles that make a star": ("0 0, 6 0, 3 6", "0 4, 3 -2, 6 4", "1 2, 2 0, 4 0, 5 2, 4 4, 2 4"),
    "a square and one on its corner": (
        "-2 -2, 2 -2, 2 2, -2 2", "0 -3, 3 0, 0 3, -3 0", "-2 -1, -1 -2, 1 -2, 2 -1, 2 1, 1 2, -1 2, -2 1",
    ),
    "a corner in a side": (SQUARE, "3 1, 6 0, 6 4", "3 1, 4 2/3, 4 2"),
    "corners that are thirds and sevenths": (
        "0 0, 1 0, 0 1", "1/3 1/7, 1 1/7, 1 1, 1/3 1", "1/3 1/7, 6/7 1/7, 1/3 2/3",
    ),
    "two thin ones": ("0 0, 10 1, 10 2", "0 3, 10 0, 10 1", "6 6/5, 15/2 3/4, 10 1, 15/2 3/2"),
}

WITHIN = {
    "all around free": (SQUARE, "1 1, 3 1, 2 3"),
    "from one corner": (SQUARE, "0 0, 2 1, 1 2"),
    "a corner on a side": (SQUARE, "0 1, 2 1, 2 3"),
    "a corner on each side": (SQUARE, "0 2, 2 0, 4 2, 2 4"),
    "on a whole side": (SQUARE, "0 0, 4 0, 2 1"),
    "on a stretch of a side": (SQUARE, "1 0, 3 0, 2 1"),
    "on two sides": (SQUARE, "0 0, 1/2 0, 1/2 1/2, 0 1/2"),
    "on three sides": (SQUARE, "0 0, 1 0, 1 4, 0 4"),
    "across from corner to corner": (SQUARE, "0 0, 4 4, 0 4"),
    "a piece less a corner": (SQUARE, "0 1, 1 0, 4 0, 4 4, 0 4"),
}

ONE_LINE = {
    "the whole side": ("0 0, 1 0, 0 1", "0 0, 1 0, 1 1", "0 0, 1 0, 1/2 1/2"),
    "a stretch": ("0 0, 4 0, 0 4", "1 0, 5 0, 5 4", "1 0, 4 0, 5/2 3/2"),
    "one side in the other": ("0 0, 4 0, 0 4", "1 0, 2 0, 2 5, 1 5", "1 0, 2 0, 2 2, 1 3"),
    "one end in common": ("0 0, 4 0, 0 4", "0 0, 2 0, 2 4", "0 0, 2 0, 2 2, 4/3 8/3"),
    "a stretch aslant": ("0 0, 6 3, 0 3", "2 1, 8 4, 2 4", "2 1, 6 3, 2 3"),
    "a stretch upright": ("0 0, 2 0, 2 2, 0 2", "0 1, 1 1, 1 3, 0 3", "0 1, 1 1, 1 2, 0 2"),
    "two sides each": ("0 0, 4 0, 4 2, 0 2", "1 0, 6 0, 6 2, 1 2", "1 0, 4 0, 4 2, 1 2"),
    "two sides from one corner": ("0 0, 4 0, 0 2", "0 0, 2 0, 0 4", "0 0, 2 0, 4/3 4/3, 0 2"),
}

THROUGH_A_CORNER = {
    "from corner to corner": (SQUARE, "-1 -1, 5 5, -1 5", "0 0, 4 4, 0 4"),
    "through one corner": (SQUARE, "-4 4, 12 -4, 12 12", "0 2, 4 0, 4 4, 0 4"),
    "through one corner, the other side of it": (SQUARE, "-4 4, -4 -4, 12 -4", "0 0, 4 0, 0 2"),
    "two sides, each through a corner": (SQUARE, "-2 -1, 6 3, 6 5, -2 1", "0 0, 4 2, 4 4, 0 2"),
    "four sides, each past a corner": (SQUARE, "2 -2, 6 2, 2 6, -2 2", SQUARE),
    "a corner on a corner": (SQUARE, "2 2, 4 4, 2 6", "2 2, 4 4, 2 4"),
    "a corner on a corner, and through another": (SQUARE, "0 0, 8 0, 0 8", "0 0, 4 0, 4 4, 0 4"),
}

NOTHING = {
    "far apart": (SQUARE, "10 10, 11 10, 10 11"),
    "side by side": (SQUARE, "5 0, 9 0, 9 4, 5 4"),
    "one above the other": (SQUARE, "1 9/2, 3 9/2, 2 7"),
    "in the same room, aslant": ("0 0, 4 0, 0 4", "3 3, 4 3, 4 4"),
    "aslant by a hair": ("0 0, 4 0, 0 4", "2 2001/1000, 4 1, 4 4"),
    "a corner at a corner": (SQUARE, "4 4, 8 4, 8 8, 4 8"),
    "a corner at a corner, sides on one line": (SQUARE, "4 4, 8 8, 4 8"),
    "a corner on an upright side": (SQUARE, "4 1, 6 0, 6 2"),
    "a corner on a level side": (SQUARE, "1 -1, 3 -1, 2 0"),
    "a corner on a slanting side": ("0 0, 4 0, 0 4", "1 3, 4 3, 4 4"),
    "a whole side": (SQUARE, "4 0, 8 0, 8 4, 4 4"),
    "a stretch of both sides": (SQUARE, "4 1, 8 1, 8 5, 4 5"),
    "a side within a side": (SQUARE, "1 4, 3 4, 2 6"),
    "a slanting side": ("0 0, 4 0, 0 4", "4 0, 4 4, 0 4"),
    "a stretch of a slanting side": ("0 0, 4 0, 0 4", "5 -1, 5 9, 2 2"),
}


class MeetTest(unittest.TestCase):
    def check(self, one, other, answer):
        """The same must be answered whatever the order, and whichever corners are told first."""
        for p in samples.begun_anywhere(samples.piece_row(one), 4):
            for q in samples.begun_anywhere(samples.piece_row(other), 4):
                self.assertEqual(meet(list(p), list(q)), answer, (p, q))
                self.assertEqual(meet(list(q), list(p)), answer, (q, p))

    def check_by_reference(self, one, other):
        corners = reference.common_corners(one, other)
        p, q = samples.piece_row(one), samples.piece_row(other)
        self.assertEqual(meet(list(p), list(q)), answer_of(corners), (p, q))
        self.assertEqual(meet(list(q), list(p)), answer_of(corners), (q, p))
        return corners


class ByHand(MeetTest):
    def check_all(self, cases):
        for name, (one, other, common) in cases.items():
            with self.subTest(name):
                self.check(one, other, answer_of(common))

    def test_overlaps(self):
        self.check_all(OVERLAPS)

    def test_sides_on_one_line(self):
        self.check_all(ONE_LINE)

    def test_sides_through_a_corner(self):
        self.check_all(THROUGH_A_CORNER)

    def test_nothing_in_common(self):
        for name, (one, other) in NOTHING.items():
            with self.subTest(name):
                self.check(one, other, [0])

    def test_one_within_the_other(self):
        for name, (great, small) in WITHIN.items():
            with self.subTest(name):
                self.check(great, small, answer_of(small))

    def test_the_same_piece(self):
        for name, text in samples.PIECES.items():
            corners = reference.fractions_of(samples.piece_row(text))
            k = corners.index(min(corners))
            with self.subTest(name):
                self.check(text, text, answer_of(corners[k:] + corners[:k]))

    def test_the_rows_themselves(self):
        p = [0, 1, 0, 1, 1, 1, 0, 1, 0, 1, 1, 1]
        q = [1, 3, 1, 7, 1, 1, 1, 7, 1, 1, 1, 1, 1, 3, 1, 1]
        self.assertEqual(meet(p, q), [3, 1, 3, 1, 7, 6, 7, 1, 7, 1, 3, 2, 3])
        self.assertEqual(meet(p, [-1, 1, -1, 1, 0, 1, -1, 1, 0, 1, 0, 1]), [0])

    def test_of_like_leftmost_corners_the_lowest_comes_first(self):
        self.assertEqual(meet(samples.piece_row("-1 3, -1 -3, 0 0"), samples.piece_row("-1 3, -1 -3, 0 0")),
                         answer_of("-1 -3, 0 0, -1 3"))
        self.assertEqual(meet(samples.piece_row("0 -1, 1/2 0, 0 -1/2"), samples.piece_row("0 -1, 1/2 0, 0 -1/2")),
                         answer_of("0 -1, 1/2 0, 0 -1/2"))


class AgainstTheReference(MeetTest):
    def test_every_two_triangles_in_a_small_room(self):
        places = list(itertools.product(range(3), repeat=2))
        hulls = [reference.hull(corners) for corners in itertools.combinations(places, 3)]
        triangles = [corners for corners in hulls if len(corners) == 3]
        self.assertEqual(len(triangles), 76)
        for one, other in itertools.combinations_with_replacement(triangles, 2):
            self.check_by_reference(one, other)

    def test_some_pieces(self):
        numbers = reference.Numbers(6)
        counts = {}
        for _ in range(600):
            reach, parts = 1 + numbers.below(3), 1 + numbers.below(4)
            one = reference.some_piece(numbers, reach, parts, 8)
            other = reference.some_piece(numbers, reach, 1 + numbers.below(4), 8)
            corners = self.check_by_reference(one, other)
            counts[len(corners)] = counts.get(len(corners), 0) + 1
        for count in (0, 3, 4, 5, 6, 7):
            self.assertGreater(counts.get(count, 0), 10)


class WhatHolds(MeetTest):
    def points_about(self, one, other, common):
        """Some points within, on the border and outside, also very near to all corners."""
        for corners in (one, other, common):
            for k, corner in enumerate(corners):
                yield corner
                for far in (Fraction(1, 2), Fraction(1, 10 ** 9)):
                    for aim in (corners[k - 1], corners[k - 2]):
                        yield tuple(a + (b - a) * far for a, b in zip(corner, aim))
                    for right, up in itertools.product((-1, 0, 1), repeat=2):
                        yield (corner[0] + right * far, corner[1] + up * far)

    def test_within_it_lies_just_what_lies_within_both(self):
        numbers = reference.Numbers(7)
        seen = set()
        for _ in range(40):
            one = reference.some_piece(numbers, 2, 2, 6)
            other = reference.some_piece(numbers, 2, 3, 6)
            answer = meet(samples.piece_row(one), samples.piece_row(other))
            common = reference.fractions_of(answer[1:])
            self.assertEqual(len(common), answer[0])
            for point in self.points_about(one, other, common):
                both = reference.in_piece(point, one) == 2 and reference.in_piece(point, other) == 2
                self.assertEqual(reference.in_piece(point, common) == 2, both, (one, other, point))
                seen.add(both)
        self.assertEqual(seen, {True, False})

    def test_what_is_answered_is_a_piece_and_lies_in_both(self):
        numbers = reference.Numbers(8)
        for _ in range(200):
            one = samples.piece_row(reference.some_piece(numbers, 3, 2, 6))
            other = samples.piece_row(reference.some_piece(numbers, 3, 1, 6))
            answer = meet(list(one), list(other))
            if answer != [0]:
                self.assertTrue(reference.is_piece(answer[1:]))
                self.assertEqual(meet(answer[1:], list(one)), answer)
                self.assertEqual(meet(list(other), answer[1:]), answer)


class VeryGreatNumbers(MeetTest):
    def test_great_corners(self):
        self.check(
            [(0, 0), (GREATEST, 0), (0, GREATEST)], [(0, 0), (GREATEST, 0), (GREATEST, GREATEST)],
            [3, 0, 1, 0, 1, GREATEST, 1, 0, 1, GREATEST, 2, GREATEST, 2],
        )
        self.check(
            [(-GREATEST, -GREATEST), (GREATEST, -GREATEST), (GREATEST, GREATEST), (-GREATEST, GREATEST)],
            [(Fraction(1, GREATEST), 0), (GREATEST, 1 - GREATEST), (GREATEST, GREATEST)],
            [3, 1, GREATEST, 0, 1, GREATEST, 1, 1 - GREATEST, 1, GREATEST, 1, GREATEST, 1],
        )

    def test_they_overlap_by_a_hair_touch_or_keep_apart_by_a_hair(self):
        one = "0 0, 1 0, 1 1, 0 1"
        under, over = Fraction(GREATEST - 1, GREATEST), Fraction(GREATEST, GREATEST - 1)
        for edge, answer in (
            (under, answer_of([(under, 0), (1, 0), (1, 1), (under, 1)])),
            (Fraction(1), [0]),
            (over, [0]),
        ):
            self.check(one, [(edge, 0), (2, 0), (2, 1), (edge, 1)], answer)
        self.check(one, [(under, under), (2, under), (2, 2), (under, 2)],
                   answer_of([(under, under), (1, under), (1, 1), (under, 1)]))

    def test_a_slanting_side_past_a_corner_by_a_hair(self):
        corner = "-1 -1, 0 -1, 0 0, -1 0"
        hair = Fraction(1, GREATEST - 1)
        self.check(corner, [(1, -1), (1, 1), (-1, 1)], [0])
        self.check(corner, [(1, -1 + hair), (1, 1), (-1, 1)], [0])
        self.check(corner, [(1, -1 - hair), (1, 1), (-1, 1)],
                   answer_of([(-hair / (2 + hair), 0), (0, -hair / 2), (0, 0)]))

    def test_some_pieces(self):
        pieces = reference.great_pieces(reference.Numbers(9), 24)
        great = [abs(number).bit_length() for corners in pieces for number in samples.piece_row(corners)]
        self.assertEqual(max(great), 256)
        met = [self.check_by_reference(one, other) for one, other in itertools.combinations(pieces, 2)]
        self.assertGreater(len([corners for corners in met if corners]), 50)


class ManyCorners(MeetTest):
    def test_pieces_of_each_count_up_to_forty(self):
        strip = samples.piece_row("-1 -1, 100 -1, 100 10000, -1 10000")
        for count in range(3, 41):
            row = samples.curve(count)
            self.assertEqual(meet(list(row), list(strip)), [count] + row)
            self.assertEqual(meet(list(strip), list(row)), [count] + row)
            self.assertEqual(meet(list(row), samples.begun_later(row, count // 2, 4)), [count] + row)
        self.assertEqual(meet(samples.curve(41), list(strip)), [-22])

    def test_eighty_corners_are_left_of_forty_and_forty(self):
        corners = reference.circle(80)
        common = self.check_by_reference(corners[0::2], corners[1::2])
        self.assertEqual(len(common), 80)

    def test_forty_and_forty_with_very_great_numbers(self):
        corners = reference.great_circle(80)
        common = self.check_by_reference(corners[0::2], corners[1::2])
        self.assertEqual(len(common), 80)

    def test_forty_corners_cut_in_two(self):
        curve = reference.fractions_of(samples.curve(40))
        half = reference.fractions_of(samples.piece_row("39/2 -1, 40 -1, 40 1600, 39/2 1600"))
        self.assertEqual(len(self.check_by_reference(curve, half)), 22)


class Refusals(unittest.TestCase):
    def test_not_a_piece(self):
        for name, row in samples.not_pieces():
            for text in ("0 0, 1 0, 0 1", "-5 -5, 5 -5, 5 5, -5 5"):
                piece = samples.piece_row(text)
                with self.subTest(name, row=row):
                    self.assertEqual(meet(list(row), piece), [-22])
                    self.assertEqual(meet(piece, list(row)), [-22])

    def test_neither_is_a_piece(self):
        for name, row in samples.not_pieces():
            with self.subTest(name, row=row):
                self.assertEqual(meet(list(row), list(row)), [-22])
                self.assertEqual(meet(list(row), []), [-22])
                self.assertEqual(meet([], list(row)), [-22])

    def check(self, row):
        room = samples.piece_row("-9 -9, 9 -9, 9 9, -9 9")
        refused = not reference.is_piece(row)
        self.assertEqual(meet(list(row), list(room)) == [-22], refused, row)
        self.assertEqual(meet(list(room), list(row)) == [-22], refused, row)

    def test_every_four_corners_in_a_small_room(self):
        places = list(itertools.product(range(3), repeat=2))
        for corners in itertools.product(places, repeat=4):
            if corners[0] == min(corners):
                self.check(samples.piece_row(corners))

    def test_some_rows(self):
        numbers = reference.Numbers(10)
        for _ in range(500):
            corners = reference.some_piece(numbers, 2, 2, 8)
            self.check(samples.piece_row(corners))
            changed = list(corners)
            changed[numbers.below(len(corners))] = numbers.corner(2)
            self.check(samples.piece_row(changed))
            self.check(samples.piece_row(corners[::-1]))
            self.check(samples.piece_row(corners + [numbers.corner(2)]))


class MeetConduct(conduct.Conduct, unittest.TestCase):
    def call(self, p, q):
        return meet(p, q)

    def cases(self):
        pieces = [samples.piece_row(text) for text in samples.PIECES.values()] + [samples.curve(40)]
        both = [list(pair) for pair in itertools.product(pieces, repeat=2)]
        wrong = [row for name, row in samples.not_pieces()]
        return both + [[row, pieces[0]] for row in wrong] + [[pieces[0], row] for row in wrong]


if __name__ == "__main__":
    unittest.main()
