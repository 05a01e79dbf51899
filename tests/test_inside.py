"""Tests of inside: promise 1 (the refusal) and promise 2 (when a piece lies all in a figure, and how much of it)."""

import itertools
import unittest
from fractions import Fraction

from straightfigures.pieces import inside, meet, triangles, where1
from tests import conduct, reference, samples
from tests.reference import along

GREATEST = samples.GREATEST

# Worked out by hand: of each figure some pieces that lie all in it, with their size.
ALL_IN = {
    "smallest triangle": {
        "the figure itself": ("0 0, 1 0, 0 1", "1/2"),
        "from one corner": ("0 0, 1/2 0, 0 1/2", "1/8"),
        "strictly within": ("1/4 1/4, 1/2 1/4, 1/4 1/2", "1/32"),
        "a corner on each side": ("1/2 0, 1/2 1/2, 0 1/2", "1/8"),
    },
    "square": {
        "the figure itself": ("0 0, 2 0, 2 2, 0 2", "4"),
        "strictly within": ("1/2 1/2, 3/2 1/2, 1 3/2", "1/2"),
        "touches at a corner": ("0 0, 1 1/2, 1/2 1", "3/8"),
        "touches along a stretch of a side": ("1/2 0, 3/2 0, 1 1", "1/2"),
        "touches each side": ("0 1, 1 0, 2 1, 1 2", "2"),
    },
    "four corners, one inner": {
        "touches the inner corner": ("0 0, 1 0, 1 1, 0 1", "1"),
        "one half": ("0 0, 4 0, 1 1", "2"),
        "through the inner corner": ("0 0, 2 0, 0 2", "2"),
    },
    "five corners, one inner": {
        "up to the inner corner": ("0 0, 4 0, 2 1", "2"),
        "level through the inner corner": ("0 0, 4 0, 4 1, 0 1", "4"),
        "along a side to the inner corner": ("0 0, 2 1, 0 4", "4"),
    },
    "angle of six corners": {
        "strictly within": ("1/4 1/4, 3/4 1/4, 1/4 3/4", "1/8"),
        "touches the inner corner": ("0 0, 1 0, 1 1, 0 1", "1"),
        "one arm": ("0 0, 3 0, 3 1, 0 1", "3"),
        "slants through the inner corner": ("0 0, 2 0, 0 2", "2"),
        "from end to end": ("0 0, 3 0, 1 1", "3/2"),
    },
    "crown of seven corners": {
        "along both inner corners": ("0 0, 4 0, 4 1, 0 1", "4"),
        "from one inner corner to the other": ("1 1, 3 1, 2 3", "2"),
        "across several triangles": ("1/2 1/2, 7/2 1/2, 7/2 1, 1/2 1", "3/2"),
    },
    "eight corners": {
        "the figure itself": ("1 0, 2 0, 3 1, 3 2, 2 3, 1 3, 0 2, 0 1", "7"),
        "across several triangles": ("1 0, 2 0, 2 3, 1 3", "3"),
    },
    "cup of eight corners": {
        "below both inner corners": ("0 0, 3 0, 3 1, 0 1", "3"),
        "all of one arm": ("2 1, 3 1, 3 4, 2 3", "5/2"),
    },
    "star of eight corners": {
        "from inner corner to inner corner": ("-1 -1, 1 -1, 1 1, -1 1", "4"),
        "from end to end": ("-3 0, 0 -1/2, 3 0, 0 1/2", "3"),
    },
}

# Nothing of these lies in the figure.
ALL_OUT = {
    "smallest triangle": ["1 0, 1 1, 0 1", "0 0, 0 1, -1 0", "0 0, -1 0, 0 -1", "1/2 1/2, 1 1/2, 1/2 1"],
    "square": [
        "10 10, 11 10, 10 11", "2 2, 3 2, 3 3, 2 3", "2 0, 4 0, 4 2, 2 2", "2 1, 4 1, 4 3, 2 3", "-1 1, 0 1/2, 0 3/2",
    ],
    "four corners, one inner": ["1 1, 4 1, 4 4, 1 4", "1 1, 4 0, 0 4", "2 1, 3 1, 2 3"],
    "angle of six corners": [
        "1 1, 2 1, 2 2, 1 2", "3 1, 4 1, 4 2, 3 2", "3 0, 4 0, 4 1, 3 1", "1 1, 3 1, 3 3, 1 3", "50 50, 51 50, 50 51",
    ],
    "crown of seven corners": ["1 1, 2 3, 0 3", "1 2, 3/2 5/2, 1 3", "0 3, 4 3, 2 4"],
    "eight corners": ["0 0, 1 0, 0 1", "3 1, 4 1, 4 2, 3 2", "3 3, 4 3, 4 4, 3 4"],
    "cup of eight corners": ["1 1, 2 1, 2 3, 1 3", "5/4 5/4, 7/4 5/4, 3/2 2", "0 3, 1 3, 0 4"],
    "star of eight corners": ["1 1, 3 0, 3 3, 0 3", "-3 -3, 0 -3, -1 -1, -3 0", "2 2, 3 2, 3 3"],
}

# Partly in: then how much.
PARTLY_IN = {
    "smallest triangle": {
        "one half of it": ("0 0, 1 0, 1 1", "1/4"),
        "holds the figure": ("-5 -5, 5 -5, 5 5, -5 5", "1/2"),
    },
    "square": {
        "a corner": ("1 1, 3 1, 3 3, 1 3", "1"),
        "all but a corner": ("0 0, 3 0, 0 3", "7/2"),
        "sticks out at two sides": ("1/3 1/7, 7/3 1/7, 1/3 15/7", "853/441"),
        "holds the figure": ("-1 -1, 3 -1, 3 3, -1 3", "4"),
        "holds the figure, with a side in common": ("0 0, 3 0, 3 2, 0 2", "4"),
        "a cross": ("-1 1/2, 3 1/2, 3 3/4, -1 3/4", "1/2"),
    },
    "four corners, one inner": {
        "holds the figure, with all other corners": ("0 0, 4 0, 0 4", "4"),
        "over the notch": ("1/2 1/2, 2 1/2, 1/2 2", "7/8"),
    },
    "five corners, one inner": {
        "holds the figure": ("0 0, 4 0, 4 4, 0 4", "10"),
        "over the notch": ("1 0, 3 0, 3 2, 1 2", "10/3"),
    },
    "angle of six corners": {
        "over the notch": ("0 0, 3 0, 0 3", "4"),
        "the notch in its middle": ("1/2 1/2, 3/2 1/2, 3/2 3/2, 1/2 3/2", "3/4"),
        "sticks out into the notch by little": ("0 0, 1001/1000 0, 1001/1000 1001/1000, 0 1001/1000", "501/500"),
        "holds the figure": ("0 0, 3 0, 3 3, 0 3", "5"),
        "holds the figure, free all around": ("-1 -1, 4 -1, 4 4, -1 4", "5"),
        "one half": ("2 0, 4 0, 4 1, 2 1", "1"),
    },
    "crown of seven corners": {
        "holds the figure": ("0 0, 4 0, 4 3, 0 3", "8"),
        "over both notches": ("0 0, 4 0, 4 2, 0 2", "7"),
    },
    "eight corners": {
        "holds the figure": ("0 0, 3 0, 3 3, 0 3", "7"),
    },
    "cup of eight corners": {
        "from arm to arm": ("0 2, 3 2, 3 3, 0 3", "2"),
        "holds the figure": ("0 0, 3 0, 3 4, 0 4", "15/2"),
    },
    "star of eight corners": {
        "holds the figure": ("0 -3, 3 0, 0 3, -3 0", "12"),
        "sticks out at an inner corner by little": ("-1001/1000 -1, 1 -1, 1 1, -1 1", "16008/4001"),
    },
}


def answer_of(flag, part):
    return [flag] + list(Fraction(part).as_integer_ratio())


def size_of(corners):
    return reference.size_of(reference.row_of(corners))


def is_convex(row):
    return len(reference.hull(reference.corner_list(row))) == len(row) // 2


def some_pairs(seed, step, times):
    """Figures, each with some pieces about as wide; now and then a small one from inside the figure."""
    numbers = reference.Numbers(seed)
    pairs = []
    for row in reference.some_figures()[::step]:
        reach = max(map(abs, row))
        for _ in range(times):
            parts = 1 + numbers.below(3)
            pairs.append((row, reference.some_piece(numbers, reach, parts, 6)))
        triangle = reference.cut_up(reference.corner_list(row))[numbers.below(len(row) // 2 - 2)]
        shifts = [Fraction(1 + numbers.below(3), 4) for _ in range(3)]
        pairs.append((row, reference.hull([along(triangle[k - 1], triangle[k], shifts[k]) for k in range(3)])))
    return pairs


class InsideTest(unittest.TestCase):
    def check(self, row, corners, answer):
        """The same must be answered whichever corners are told first."""
        for f in samples.begun_anywhere(row):
            for p in samples.begun_anywhere(samples.piece_row(corners), 4):
                self.assertEqual(inside(list(f), list(p)), answer, (f, p))

    def check_by_reference(self, row, corners):
        part = reference.held(reference.corner_list(row), corners)
        flag = 1 if part == size_of(corners) else 0
        p = samples.piece_row(corners)
        self.assertEqual(inside(list(row), list(p)), answer_of(flag, part), (row, p))
        return flag, part

    def part_in(self, row, corners):
        answer = inside(list(row), samples.piece_row(corners))
        self.assertEqual(len(answer), 3)
        return Fraction(answer[1], answer[2])


class ByHand(InsideTest):
    def check_all(self, cases, flag):
        for name, pieces in cases.items():
            for told, (text, part) in pieces.items():
                with self.subTest(name, told=told):
                    self.check(samples.FIGURES[name][0], text, answer_of(flag, part))

    def test_all_in(self):
        self.check_all(ALL_IN, 1)

    def test_what_is_all_in_has_all_of_its_size_in(self):
        for pieces in ALL_IN.values():
            for text, part in pieces.values():
                self.assertEqual(size_of(reference.fractions_of(samples.piece_row(text))), Fraction(part))

    def test_all_out(self):
        for name, texts in ALL_OUT.items():
            for text in texts:
                with self.subTest(name, text=text):
                    self.check(samples.FIGURES[name][0], text, [0, 0, 1])

    def test_partly_in(self):
        self.check_all(PARTLY_IN, 0)

    def test_the_rows_themselves(self):
        angle = [0, 0, 3, 0, 3, 1, 1, 1, 1, 3, 0, 3]
        self.assertEqual(inside(angle, [0, 1, 0, 1, 2, 1, 0, 1, 0, 1, 2, 1]), [1, 2, 1])
        self.assertEqual(inside(angle, [1, 2, 1, 2, 3, 2, 1, 2, 3, 2, 3, 2, 1, 2, 3, 2]), [0, 3, 4])
        self.assertEqual(inside(angle, [1, 1, 1, 1, 2, 1, 1, 1, 1, 1, 2, 1]), [0, 0, 1])
        self.assertEqual(inside(angle, [-9, 1, -9, 1, 9, 1, -9, 1, 9, 1, 9, 1, -9, 1, 9, 1]), [0, 5, 1])

    def test_a_figure_told_as_a_piece(self):
        told = 0
        for row, whole in samples.FIGURES.values():
            if is_convex(row):
                told += 1
                self.check(row, reference.corner_list(row), [1] + whole)
        self.assertGreater(told, 8)

    def test_a_piece_that_holds_any_figure(self):
        for row, whole in samples.FIGURES.values():
            self.check(row, "-51 -51, 51 -51, 51 51, -51 51", [0] + whole)
            corners = reference.hull(reference.corner_list(row))
            self.assertEqual(inside(list(row), samples.piece_row(corners)), [int(is_convex(row))] + whole)

    def test_each_triangle_that_a_figure_is_cut_up_into(self):
        for row in [row for row, whole in samples.FIGURES.values()] + reference.some_figures()[::6]:
            answer = triangles(list(row))
            for k in range(answer[0]):
                corners = reference.corner_list(answer[1 + 6 * k:7 + 6 * k])
                self.assertEqual(inside(list(row), samples.piece_row(corners)), answer_of(1, size_of(corners)))


class AtInnerCorners(InsideTest):
    def inner_corners(self):
        for row in [row for row, whole in samples.FIGURES.values()] + reference.some_figures()[::4]:
            corners = reference.corner_list(row)
            for k, corner in enumerate(corners):
                before, after = corners[k - 1], corners[(k + 1) % len(corners)]
                if size_of((before, corner, after)) < 0:
                    yield row, before, corner, after

    def test_in_the_notch_and_over_it_by_little(self):
        little = Fraction(1, 10 ** 9)
        notches = 0
        for row, before, corner, after in self.inner_corners():
            notches += 1
            one, other = along(corner, before, little), along(corner, after, little)
            back = along(corner, along(one, other, Fraction(1, 2)), -1)
            notch = [other, corner, one]
            self.assertEqual(inside(list(row), samples.piece_row(notch)), [0, 0, 1])
            # With the same corner pushed back into the figure, just the notch is left outside.
            whole = reference.hull([one, other, back])
            self.assertEqual(inside(list(row), samples.piece_row(whole)), answer_of(0, size_of(whole) - size_of(notch)))
            # The two parts beside the notch touch it along its sides.
            for part in (reference.hull([one, corner, back]), reference.hull([other, corner, back])):
                self.assertEqual(inside(list(row), samples.piece_row(part)), answer_of(1, size_of(part)))
        self.assertGreater(notches, 80)


class FoundInAnotherWay(InsideTest):
    def test_by_upright_strips(self):
        seen = {"all in": 0, "partly in": 0, "all out": 0}
        for row, corners in some_pairs(17, 2, 2):
            flag, part = self.check_by_reference(row, corners)
            seen["all in" if flag else "partly in" if part else "all out"] += 1
        for count in seen.values():
            self.assertGreater(count, 20)

    def test_every_triangle_in_a_small_room(self):
        places = list(itertools.product(range(-1, 4, 2), repeat=2))
        hulls = [reference.hull(corners) for corners in itertools.combinations(places, 3)]
        angle = samples.FIGURES["angle of six corners"][0]
        for row in (angle, [0, 0, 2, 0, 2, 2, 1, 1, 0, 2], [-1, -1, 3, -1, 1, 1, 3, 3, -1, 3]):
            for corners in hulls:
                if len(corners) == 3:
                    self.check_by_reference(row, corners)

    def test_of_a_figure_that_is_a_piece_it_is_what_they_have_in_common(self):
        told = 0
        for row, corners in some_pairs(18, 3, 3):
            if is_convex(row):
                told += 1
                piece = samples.piece_row(reference.corner_list(row))
                common = reference.fractions_of(meet(piece, samples.piece_row(corners))[1:])
                self.assertEqual(self.part_in(row, corners), size_of(common))
        self.assertGreater(told, 80)

    def test_a_figure_and_its_parts(self):
        told = 0
        for row, corners in some_pairs(19, 2, 2):
            figure = reference.corner_list(row)
            for i, j in itertools.combinations(range(len(figure)), 2):
                rows = [reference.row_of(part) for part in reference.across(figure, i, j)]
                # Of a cut that does not lie within the figure no two figures are left, or greater ones.
                if all(map(reference.is_figure, rows)) and sum(map(reference.size_of, rows)) == reference.size_of(row):
                    told += 1
                    self.assertEqual(sum(self.part_in(part, corners) for part in rows), self.part_in(row, corners))
        self.assertGreater(told, 1000)

    def test_the_size_less_what_lies_outside(self):
        """What a figure lacks to be a piece are its notches, figures too if they are gone round the other way."""
        told = 0
        for row, corners in some_pairs(20, 2, 2):
            figure = reference.corner_list(row)
            outer = reference.hull(figure)
            places = [figure.index(corner) for corner in outer]
            notches = []
            for k, place in enumerate(places):
                steps = (places[(k + 1) % len(places)] - place) % len(figure)
                notch = [figure[(place + step) % len(figure)] for step in range(steps, -1, -1)]
                if len(notch) > 2:
                    notches.append(reference.row_of(notch))
            if notches and all(map(reference.is_figure, notches)):
                told += 1
                less = sum(self.part_in(notch, corners) for notch in notches)
                self.assertEqual(self.part_in(row, corners), self.part_in(reference.row_of(outer), corners) - less)
        self.assertGreater(told, 200)

    def test_a_piece_and_its_parts(self):
        told = 0
        for row, corners in some_pairs(21, 4, 2):
            whole = inside(list(row), samples.piece_row(corners))
            for i, j in itertools.combinations(range(len(corners)), 2):
                parts = reference.across(corners, i, j)
                if min(map(len, parts)) > 2:
                    told += 1
                    answers = [inside(list(row), samples.piece_row(part)) for part in parts]
                    self.assertEqual(min(answer[0] for answer in answers), whole[0])
                    self.assertEqual(sum(self.part_in(row, part) for part in parts), Fraction(*whole[1:]))
        self.assertGreater(told, 200)


class WhatHolds(InsideTest):
    def points_within(self, corners):
        middle = tuple(sum(parts) / len(corners) for parts in zip(*corners))
        yield middle
        for k, corner in enumerate(corners):
            for far in (Fraction(1, 10 ** 9), Fraction(1, 3), Fraction(5, 7)):
                yield along(corner, middle, far)
                yield along(along(corner, corners[k - 1], Fraction(1, 2)), middle, far)

    def test_all_in_just_if_no_point_within_is_outside(self):
        seen = {0: 0, 1: 0}
        for row, corners in some_pairs(22, 3, 2):
            answer = inside(list(row), samples.piece_row(corners))
            point = reference.point_outside(reference.corner_list(row), corners)
            self.assertEqual(answer[0] == 1, point is None, (row, corners))
            if point is not None:
                self.assertEqual(reference.in_piece(point, corners), 2)
                self.assertEqual(where1(list(row), samples.point_row(point)), [0])
            else:
                for within in self.points_within(corners):
                    self.assertNotEqual(where1(list(row), samples.point_row(within)), [0])
            seen[answer[0]] += 1
        self.assertGreater(min(seen.values()), 50)

    def test_as_much_lies_in_the_triangles_together(self):
        for row, corners in some_pairs(23, 4, 2):
            answer = triangles(list(row))
            self.assertEqual(answer[0], len(row) // 2 - 2)
            rows = [answer[k:k + 6] for k in range(1, len(answer), 6)]
            self.assertEqual(sum(self.part_in(part, corners) for part in rows), self.part_in(row, corners))


class VeryGreatNumbers(InsideTest):
    def test_great_pieces_hold_the_figure(self):
        great = [(-GREATEST, -GREATEST), (GREATEST, -GREATEST), (GREATEST, GREATEST), (-GREATEST, GREATEST)]
        for row, whole in samples.FIGURES.values():
            self.check(row, great, [0] + whole)
            self.assertEqual(inside(list(row), samples.piece_row([(51, 0), (GREATEST, 1), (GREATEST, 2)])), [0, 0, 1])

    def test_in_touching_and_out_by_a_hair(self):
        row = [0, 0, 2, 0, 2, 2, 0, 2]
        under, over = Fraction(GREATEST, 2 ** 255), Fraction(GREATEST, 2 ** 255 - 1)
        self.check(row, [(0, 0), (under, 0), (under, under), (0, under)], answer_of(1, under * under))
        self.check(row, [(0, 0), (over, 0), (over, 1), (0, 1)], [0, 2, 1])
        self.check(row, [(under, 0), (3, 0), (3, 1), (under, 1)], answer_of(0, 2 - under))
        self.check(row, [(over, 0), (3, 0), (3, 1), (over, 1)], [0, 0, 1])
        self.check(row, [(2, 0), (3, 0), (3, 1), (2, 1)], [0, 0, 1])

    def test_the_inner_corner_by_a_hair(self):
        row = samples.FIGURES["angle of six corners"][0]
        under, over = Fraction(GREATEST - 1, GREATEST), Fraction(GREATEST, GREATEST - 1)
        hair = over - 1
        self.check(row, [(0, 0), (under, 0), (under, under), (0, under)], answer_of(1, under * under))
        self.check(row, [(0, 0), (over, 0), (over, 1), (0, 1)], answer_of(1, over))
        self.check(row, [(0, 0), (over, 0), (over, over), (0, over)], answer_of(0, over * over - hair * hair))
        self.check(row, [(1, 1), (over, 1), (over, over), (1, over)], [0, 0, 1])

    def test_some_pieces(self):
        pieces = reference.great_pieces(reference.Numbers(24), 12)
        great, seen = [], {0: 0, 1: 0}
        for row in [row for row, whole in samples.FIGURES.values()] + reference.some_figures()[::60]:
            for corners in pieces:
                flag, part = self.check_by_reference(row, corners)
                great.append(part.denominator.bit_length())
                seen[flag] += 1
        self.assertGreater(max(great), 2000)
        self.assertGreater(min(seen.values()), 10)

    def test_forty_corners(self):
        corners = reference.great_circle(40)
        great = [number.bit_length() for number in samples.piece_row(corners)]
        self.assertEqual(max(great), 256)
        whole = size_of(corners)
        self.assertGreater(whole.denominator.bit_length(), 5000)
        for name in ("star of eight corners", "square at the bounds"):
            self.assertEqual(inside(list(samples.FIGURES[name][0]), samples.piece_row(corners)), answer_of(1, whole))
        for name in ("smallest triangle", "angle of six corners", "cup of eight corners", "triangle of half size"):
            flag, part = self.check_by_reference(samples.FIGURES[name][0], corners)
            self.assertEqual(flag, 0)
            self.assertGreater(part.denominator.bit_length(), 1000)


class ManyCorners(InsideTest):
    def test_pieces_of_each_count_up_to_forty(self):
        star = samples.FIGURES["star of eight corners"][0]
        for count in range(3, 41):
            corners = reference.circle(count)
            self.assertEqual(inside(list(star), samples.piece_row(corners)), answer_of(1, size_of(corners)))
            self.check_by_reference(samples.FIGURES["angle of six corners"][0], corners)
        curve = samples.curve(40)
        self.assertEqual(inside([-50, -50, 50, -50, 50, 50, -50, 50], list(curve))[0], 0)
        self.check_by_reference([-50, -50, 50, -50, 50, 50, -50, 50], reference.fractions_of(curve))
        self.assertEqual(inside(list(star), samples.curve(41)), [-22])

    def test_figures_of_each_count(self):
        numbers = reference.Numbers(25)
        counts = {}
        for count in range(3, 9):
            for reach in (3, 50):
                row = reference.some_figure(numbers, count, reach)
                corners = [(reach * right, reach * up) for right, up in reference.circle(40)]
                self.check_by_reference(row, corners)
                counts[len(row) // 2] = True
        self.assertEqual(sorted(counts), [3, 4, 5, 6, 7, 8])


class Refusals(unittest.TestCase):
    def test_not_a_figure(self):
        pieces = [samples.piece_row(text) for text in ("0 0, 1 0, 0 1", "-99 -99, 99 -99, 99 99, -99 99")]
        for name, row in samples.not_figures():
            for piece in pieces + [samples.curve(40)]:
                with self.subTest(name, row=row):
                    self.assertEqual(inside(list(row), list(piece)), [-22])

    def test_not_a_piece(self):
        names = ("smallest triangle", "square at the bounds", "cup of eight corners")
        figures = [samples.FIGURES[name][0] for name in names]
        for name, row in samples.not_pieces():
            for figure in figures:
                with self.subTest(name, row=row):
                    self.assertEqual(inside(list(figure), list(row)), [-22])

    def test_neither(self):
        figures = [row for name, row in samples.not_figures()]
        pieces = [row for name, row in samples.not_pieces()]
        for k, figure in enumerate(figures):
            self.assertEqual(inside(list(figure), []), [-22])
            self.assertEqual(inside(list(figure), list(pieces[k])), [-22])
        for piece in pieces:
            self.assertEqual(inside([], list(piece)), [-22])
            self.assertEqual(inside([0, 0, 0, 1, 1, 0], list(piece)), [-22])

    def test_changed_for_one_another(self):
        for row, whole in samples.FIGURES.values():
            piece = samples.piece_row("0 0, 1 0, 0 1")
            self.assertEqual(inside(list(piece), list(row)), [-22])
            self.assertEqual(inside(list(row), list(row)), [-22])
            self.assertEqual(inside(list(piece), list(piece)), [-22])

    def test_gone_round_the_other_way(self):
        piece = samples.piece_row("0 0, 1 0, 0 1")
        for row, whole in samples.FIGURES.values():
            other = reference.row_of(reversed(reference.corner_list(row)))
            self.assertEqual(inside(other, list(piece)), [-22])
            self.assertEqual(inside(list(row), samples.piece_row("0 0, 0 1, 1 0")), [-22])

    def test_some_rows(self):
        numbers = reference.Numbers(26)
        for _ in range(300):
            row = reference.row_of(numbers.corner(2) for _ in range(3 + numbers.below(3)))
            points = [numbers.corner(2) for _ in range(3 + numbers.below(2))]
            piece = samples.piece_row(points)
            refused = not (reference.is_figure(row) and reference.is_piece(piece))
            self.assertEqual(inside(row, list(piece)) == [-22], refused, (row, piece))
            for corners in (reference.hull(points), reference.hull(points)[::-1]):
                refused = not (reference.is_figure(row) and reference.is_piece(samples.piece_row(corners) or [0]))
                self.assertEqual(inside(list(row), samples.piece_row(corners)) == [-22], refused, (row, corners))


class InsideConduct(conduct.Conduct, unittest.TestCase):
    def call(self, f, p):
        return inside(f, p)

    def cases(self):
        pieces = [samples.piece_row(text) for text in samples.PIECES.values()] + [samples.curve(40)]
        figures = [row for row, whole in samples.FIGURES.values()]
        both = [list(pair) for pair in itertools.product(figures, pieces)]
        both += [[row, pieces[0]] for name, row in samples.not_figures()]
        return both + [[figures[-1], row] for name, row in samples.not_pieces()]


if __name__ == "__main__":
    unittest.main()
