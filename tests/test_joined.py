"""Tests of joined: promise 1 (the refusals) and what is told of two pieces that make one."""

import itertools
import unittest
from fractions import Fraction

from straightfigures.pieces import joined
from tests import conduct, reference, samples
from tests.samples import answer_of

GREATEST = samples.GREATEST

SQUARE = "0 0, 4 0, 4 4, 0 4"

# Worked out by hand: two pieces, then the piece that they make.
BOTH_ENDS_STRAIGHT = {
    "two squares side by side": (SQUARE, "4 0, 8 0, 8 4, 4 4", "0 0, 8 0, 8 4, 0 4"),
    "two squares one above the other": (SQUARE, "0 4, 4 4, 4 8, 0 8", "0 0, 4 0, 4 8, 0 8"),
    "two wide ones of unlike size": (SQUARE, "4 0, 9/2 0, 9/2 4, 4 4", "0 0, 9/2 0, 9/2 4, 0 4"),
    "a triangle and the rest of it": ("0 0, 2 0, 2 3, 0 3", "2 0, 4 0, 2 3", "0 0, 4 0, 2 3, 0 3"),
    "three corners of four and three": ("0 0, 4 0, 3 1, 1 1", "1 1, 3 1, 2 2", "0 0, 4 0, 2 2"),
    "three corners, cut at thirds": (
        "0 0, 1 0, 2/3 1/3, 0 1/3", "0 1/3, 2/3 1/3, 0 1", "0 0, 1 0, 0 1",
    ),
}

ONE_END_STRAIGHT = {
    "two triangles that make one": ("0 0, 1 0, 0 1", "0 0, 0 1, -1 0", "-1 0, 1 0, 0 1"),
    "two triangles, cut aslant": ("0 0, 4 0, 1 3", "0 0, 1 3, 0 4", "0 0, 4 0, 0 4"),
    "a square and a triangle on it": (SQUARE, "4 0, 6 0, 4 4", "0 0, 6 0, 4 4, 0 4"),
    "straight at the upper end": (SQUARE, "4 0, 6 4, 4 4", "0 0, 4 0, 6 4, 0 4"),
    "the first corner is straight in the answer": ("0 0, 2 1, 0 2", "0 0, 0 2, -1 -1/2", "-1 -1/2, 2 1, 0 2"),
}

NO_END_STRAIGHT = {
    "two halves of a square": ("0 0, 1 0, 0 1", "1 0, 1 1, 0 1", "0 0, 1 0, 1 1, 0 1"),
    "two halves of a square, the other way": ("0 0, 4 0, 4 4", "0 0, 4 4, 0 4", SQUARE),
    "a roof on a square": (SQUARE, "0 4, 4 4, 2 5", "0 0, 4 0, 4 4, 2 5, 0 4"),
    "a nose to the left": (SQUARE, "0 0, 0 4, -1 3", "-1 3, 0 0, 4 0, 4 4, 0 4"),
    "a kite": ("-1 0, 0 -3, 1 0", "-1 0, 1 0, 0 1", "-1 0, 0 -3, 1 0, 0 1"),
    "corners with fractions": (
        "1/2 1/3, 3/2 1/3, 5/4 6/5", "1/2 1/3, 5/4 6/5, 1/7 1", "1/7 1, 1/2 1/3, 3/2 1/3, 5/4 6/5",
    ),
    "eight corners": (
        "0 1, 1 0, 2 0, 3 1", "0 1, 3 1, 3 2, 2 3, 1 3, 0 2", "0 1, 1 0, 2 0, 3 1, 3 2, 2 3, 1 3, 0 2",
    ),
}

# A whole side in common, but at one of its ends or at both there is an inner corner.
INNER_CORNER = {
    "at one end": (SQUARE, "4 0, 9 9, 4 4"),
    "at one end, straight at the other": (SQUARE, "4 0, 8 0, 8 5, 4 4"),
    "at both ends": (SQUARE, "4 0, 5 -1, 5 5, 4 4"),
    "by a hair": (SQUARE, "0 4, 4 4, 4001/1000 5"),
    "an arrow": ("0 0, 3 -3, 1 0", "0 0, 1 0, 3 3"),
    "three corners each": ("0 0, 1 0, 0 1", "0 0, 0 1, -1 -1/2"),
}

STRETCH_OF_A_SIDE = {
    "of both sides": (SQUARE, "4 1, 8 1, 8 5, 4 5"),
    "the whole of one side, in the middle of the other": (SQUARE, "4 1, 8 1, 8 3, 4 3"),
    "from one end of both, shorter": (SQUARE, "4 0, 8 0, 8 3, 4 3"),
    "from one end of both, longer": (SQUARE, "4 0, 8 0, 8 5, 4 5"),
    "shorter by a hair": (SQUARE, "4 0, 8 0, 8 4, 4 3999/1000"),
    "a triangle on the middle of a side": (SQUARE, "1 4, 3 4, 2 5"),
    "aslant": ("0 0, 4 0, 0 4", "3 1, 4 2, 3 3, 1 3"),
    "aslant, past both ends": ("0 0, 4 0, 0 4", "5 -1, 5 5, -1 5"),
}

JUST_TOUCHING = {
    "corner to corner": (SQUARE, "4 4, 8 4, 8 8, 4 8"),
    "corner to corner, sides on one line": (SQUARE, "4 4, 8 8, 4 8"),
    "corner to corner, level with each other": ("0 0, 2 -1, 2 1", "-2 -1, 0 0, -2 1"),
    "corner on a side": (SQUARE, "4 1, 6 0, 6 2"),
    "corner on a slanting side": ("0 0, 4 0, 0 4", "2 2, 4 3, 3 4"),
}

APART = {
    "far from one another": (SQUARE, "100 100, 101 100, 100 101"),
    "side by side": (SQUARE, "5 0, 9 0, 9 4, 5 4"),
    "by a hair": (SQUARE, "4001/1000 0, 8 0, 8 4, 4001/1000 4"),
    "one end of a side in common, the other by a hair not": (SQUARE, "4 0, 8 0, 8 4, 4001/1000 4"),
}

SOMETHING_IN_COMMON = {
    "a part": (SQUARE, "2 2, 6 2, 6 6, 2 6"),
    "a part, all on one line": (SQUARE, "2 0, 6 0, 6 4, 2 4"),
    "a part, by a hair": (SQUARE, "3999/1000 0, 8 0, 8 4, 3999/1000 4"),
    "one in another": (SQUARE, "1 1, 3 1, 2 3"),
    "one in another, with a corner of it": (SQUARE, "0 0, 2 1, 1 2"),
    "one in another, with a side of it": (SQUARE, "0 0, 4 0, 2 1"),
    "one in another, on three sides": (SQUARE, "0 0, 1 0, 1 4, 0 4"),
    "half of it": (SQUARE, "0 0, 4 0, 4 4"),
    "on the same side of the same side": ("0 0, 1 0, 0 1", "0 0, 1 0, 1 1"),
    "a cross": ("0 1, 3 1, 3 2, 0 2", "1 0, 2 0, 2 3, 1 3"),
}


class JoinedTest(unittest.TestCase):
    def check(self, one, other, answer):
        """The same must be answered whatever the order, and whichever corners are told first."""
        for p in samples.begun_anywhere(samples.piece_row(one), 4):
            for q in samples.begun_anywhere(samples.piece_row(other), 4):
                self.assertEqual(joined(list(p), list(q)), answer, (p, q))
                self.assertEqual(joined(list(q), list(p)), answer, (q, p))

    def check_by_reference(self, one, other):
        corners = reference.made_of_both(one, other)
        answer = answer_of(corners) if corners else [-33]
        p, q = samples.piece_row(one), samples.piece_row(other)
        self.assertEqual(joined(list(p), list(q)), answer, (p, q))
        self.assertEqual(joined(list(q), list(p)), answer, (q, p))
        return corners


class TheyMakeOne(JoinedTest):
    def check_all(self, cases):
        for name, (one, other, both) in cases.items():
            with self.subTest(name):
                self.check(one, other, answer_of(both))

    def test_both_ends_of_the_side_are_straight(self):
        self.check_all(BOTH_ENDS_STRAIGHT)

    def test_one_end_of_the_side_is_straight(self):
        self.check_all(ONE_END_STRAIGHT)

    def test_both_ends_of_the_side_are_corners(self):
        self.check_all(NO_END_STRAIGHT)

    def test_the_rows_themselves(self):
        p = [0, 1, 0, 1, 1, 1, 0, 1, 0, 1, 1, 1]
        self.assertEqual(joined(p, [0, 1, 0, 1, 0, 1, 1, 1, -1, 1, 0, 1]), [3, -1, 1, 0, 1, 1, 1, 0, 1, 0, 1, 1, 1])
        self.assertEqual(joined(p, [0, 1, 0, 1, 0, 1, 1, 1, -1, 1, 1, 2]),
                         [4, -1, 1, 1, 2, 0, 1, 0, 1, 1, 1, 0, 1, 0, 1, 1, 1])
        self.assertEqual(joined(p, [0, 1, 0, 1, 0, 1, 1, 1, -1, 1, -1, 2]), [-33])

    def test_of_like_leftmost_corners_the_lowest_comes_first(self):
        self.check("-1 -3, 0 -1, -1 0", "-1 0, 0 -1, 0 1, -1 3", answer_of("-1 -3, 0 -1, 0 1, -1 3"))
        self.check("-1/2 -3, 1 -1, -1/2 0", "-1/2 0, 1 -1, -1/2 3", answer_of("-1/2 -3, 1 -1, -1/2 3"))

    def test_what_is_answered_may_be_joined_again(self):
        left = joined(samples.piece_row("0 0, 1 0, 1 1"), samples.piece_row("0 0, 1 1, 0 1"))
        right = joined(samples.piece_row("1 0, 2 0, 1 1"), samples.piece_row("2 0, 2 1, 1 1"))
        self.assertEqual(joined(left[1:], right[1:]), answer_of("0 0, 2 0, 2 1, 0 1"))


class TheyMakeNone(JoinedTest):
    def check_all(self, cases):
        for name, (one, other) in cases.items():
            with self.subTest(name):
                self.check(one, other, [-33])

    def test_an_inner_corner(self):
        self.check_all(INNER_CORNER)

    def test_a_stretch_of_a_side(self):
        self.check_all(STRETCH_OF_A_SIDE)

    def test_just_touching(self):
        self.check_all(JUST_TOUCHING)

    def test_apart(self):
        self.check_all(APART)

    def test_something_in_common(self):
        self.check_all(SOMETHING_IN_COMMON)

    def test_the_same_piece_twice(self):
        for name, text in samples.PIECES.items():
            with self.subTest(name):
                self.check(text, text, [-33])
        self.assertEqual(joined(samples.curve(40), samples.curve(40)), [-33])


class AgainstTheReference(JoinedTest):
    def test_every_two_triangles_in_a_small_room(self):
        places = list(itertools.product(range(3), repeat=2))
        hulls = [reference.hull(corners) for corners in itertools.combinations(places, 3)]
        triangles = [corners for corners in hulls if len(corners) == 3]
        made = [self.check_by_reference(*pair) for pair in itertools.combinations_with_replacement(triangles, 2)]
        counts = [len(corners) for corners in made]
        self.assertGreater(counts.count(3), 20)
        self.assertGreater(counts.count(4), 20)

    def test_some_pieces(self):
        numbers = reference.Numbers(11)
        for _ in range(200):
            one = reference.some_piece(numbers, 2, 1 + numbers.below(2), 5)
            other = reference.some_piece(numbers, 2, 1, 5)
            self.check_by_reference(one, other)

    def test_pieces_on_a_side_of_a_piece(self):
        numbers = reference.Numbers(12)
        made = []
        for _ in range(300):
            one = reference.some_piece(numbers, 2, 1, 5)
            a, b = one[0], one[1]
            points = [numbers.corner(2) for _ in range(1 + numbers.below(3))]
            beyond = [point for point in points if reference.size_of(reference.row_of((a, b, point))) < 0]
            other = reference.hull([a, b] + beyond)
            if len(other) > 2:
                made.append(self.check_by_reference(one, other))
        self.assertGreater(len([corners for corners in made if corners]), 20)
        self.assertGreater(len([corners for corners in made if not corners]), 20)


def cut_pieces(numbers, count):
    """Pieces and the two parts of each that a cut leaves, from corners and from places on sides."""
    cases = []
    while len(cases) < count:
        whole = reference.some_piece(numbers, 3, 1 + numbers.below(3), 8)
        i = numbers.below(len(whole))
        j = (i + 1 + numbers.below(len(whole) - 1)) % len(whole)
        border = []
        marks = []
        for k, corner in enumerate(whole):
            border.append(corner)
            if k in (i, j):
                # As often the corner itself as a place behind it.
                part = Fraction(max(0, numbers.below(4) - 1), 3)
                if part:
                    border.append(reference.along(corner, whole[(k + 1) % len(whole)], part))
                marks.append(len(border) - 1)
        one, other = reference.across(border, *marks)
        if all(len(reference.hull(part)) == len(part) > 2 for part in (one, other)):
            cases.append((whole, one, other))
    return cases


class CutInTwo(JoinedTest):
    def test_the_two_parts_make_the_piece(self):
        counts = {}
        for whole, one, other in cut_pieces(reference.Numbers(13), 300):
            answer = answer_of(reference.hull(whole))
            p, q = samples.piece_row(one), samples.piece_row(other)
            self.assertEqual(joined(list(p), list(q)), answer, (p, q))
            self.assertEqual(joined(list(q), list(p)), answer, (q, p))
            straight = len(one) + len(other) - 2 - len(whole)
            counts[straight] = counts.get(straight, 0) + 1
        for straight in (0, 1, 2):
            self.assertGreater(counts[straight], 20)

    def test_three_parts_by_twos(self):
        for whole, one, other in cut_pieces(reference.Numbers(14), 60):
            if len(one) > 3:
                first, second = reference.across(one, 0, 2)
                rows = [samples.piece_row(part) for part in (first, second, other)]
                self.assertEqual(joined(rows[0], rows[1]), answer_of(reference.hull(one)))
                self.assertEqual(joined(joined(rows[0], rows[1])[1:], rows[2]), answer_of(reference.hull(whole)))


class VeryGreatNumbers(JoinedTest):
    def test_great_corners(self):
        self.check([(0, 0), (GREATEST, 0), (0, GREATEST)], [(0, 0), (0, GREATEST), (-GREATEST, 0)],
                   [3, -GREATEST, 1, 0, 1, GREATEST, 1, 0, 1, 0, 1, GREATEST, 1])
        room = [(-GREATEST, -GREATEST), (GREATEST, -GREATEST), (GREATEST, GREATEST), (-GREATEST, GREATEST)]
        self.check(room[:3], [room[0], room[2], room[3]], answer_of(room))

    def test_straight_corner_or_inner_by_a_hair(self):
        one = [(0, 0), (1, 0), (0, 1)]
        hair = Fraction(1, GREATEST)
        self.check(one, [(0, 0), (0, 1), (-1, 0)], answer_of("-1 0, 1 0, 0 1"))
        self.check(one, [(0, 0), (0, 1), (-1, hair)], answer_of([(-1, hair), (0, 0), (1, 0), (0, 1)]))
        self.check(one, [(0, 0), (0, 1), (-1, -hair)], [-33])

    def test_a_side_in_common_but_for_a_hair(self):
        one = [(0, 0), (1, 0), (1, 1), (0, 1)]
        under, over = Fraction(GREATEST - 1, GREATEST), Fraction(GREATEST, GREATEST - 1)
        self.check(one, "1 0, 2 0, 2 1, 1 1", answer_of("0 0, 2 0, 2 1, 0 1"))
        for edge in (under, over):
            self.check(one, [(edge, 0), (2, 0), (2, 1), (edge, 1)], [-33])
            self.check(one, [(edge, 0), (2, 0), (2, 1), (1, 1)], [-33])
            self.check(one, [(1, 0), (2, 0), (2, 1), (1, edge)], [-33])
        for edge in (1 - under, 1 - over):
            self.check(one, [(1, edge), (2, 0), (2, 1), (1, 1)], [-33])

    def test_great_pieces_cut_from_corner_to_corner(self):
        great = []
        for corners in reference.great_pieces(reference.Numbers(15), 30):
            great.extend(number.bit_length() for number in samples.piece_row(corners))
            for i, j in itertools.combinations(range(len(corners)), 2):
                one, other = reference.across(corners, i, j)
                if len(one) > 2 and len(other) > 2:
                    self.check(one, other, answer_of(corners))
        self.assertEqual(max(great), 256)

    def test_a_great_cut_with_straight_ends(self):
        low, high = Fraction(GREATEST - 4, GREATEST), Fraction(GREATEST - 1, GREATEST - 2)
        self.check([(0, 0), (low, 0), (high, 1), (0, 1)], [(low, 0), (2, 0), (2, 1), (high, 1)],
                   answer_of("0 0, 2 0, 2 1, 0 1"))


class ManyCorners(JoinedTest):
    def test_pieces_of_each_count_up_to_forty(self):
        for count in range(3, 41):
            row = samples.curve(count)
            last = count - 1
            # A triangle on the longest side, with its third corner so far up that both ends stay corners.
            roof = samples.piece_row([(0, 0), (last, last * last), (-1, last * last + 1)])
            whole = answer_of([(-1, last * last + 1)] + [(k, k * k) for k in range(count)])
            for q in samples.begun_anywhere(row, 4):
                self.assertEqual(joined(list(q), list(roof)), whole)
                self.assertEqual(joined(list(roof), list(q)), whole)
        self.assertEqual(joined(samples.curve(41), list(roof)), [-22])
        self.assertEqual(joined(list(roof), samples.curve(41)), [-22])

    def test_forty_and_forty_make_seventy_eight(self):
        for corners in (reference.circle(78), reference.great_circle(78)):
            for k in (0, 7, 38):
                one, other = reference.across(corners, k, k + 39)
                self.assertEqual((len(one), len(other)), (40, 40))
                first = corners.index(min(corners))
                p, q = samples.piece_row(one), samples.piece_row(other)
                whole = answer_of(corners[first:] + corners[:first])
                self.assertEqual(whole[0], 78)
                self.assertEqual(joined(list(p), list(q)), whole)
                self.assertEqual(joined(list(q), samples.begun_later(p, 17, 4)), whole)

    def test_forty_corners_cut_everywhere(self):
        corners = reference.circle(40)
        whole = answer_of(reference.hull(corners))
        for i, j in itertools.combinations(range(40), 2):
            if 1 < j - i < 39:
                one, other = reference.across(corners, i, j)
                self.assertEqual(joined(samples.piece_row(one), samples.piece_row(other)), whole)


class Refusals(unittest.TestCase):
    def test_not_a_piece(self):
        for name, row in samples.not_pieces():
            # The last lies far off all of them: if they were pieces, none would be made.
            for text in ("0 0, 1 0, 0 1", "-5 -5, 5 -5, 5 5, -5 5", "-9000 0, -8000 0, -9000 1"):
                piece = samples.piece_row(text)
                with self.subTest(name, row=row):
                    self.assertEqual(joined(list(row), piece), [-22])
                    self.assertEqual(joined(piece, list(row)), [-22])

    def test_neither_is_a_piece(self):
        for name, row in samples.not_pieces():
            with self.subTest(name, row=row):
                self.assertEqual(joined(list(row), list(row)), [-22])
                self.assertEqual(joined(list(row), []), [-22])
                self.assertEqual(joined([], list(row)), [-22])
                self.assertEqual(joined(list(row), samples.curve(41)), [-22])

    def test_wrongly_told_parts_that_would_make_one(self):
        one, other = samples.piece_row("1/3 0, 1 0, 1/3 1/2"), samples.piece_row("1/3 0, 1/3 1/2, -1/3 1/4")
        self.assertEqual(joined(list(one), list(other)), answer_of("-1/3 1/4, 1/3 0, 1 0, 1/3 1/2"))
        for p in samples.wrongly_told(one):
            self.assertEqual(joined(p, list(other)), [-22], p)
            self.assertEqual(joined(list(other), p), [-22], p)
        backward = samples.piece_row("1/3 1/2, 1/3 0, -1/3 1/4")
        self.assertEqual(joined(list(one), backward), [-22])
        self.assertEqual(joined(backward, list(one)), [-22])

    def test_a_straight_end_that_is_told_as_a_corner(self):
        wide = samples.piece_row("0 0, 8 0, 8 4, 4 4, 0 4")
        self.assertEqual(joined(wide, samples.piece_row("4 4, 8 4, 8 8, 4 8")), [-22])
        self.assertEqual(joined(samples.piece_row("4 4, 8 4, 8 8, 4 8"), wide), [-22])

    def check(self, row):
        room = samples.piece_row("10 10, 20 10, 20 20, 10 20")
        answer = [-33] if reference.is_piece(row) else [-22]
        self.assertEqual(joined(list(row), list(room)), answer, row)
        self.assertEqual(joined(list(room), list(row)), answer, row)

    def test_every_three_corners_in_a_small_room(self):
        places = list(itertools.product(range(3), repeat=2))
        for corners in itertools.product(places, repeat=3):
            self.check(samples.piece_row(corners))

    def test_some_rows(self):
        numbers = reference.Numbers(16)
        for _ in range(200):
            corners = reference.some_piece(numbers, 2, 2, 8)
            self.check(samples.piece_row(corners))
            changed = list(corners)
            changed[numbers.below(len(corners))] = numbers.corner(2)
            self.check(samples.piece_row(changed))
            self.check(samples.piece_row(corners[::-1]))


class JoinedConduct(conduct.Conduct, unittest.TestCase):
    def call(self, p, q):
        return joined(p, q)

    def cases(self):
        texts = [*BOTH_ENDS_STRAIGHT.values(), *ONE_END_STRAIGHT.values(), *NO_END_STRAIGHT.values()]
        texts += [*INNER_CORNER.values(), *STRETCH_OF_A_SIDE.values(), *SOMETHING_IN_COMMON.values()]
        both = [[samples.piece_row(text) for text in case[:2]] for case in texts]
        piece = samples.piece_row(SQUARE)
        wrong = [row for name, row in samples.not_pieces()]
        return both + [[row, piece] for row in wrong] + [[piece, row] for row in wrong]


if __name__ == "__main__":
    unittest.main()
