"""Rows that tell figures, points or pieces, and rows that do not, by name."""

from fractions import Fraction

GREATEST = 2 ** 256 - 1

# The row, then its size.
FIGURES = {
    "smallest triangle": ([0, 0, 1, 0, 0, 1], [1, 2]),
    "triangle of whole size": ([0, 0, 4, 0, 0, 3], [6, 1]),
    "triangle of half size": ([-1, -1, 2, 0, 0, 3], [11, 2]),
    "triangle at the bounds": ([-50, -50, 50, -50, -50, 50], [5000, 1]),
    "thin triangle": ([-50, -50, 50, 49, 49, 49], [99, 2]),
    "square": ([0, 0, 2, 0, 2, 2, 0, 2], [4, 1]),
    "square at the bounds": ([-50, -50, 50, -50, 50, 50, -50, 50], [10000, 1]),
    "square left of and below the middle": ([-9, -9, -7, -9, -7, -7, -9, -7], [4, 1]),
    "four corners, one inner": ([0, 0, 4, 0, 1, 1, 0, 4], [4, 1]),
    "four corners of half size": ([0, 0, 3, 0, 2, 1, 0, 1], [5, 2]),
    "five corners": ([0, 0, 3, 0, 3, 1, 1, 2, 0, 1], [9, 2]),
    "five corners, one inner": ([0, 0, 4, 0, 4, 4, 2, 1, 0, 4], [10, 1]),
    "six corners": ([1, 0, 2, 0, 3, 1, 2, 2, 1, 2, 0, 1], [4, 1]),
    "angle of six corners": ([0, 0, 3, 0, 3, 1, 1, 1, 1, 3, 0, 3], [5, 1]),
    "crown of seven corners": ([0, 0, 4, 0, 4, 3, 3, 1, 2, 3, 1, 1, 0, 3], [8, 1]),
    "eight corners": ([1, 0, 2, 0, 3, 1, 3, 2, 2, 3, 1, 3, 0, 2, 0, 1], [7, 1]),
    "cup of eight corners": ([0, 0, 3, 0, 3, 4, 2, 3, 2, 1, 1, 1, 1, 3, 0, 3], [15, 2]),
    "star of eight corners": ([0, -3, 1, -1, 3, 0, 1, 1, 0, 3, -1, 1, -3, 0, -1, -1], [12, 1]),
}

# A figure but for its nine corners.
NINE_CORNERS = [0, 0, 4, 0, 7, 1, 9, 3, 10, 6, 10, 9, 7, 12, 3, 11, 0, 5]

# The form is wrong whatever the numbers would tell.
WRONG_FORM = {
    "empty": [],
    "one number": [0],
    "one corner": [0, 0],
    "two corners": [0, 0, 1, 0],
    "five numbers": [0, 0, 1, 0, 0],
    "a triangle and one number": [0, 0, 1, 0, 0, 1, 0],
    "eight corners and one number": FIGURES["eight corners"][0] + [0],
    "nine corners": NINE_CORNERS,
    "two thousand numbers": [k % 50 for k in range(2000)],
    "right of the bounds": [0, 0, 51, 0, 0, 1],
    "above the bounds": [0, 0, 1, 0, 0, 51],
    "left of the bounds": [-51, 0, 0, 0, 0, 1],
    "below the bounds": [0, -51, 1, 0, 0, 1],
    "very far to the right": [0, 0, GREATEST, 0, 0, 1],
    "very far up": [0, 0, 1, 0, 0, GREATEST],
    "very far to the left": [-GREATEST, 0, 0, 0, 0, 1],
    "very far down": [0, -GREATEST, 1, 0, 0, 1],
}

# Three to eight corners within the bounds that go wrong; so they do from whichever corner one begins.
WRONG_WAY = {
    "triangle on the right": [0, 0, 0, 1, 1, 0],
    "square on the right": [0, 0, 0, 2, 2, 2, 2, 0],
    "inner corner, on the right": [0, 0, 0, 4, 1, 1, 4, 0],
    "cup on the right": [0, 0, 0, 3, 1, 3, 1, 1, 2, 1, 2, 3, 3, 4, 3, 0],
    "all in a line": [0, 0, 1, 1, 2, 2],
    "there and back": [0, 0, 4, 0, 1, 0, 3, 0],
    "all at one place": [3, 3, 3, 3, 3, 3],
    "straight corner": [0, 0, 2, 0, 4, 0, 0, 3],
    "straight corner aslant": [0, 0, 6, 0, 4, 1, 2, 2, 0, 2],
    "corner that turns back": [0, 0, 4, 0, 2, 0, 2, 3],
    "spike outwards": [0, 0, 4, 0, 4, 4, 7, 7, 4, 4, 0, 4],
    "spike along a side": [0, 0, 6, 0, 4, 0, 4, 4, 0, 4],
    "two corners at one place, one after the other": [0, 0, 4, 0, 4, 0, 0, 4],
    "two corners at one place, apart": [0, 0, 2, -1, 2, 1, 0, 0, -2, 1, -2, -1],
    "a triangle gone round twice": [0, 0, 4, 0, 0, 4, 0, 0, 4, 0, 0, 4],
    "four corners that cross": [0, 0, 5, 0, 1, 3, 4, 3],
    "five corners that cross, all to the left": [0, 3, -2, -3, 3, 1, -3, 1, 2, -3],
    "one side across a whole figure": [0, 0, 6, 0, 6, 4, 3, 4, 3, -2, 2, 4, 0, 4],
    "corner on a side": [0, 0, 4, 0, 4, 4, 2, 0, 0, 4],
    "corner on a side aslant": [0, 0, 6, 3, 6, 8, 2, 1, 0, 8],
    "corner on a side from without": [0, 0, 4, 0, 4, 4, 8, 4, 4, 2, 8, 6, 0, 6],
    "sides with a stretch in common": [0, 0, 6, 0, 6, 2, 4, 0, 2, 0, 0, 2],
    "sides with one end and a stretch in common": [0, 0, 4, 0, 4, 4, 2, 2, 4, 0, 6, 6, 0, 6],
}

# None of these tells a point.
NOT_POINTS = {
    "empty": [],
    "one number": [0],
    "two numbers": [0, 1],
    "three numbers": [0, 1, 0],
    "five numbers": [0, 1, 0, 1, 0],
    "six numbers": [0, 1, 0, 1, 0, 1],
    "two points": [0, 1, 0, 1, 1, 1, 1, 1],
    "two thousand numbers": [0, 1] * 1000,
    "second number 0, to the right": [1, 0, 0, 1],
    "second number 0, up": [0, 1, 1, 0],
    "0 over 0, to the right": [0, 0, 0, 1],
    "0 over 0, up": [0, 1, 0, 0],
    "second number -1, to the right": [1, -1, 0, 1],
    "second number -1, up": [0, 1, 1, -1],
    "both numbers below 0, to the right": [-1, -2, 0, 1],
    "both numbers below 0, up": [0, 1, -1, -2],
    "second number far below 0, to the right": [1, -GREATEST, 0, 1],
    "second number far below 0, up": [0, 1, 1, -GREATEST],
    "0 over -1": [0, -1, 0, 1],
    "two halves": [2, 2, 0, 1],
    "not in lowest terms, to the right": [2, 4, 0, 1],
    "not in lowest terms, up": [0, 1, 2, 4],
    "below 0 and not in lowest terms": [0, 1, -3, 6],
    "whole, but not in lowest terms": [6, 3, 0, 1],
    "great and not in lowest terms, to the right": [GREATEST - 3, GREATEST, 0, 1],
    "great and not in lowest terms, up": [0, 1, 3 - GREATEST, GREATEST],
    "the same great number twice": [GREATEST, GREATEST, 0, 1],
    "0 over 2, to the right": [0, 2, 0, 1],
    "0 over 2, up": [0, 1, 0, 2],
    "0 over a great number": [0, GREATEST, 0, 1],
    "first number past the bound": [GREATEST + 1, 1, 0, 1],
    "first number past the bound below 0": [0, 1, -GREATEST - 1, 1],
    "second number past the bound": [0, 1, 1, GREATEST + 1],
}


def point_row(point):
    """A point told as four numbers."""
    return [number for part in point for number in Fraction(part).as_integer_ratio()]


def piece_row(corners):
    """Corners told as four numbers each; they may be given as a text."""
    if isinstance(corners, str):
        corners = [corner.split() for corner in corners.split(",")]
    return [number for corner in corners for number in point_row(corner)]


def answer_of(corners):
    """What is answered as a piece: how many corners, then these; they may be given as a text."""
    row = piece_row(corners) if corners else []
    return [len(row) // 4] + row


# Pieces, as texts: of each corner how far to the right, how far up.
PIECES = {
    "small triangle": "0 0, 1 0, 0 1",
    "triangle aslant": "-1/2 1/3, 5/4 -2/7, 3 7/2",
    "square": "0 0, 2 0, 2 2, 0 2",
    "square, begun with another corner": "2 2, 0 2, 0 0, 2 0",
    "square on its corner": "1 -1/2, 5/2 1, 1 5/2, -1/2 1",
    "five corners": "1/2 0, 3 -1, 4 2, 2 7/2, 0 3/2",
    "eight corners": "1 0, 2 0, 3 1, 3 2, 2 3, 1 3, 0 2, 0 1",
}

# Three to forty corners, each of two fractions, that go wrong; so they do from whichever corner one begins.
WRONG_ROUND = {
    "triangle on the right": "0 0, 0 1, 1 0",
    "square on the right": "0 0, 0 2, 2 2, 2 0",
    "eight corners on the right": "0 1, 0 2, 1 3, 2 3, 3 2, 3 1, 2 0, 1 0",
    "all in a line": "0 0, 1 1, 2 2",
    "all in a line, there and back": "0 0, 3 0, 1 0, 2 0",
    "all at one place": "1/2 1/3, 1/2 1/3, 1/2 1/3",
    "straight corner": "0 0, 1 0, 2 0, 0 2",
    "straight corner aslant": "0 0, 3 0, 2 1/3, 0 1",
    "straight corner on an upright side": "0 0, 2 0, 2 1/2, 2 2, 0 2",
    "corner that turns back": "0 0, 4 0, 2 0, 2 3",
    "spike outwards": "0 0, 2 0, 2 2, 3 3, 2 2, 0 2",
    "two corners at one place, one after the other": "0 0, 2 0, 2 0, 0 2",
    "two corners at one place, apart": "0 0, 2 -1, 2 1, 0 0, -2 1, -2 -1",
    "two corners at one place, there and back": "0 0, 1 0, 0 0, 0 1",
    "inner corner": "0 0, 4 0, 1 1, 0 4",
    "inner corner by a hair": "0 0, 2 0, 1 999/1000, 0 2",
    "inner corner, six corners": "0 0, 3 0, 3 1, 1 1, 1 3, 0 3",
    "four corners that cross": "0 0, 2 0, 0 2, 2 2",
    "triangle gone round twice": "0 0, 4 0, 0 4, 0 0, 4 0, 0 4",
    "square gone round twice": "0 0, 2 0, 2 2, 0 2, 0 0, 2 0, 2 2, 0 2",
    "five corners, all to the left, twice round": "0 3, -2 -3, 3 1, -3 1, 2 -3",
    "seven corners, all to the left, twice round": "0 0, 9 0, 9 9, 1 9, 1 1, 8 1, 0 8",
    "eight corners, all to the left, thrice round": "1 0, 3 2, 0 2, 2 0, 2 3, 0 1, 3 1, 1 3",
    "square in a square, twice round": "0 0, 9 0, 9 9, 1 9, 1 1, 8 1, 8 8, 0 8",
}


def curve(count):
    """So many corners, a piece but for their count if they are too few or too many."""
    return piece_row([(k, k * k) for k in range(count)])


def wrongly_told(row):
    """The same corners, but for one fraction that is told in a form that isn't allowed."""
    rows = []
    for k in range(0, len(row), 2):
        upper, lower = row[k], row[k + 1]
        for pair in (
            [2 * upper, 2 * lower], [3 * upper, 3 * lower], [-upper, -lower], [upper, -lower], [upper, 0], [0, 0],
            [upper * 2 ** 254, lower * 2 ** 254], [upper + 2 ** 256 * lower, lower], [1, 2 ** 256],
        ):
            rows.append(row[:k] + pair + row[k + 2:])
    return rows


def not_pieces():
    """Each row that is no piece, with its name."""
    square = piece_row(PIECES["square"])
    rows = [
        ("empty", []),
        ("one corner", square[:4]),
        ("two corners", square[:8]),
        ("forty-one corners", curve(41)),
        ("eighty corners", curve(80)),
        ("two thousand numbers", curve(500)),
        ("two thousand numbers at one place", [0, 1] * 1000),
    ]
    rows.extend(("%d numbers" % count, (square + square)[:count]) for count in (1, 2, 3, 5, 6, 7, 9, 10, 11))
    rows.extend(("%d numbers" % count, square[:count]) for count in (13, 14, 15))
    rows.extend(("forty corners, and more", curve(41)[:count]) for count in (161, 162, 163))
    for name in ("small triangle", "triangle aslant", "square on its corner"):
        rows.extend((name + ", wrongly told", row) for row in wrongly_told(piece_row(PIECES[name])))
    for name, text in WRONG_ROUND.items():
        rows.extend((name, turned) for turned in begun_anywhere(piece_row(text), 4))
    return rows


def begun_later(row, k, numbers=2):
    """The same corners in the same order, of so many numbers each, begun k corners later."""
    return row[numbers * k:] + row[:numbers * k]


def begun_anywhere(row, numbers=2):
    """The row begun with each of its corners."""
    return [begun_later(row, k, numbers) for k in range(len(row) // numbers)]


def not_figures():
    """Each row that is no figure, with its name."""
    rows = list(WRONG_FORM.items())
    for name, row in WRONG_WAY.items():
        rows.extend((name, turned) for turned in begun_anywhere(row))
    return rows
