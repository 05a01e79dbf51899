"""Rows that tell figures or points, and rows that do not, by name."""

GREATEST = 2 ** 256 - 1

# The row, then its size.
FIGURES = {
    "smallest triangle": ([0, 0, 1, 0, 0, 1], [1, 2]),
    "triangle of whole size": ([0, 0, 4, 0, 0, 3], [6, 1]),
    "triangle of half size": ([-1, -1, 2, 0, 0, 3], [11, 2]),
    "triangle at the bounds": ([-50, -50, 50, -50, -50, 50], [5000, 1]),
    "thin triangle": ([-50, -50, 50, 49, 49, 49], [99, 2]),
    "square": ([0, 0, 2, 0, 2, 2, 0, 2], [4, 1]),
    "square at the bounds": ([-50, -50, 50, -50, 50, 50, -50, 50], [10000, 1]),
    "square left of and below the middle": ([-9, -9, -7, -9, -7, -7, -9, -7], [4, 1]),
    "four corners, one inner": ([0, 0, 4, 0, 1, 1, 0, 4], [4, 1]),
    "four corners of half size": ([0, 0, 3, 0, 2, 1, 0, 1], [5, 2]),
    "five corners": ([0, 0, 3, 0, 3, 1, 1, 2, 0, 1], [9, 2]),
    "five corners, one inner": ([0, 0, 4, 0, 4, 4, 2, 1, 0, 4], [10, 1]),
    "six corners": ([1, 0, 2, 0, 3, 1, 2, 2, 1, 2, 0, 1], [4, 1]),
    "angle of six corners": ([0, 0, 3, 0, 3, 1, 1, 1, 1, 3, 0, 3], [5, 1]),
    "crown of seven corners": ([0, 0, 4, 0, 4, 3, 3, 1, 2, 3, 1, 1, 0, 3], [8, 1]),
    "eight corners": ([1, 0, 2, 0, 3, 1, 3, 2, 2, 3, 1, 3, 0, 2, 0, 1], [7, 1]),
    "cup of eight corners": ([0, 0, 3, 0, 3, 4, 2, 3, 2, 1, 1, 1, 1, 3, 0, 3], [15, 2]),
    "star of eight corners": ([0, -3, 1, -1, 3, 0, 1, 1, 0, 3, -1, 1, -3, 0, -1, -1], [12, 1]),
}

# A figure but for its nine corners.
NINE_CORNERS = [0, 0, 4, 0, 7, 1, 9, 3, 10, 6, 10, 9, 7, 12, 3, 11, 0, 5]

# The form is wrong whatever the numbers would tell.
WRONG_FORM = {
    "empty": [],
    "one number": [0],
    "one corner": [0, 0],
    "two corners": [0, 0, 1, 0],
    "five numbers": [0, 0, 1, 0, 0],
    "a triangle and one number": [0, 0, 1, 0, 0, 1, 0],
    "eight corners and one number": FIGURES["eight corners"][0] + [0],
    "nine corners": NINE_CORNERS,
    "two thousand numbers": [k % 50 for k in range(2000)],
    "right of the bounds": [0, 0, 51, 0, 0, 1],
    "above the bounds": [0, 0, 1, 0, 0, 51],
    "left of the bounds": [-51, 0, 0, 0, 0, 1],
    "below the bounds": [0, -51, 1, 0, 0, 1],
    "very far to the right": [0, 0, GREATEST, 0, 0, 1],
    "very far up": [0, 0, 1, 0, 0, GREATEST],
    "very far to the left": [-GREATEST, 0, 0, 0, 0, 1],
    "very far down": [0, -GREATEST, 1, 0, 0, 1],
}

# Three to eight corners within the bounds that go wrong; so they do from whichever corner one begins.
WRONG_WAY = {
    "triangle on the right": [0, 0, 0, 1, 1, 0],
    "square on the right": [0, 0, 0, 2, 2, 2, 2, 0],
    "inner corner, on the right": [0, 0, 0, 4, 1, 1, 4, 0],
    "cup on the right": [0, 0, 0, 3, 1, 3, 1, 1, 2, 1, 2, 3, 3, 4, 3, 0],
    "all in a line": [0, 0, 1, 1, 2, 2],
    "there and back": [0, 0, 4, 0, 1, 0, 3, 0],
    "all at one place": [3, 3, 3, 3, 3, 3],
    "straight corner": [0, 0, 2, 0, 4, 0, 0, 3],
    "straight corner aslant": [0, 0, 6, 0, 4, 1, 2, 2, 0, 2],
    "corner that turns back": [0, 0, 4, 0, 2, 0, 2, 3],
    "spike outwards": [0, 0, 4, 0, 4, 4, 7, 7, 4, 4, 0, 4],
    "spike along a side": [0, 0, 6, 0, 4, 0, 4, 4, 0, 4],
    "two corners at one place, one after the other": [0, 0, 4, 0, 4, 0, 0, 4],
    "two corners at one place, apart": [0, 0, 2, -1, 2, 1, 0, 0, -2, 1, -2, -1],
    "a triangle gone round twice": [0, 0, 4, 0, 0, 4, 0, 0, 4, 0, 0, 4],
    "four corners that cross": [0, 0, 5, 0, 1, 3, 4, 3],
    "five corners that cross, all to the left": [0, 3, -2, -3, 3, 1, -3, 1, 2, -3],
    "one side across a whole figure": [0, 0, 6, 0, 6, 4, 3, 4, 3, -2, 2, 4, 0, 4],
    "corner on a side": [0, 0, 4, 0, 4, 4, 2, 0, 0, 4],
    "corner on a side aslant": [0, 0, 6, 3, 6, 8, 2, 1, 0, 8],
    "corner on a side from without": [0, 0, 4, 0, 4, 4, 8, 4, 4, 2, 8, 6, 0, 6],
    "sides with a stretch in common": [0, 0, 6, 0, 6, 2, 4, 0, 2, 0, 0, 2],
    "sides with one end and a stretch in common": [0, 0, 4, 0, 4, 4, 2, 2, 4, 0, 6, 6, 0, 6],
}

# None of these tells a point.
NOT_POINTS = {
    "empty": [],
    "one number": [0],
    "two numbers": [0, 1],
    "three numbers": [0, 1, 0],
    "five numbers": [0, 1, 0, 1, 0],
    "six numbers": [0, 1, 0, 1, 0, 1],
    "two points": [0, 1, 0, 1, 1, 1, 1, 1],
    "two thousand numbers": [0, 1] * 1000,
    "second number 0, to the right": [1, 0, 0, 1],
    "second number 0, up": [0, 1, 1, 0],
    "0 over 0, to the right": [0, 0, 0, 1],
    "0 over 0, up": [0, 1, 0, 0],
    "second number -1, to the right": [1, -1, 0, 1],
    "second number -1, up": [0, 1, 1, -1],
    "both numbers below 0, to the right": [-1, -2, 0, 1],
    "both numbers below 0, up": [0, 1, -1, -2],
    "second number far below 0, to the right": [1, -GREATEST, 0, 1],
    "second number far below 0, up": [0, 1, 1, -GREATEST],
    "0 over -1": [0, -1, 0, 1],
    "two halves": [2, 2, 0, 1],
    "not in lowest terms, to the right": [2, 4, 0, 1],
    "not in lowest terms, up": [0, 1, 2, 4],
    "below 0 and not in lowest terms": [0, 1, -3, 6],
    "whole, but not in lowest terms": [6, 3, 0, 1],
    "great and not in lowest terms, to the right": [GREATEST - 3, GREATEST, 0, 1],
    "great and not in lowest terms, up": [0, 1, 3 - GREATEST, GREATEST],
    "the same great number twice": [GREATEST, GREATEST, 0, 1],
    "0 over 2, to the right": [0, 2, 0, 1],
    "0 over 2, up": [0, 1, 0, 2],
    "0 over a great number": [0, GREATEST, 0, 1],
    "first number past the bound": [GREATEST + 1, 1, 0, 1],
    "first number past the bound below 0": [0, 1, -GREATEST - 1, 1],
    "second number past the bound": [0, 1, 1, GREATEST + 1],
}


def begun_later(row, k):
    """The same corners in the same order, begun k corners later."""
    return row[2 * k:] + row[:2 * k]


def begun_anywhere(row):
    """The row begun with each of its corners."""
    return [begun_later(row, k) for k in range(len(row) // 2)]


def not_figures():
    """Each row that is no figure, with its name."""
    rows = list(WRONG_FORM.items())
    for name, row in WRONG_WAY.items():
        rows.extend((name, turned) for turned in begun_anywhere(row))
    return rows
