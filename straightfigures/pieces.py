"""Figures with straight sides, and pieces of them, exactly: the calls, and what they know of fractions and pieces.

A point of a piece is reckoned with as three whole numbers (right, up, parts): it lies
right / parts to the right and up / parts up, with parts 1 or more.
"""

from straightfigures.figures import corner_after, corners_of, cut_up, is_figure, row_of, twice_size, where_lies

NOT_AS_TOLD = -22
MAKE_NONE = -33
MOST_BITS = 256
FEWEST_CORNERS_OF_PIECE = 3
MOST_CORNERS_OF_PIECE = 40


def size(f):
    """How great figure f is: the two numbers of a fraction, or the refusal alone."""
    if not is_figure(f):
        return [NOT_AS_TOLD]
    return fraction(twice_size(corners_of(f)), 2)


def triangles(f):
    """How many triangles figure f is cut up into, then the corners of each, or the refusal alone."""
    if not is_figure(f):
        return [NOT_AS_TOLD]
    cut = cut_up(corners_of(f))
    answer = [len(cut)]
    for triangle in cut:
        answer.extend(row_of(triangle))
    return answer


def where1(f, z):
    """2 if point z lies within figure f, 1 if on its border, 0 if outside, or the refusal alone."""
    if not is_figure(f) or not is_point(z):
        return [NOT_AS_TOLD]
    # Measured in parts of z's own fractions all is whole numbers; to stretch both ways changes no answer.
    corners = [(corner[0] * z[1], corner[1] * z[3]) for corner in corners_of(f)]
    return [where_lies((z[0], z[2]), corners)]


def meet(p, q):
    """The corners of what pieces p and q have in common: how many, then each, or the refusal alone."""
    if not is_piece(p) or not is_piece(q):
        return [NOT_AS_TOLD]
    return told_piece(in_common(points_of(p), points_of(q)))


def joined(p, q):
    """The corners of the piece that pieces p and q make: how many, then each, or the refusal alone."""
    if not is_piece(p) or not is_piece(q):
        return [NOT_AS_TOLD]
    corners = made_of_both(points_of(p), points_of(q))
    if len(corners) == 0:
        return [MAKE_NONE]
    return told_piece(corners)


def inside(f, p):
    """1 if all of piece p lies in figure f, else 0, then how much of it does, a fraction; or the refusal alone."""
    if not is_figure(f) or not is_piece(p):
        return [NOT_AS_TOLD]
    piece = points_of(p)
    # The triangles have nothing in common, so nothing of the piece is counted twice.
    held = size_of_all([in_common(piece, whole_points(triangle)) for triangle in cut_up(corners_of(f))])
    # What is as great as the piece leaves no room in it for a point outside.
    answer = [1 if held == size_of_all([piece]) else 0]
    answer.extend(held)
    return answer


def is_point(z):
    """Whether the row z tells a point."""
    return len(z) == 4 and holds_fractions(z)


def holds_fractions(row):
    """Whether each two numbers of the row, of an even count, tell a fraction."""
    return all([is_fraction(row[k], row[k + 1]) for k in range(0, len(row), 2)])


def is_fraction(upper, lower):
    """Whether two numbers, each within bounds, tell a fraction: the second 1 or more, with nothing in common."""
    if lower < 1 or upper.bit_length() > MOST_BITS or lower.bit_length() > MOST_BITS:
        return False
    return common_factor(upper, lower) == 1


def common_factor(one, other):
    """The greatest number that goes into both, of which the other is 1 or more."""
    while other != 0:
        rest = one % other
        one = other
        other = rest
    return one


def fraction(upper, lower):
    """The fraction upper / lower, told in lowest terms; lower is 1 or more."""
    common = common_factor(upper, lower)
    return [upper // common, lower // common]


def is_piece(p):
    """Whether the row p tells a piece that may be handed in."""
    if len(p) % 4 != 0:
        return False
    if len(p) < 4 * FEWEST_CORNERS_OF_PIECE or len(p) > 4 * MOST_CORNERS_OF_PIECE:
        return False
    if not holds_fractions(p):
        return False
    corners = points_of(p)
    # This also tells that one goes round only once, and that no two corners lie at one place.
    return all([others_on_left(corners, k) for k in range(len(corners))])


def others_on_left(corners, k):
    """Whether all corners but its ends lie on the left of the side that begins at corner k."""
    line = line_of_side(corners, k)
    count = len(corners)
    return all([over_line(line, corners[(k + step) % count]) > 0 for step in range(2, count)])


def points_of(p):
    """The corners that the row p tells, as points."""
    return [point_of(p[k], p[k + 1], p[k + 2], p[k + 3]) for k in range(0, len(p), 4)]


def point_of(right, right_parts, up, up_parts):
    """The point that two fractions tell."""
    return lowest_point(right * up_parts, up * right_parts, right_parts * up_parts)


def lowest_point(right, up, parts):
    """The point in the fewest parts, so that the numbers don't grow from cut to cut."""
    common = common_factor(up, common_factor(right, parts))
    return (right // common, up // common, parts // common)


def whole_points(corners):
    """Corners in whole numbers, as points."""
    return [(corner[0], corner[1], 1) for corner in corners]


def line_of_side(corners, k):
    """The line through corner k and the next, as the three numbers that over_line takes."""
    a = corners[k]
    b = corner_after(corners, k)
    return (a[1] * b[2] - a[2] * b[1], a[2] * b[0] - a[0] * b[2], a[0] * b[1] - a[1] * b[0])


def over_line(line, point):
    """Above 0 if the point lies on the left of the line, 0 if on it, below 0 if on its right."""
    return line[0] * point[0] + line[1] * point[1] + line[2] * point[2]


def in_common(one, other):
    """The corners of what two pieces have in common, none if that has no size."""
    left = one
    for k in range(len(other)):
        left = part_on_left(left, line_of_side(other, k))
    return left


def part_on_left(corners, line):
    """The corners of the part of a piece that lies on the left of the line, none if that has no size.

    Where no corner is straight, a line that has corners on both its sides crosses the
    border at two places, so no cut leaves a straight corner, or two corners at one place.
    """
    over = [over_line(line, corner) for corner in corners]
    if max(over, default=0) <= 0:
        return []
    kept = []
    for k in range(len(corners)):
        here = over[k]
        there = over[(k + 1) % len(corners)]
        if here >= 0:
            kept.append(corners[k])
        if here * there < 0:
            kept.append(point_between(corners[k], abs(here), corner_after(corners, k), abs(there)))
    return kept


def point_between(a, a_over, b, b_over):
    """Where a line is crossed between a and b, which lie so far over it on either side."""
    right = a[0] * b_over + b[0] * a_over
    up = a[1] * b_over + b[1] * a_over
    parts = a[2] * b_over + b[2] * a_over
    return lowest_point(right, up, parts)


def size_of_all(pieces):
    """How great all of the pieces are together, told as a fraction."""
    parts = 1
    for corners in pieces:
        for corner in corners:
            parts = parts * (corner[2] // common_factor(parts, corner[2]))
    # Measured in such parts all corners are whole numbers, and only the sum is brought to lowest terms.
    twice = sum([twice_size(in_parts(corners, parts)) for corners in pieces])
    return fraction(twice, 2 * parts * parts)


def in_parts(corners, parts):
    """Points told in so many parts, as corners in whole numbers; each point's own parts go into them."""
    return [(corner[0] * (parts // corner[2]), corner[1] * (parts // corner[2])) for corner in corners]


def made_of_both(one, other):
    """The corners of the piece that two pieces make, none if they make none.

    A line parts two pieces that have nothing in common. If they make a piece, that line
    cuts it in two, and the cut is a whole side of either; so nothing else is looked for.
    """
    for i in range(len(one)):
        for j in range(len(other)):
            if one[i] == corner_after(other, j) and corner_after(one, i) == other[j]:
                # The ends of the side in common come with the one; the other begins and ends with them.
                return without_straight(begun_with(one, i + 1) + begun_with(other, j + 1)[1:-1])
    return []


def begun_with(corners, k):
    """The same corners in the same order, begun with corner k."""
    return corners[k:] + corners[:k]


def without_straight(corners):
    """The corners of a border less the straight ones, none at all if there is an inner one."""
    turns = [over_line(line_of_side(corners, k - 1), corner_after(corners, k)) for k in range(len(corners))]
    if min(turns) < 0:
        return []
    return [corners[k] for k in range(len(corners)) if turns[k] > 0]


def told_piece(corners):
    """How many corners a piece has, then these, from the leftmost on, of like ones the lowest."""
    first = 0
    for k in range(len(corners)):
        if comes_first(corners[k], corners[first]):
            first = k
    answer = [len(corners)]
    for corner in begun_with(corners, first):
        answer.extend(fraction(corner[0], corner[2]))
        answer.extend(fraction(corner[1], corner[2]))
    return answer


def comes_first(one, other):
    """Whether one point lies further to the left than the other, or as far and lower."""
    farther = one[0] * other[2] - other[0] * one[2]
    if farther != 0:
        return farther < 0
    return one[1] * other[2] < other[1] * one[2]
