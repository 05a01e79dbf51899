"""Figures with straight sides, and points beside them, exactly: the calls, and what they know of fractions."""

from straightfigures.figures import corners_of, first_ear, is_figure, row_of, triangle_at, twice_size, where_lies

NOT_AS_TOLD = -22
MOST_BITS = 256


def size(f):
    """How great figure f is: the two numbers of a fraction, or the refusal alone."""
    if not is_figure(f):
        return [NOT_AS_TOLD]
    return half_of(twice_size(corners_of(f)))


def triangles(f):
    """How many triangles figure f is cut up into, then the corners of each, or the refusal alone."""
    if not is_figure(f):
        return [NOT_AS_TOLD]
    left = corners_of(f)
    answer = [len(left) - 2]
    while len(left) > 3:
        k = first_ear(left)
        answer.extend(row_of(triangle_at(left, k)))
        left.pop(k)
    answer.extend(row_of(left))
    return answer


def where1(f, z):
    """2 if point z lies within figure f, 1 if on its border, 0 if outside, or the refusal alone."""
    if not is_figure(f) or not is_point(z):
        return [NOT_AS_TOLD]
    # Measured in parts of z's own fractions all is whole numbers; to stretch both ways changes no answer.
    corners = [(corner[0] * z[1], corner[1] * z[3]) for corner in corners_of(f)]
    return [where_lies((z[0], z[2]), corners)]


def is_point(z):
    """Whether the row z tells a point."""
    return len(z) == 4 and holds_fractions(z)


def holds_fractions(row):
    """Whether each two numbers of the row, of an even count, tell a fraction."""
    return all([is_fraction(row[k], row[k + 1]) for k in range(0, len(row), 2)])


def is_fraction(upper, lower):
    """Whether two numbers, each within bounds, tell a fraction: the second 1 or more, with nothing in common."""
    if lower < 1 or upper.bit_length() > MOST_BITS or lower.bit_length() > MOST_BITS:
        return False
    return common_factor(upper, lower) == 1


def common_factor(one, other):
    """The greatest number that goes into both, of which the other is 1 or more."""
    while other != 0:
        rest = one % other
        one = other
        other = rest
    return one


def half_of(number):
    """Half a whole number, as a fraction in lowest terms."""
    if number % 2 == 0:
        return [number // 2, 1]
    return [number, 2]
