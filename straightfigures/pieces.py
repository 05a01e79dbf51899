"""Figures with straight sides: how great they are, and how they are cut up."""

from straightfigures.figures import corners_of, first_ear, is_figure, row_of, triangle_at, twice_size

NOT_AS_TOLD = -22


def size(f):
    """How great figure f is: the two numbers of a fraction, or the refusal alone."""
    if not is_figure(f):
        return [NOT_AS_TOLD]
    return half_of(twice_size(corners_of(f)))


def triangles(f):
    """How many triangles figure f is cut up into, then the corners of each, or the refusal alone."""
    if not is_figure(f):
        return [NOT_AS_TOLD]
    left = corners_of(f)
    answer = [len(left) - 2]
    while len(left) > 3:
        k = first_ear(left)
        answer.extend(row_of(triangle_at(left, k)))
        left.pop(k)
    answer.extend(row_of(left))
    return answer


def half_of(number):
    """Half a whole number, as a fraction in lowest terms."""
    if number % 2 == 0:
        return [number // 2, 1]
    return [number, 2]
