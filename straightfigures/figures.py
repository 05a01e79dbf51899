"""What a figure is, and what can be said of its corners and sides, in whole numbers."""

FEWEST_CORNERS = 3
MOST_CORNERS = 8
FARTHEST = 50


def is_figure(f):
    """Whether the row f tells a figure."""
    if not has_form_of_figure(f):
        return False
    corners = corners_of(f)
    # The size comes last: its sign tells the way round only if no sides cross.
    return turns_everywhere(corners) and sides_keep_apart(corners) and twice_size(corners) > 0


def has_form_of_figure(f):
    """Whether the row f has as many numbers as a figure may have, each within bounds."""
    if len(f) % 2 != 0:
        return False
    if len(f) < 2 * FEWEST_CORNERS or len(f) > 2 * MOST_CORNERS:
        return False
    return all([abs(number) <= FARTHEST for number in f])


def corners_of(f):
    """The corners that the row f tells, as a list of its own."""
    return [(f[k], f[k + 1]) for k in range(0, len(f), 2)]


def row_of(corners):
    """The corners told as a row, two numbers each."""
    row = []
    for corner in corners:
        row.extend(corner)
    return row


def corner_before(corners, k):
    """The corner before corner k, going round."""
    return corners[(k - 1) % len(corners)]


def corner_after(corners, k):
    """The corner after corner k, going round."""
    return corners[(k + 1) % len(corners)]


def turn(a, b, c):
    """Twice the size of the triangle a, b, c: above 0 if one turns left at b, 0 if all lie in a line."""
    return (b[0] - a[0]) * (c[1] - a[1]) - (b[1] - a[1]) * (c[0] - a[0])


def triangle_at(corners, k):
    """The triangle of corner k: the corner before it, it, the one after."""
    return [corner_before(corners, k), corners[k], corner_after(corners, k)]


def turn_at(corners, k):
    """The turn that one takes at corner k."""
    return turn(corner_before(corners, k), corners[k], corner_after(corners, k))


def turns_everywhere(corners):
    """Whether no corner is straight, turns back, or lies at the place of the next."""
    return all([turn_at(corners, k) != 0 for k in range(len(corners))])


def twice_size(corners):
    """Twice the size of what the corners go round, below 0 if they go round it on the right."""
    return sum([turn((0, 0), corners[k], corner_after(corners, k)) for k in range(len(corners))])


def sides_keep_apart(corners):
    """Whether no two sides have a point in common, but for those that follow one another.

    Two sides that follow one another need no look: where no corner is straight
    or turns back, they have only the corner between them in common.
    """
    for i in range(len(corners)):
        for j in range(i + 2, len(corners)):
            follows = (j + 1) % len(corners) == i
            if not follows and sides_meet(corners, i, j):
                return False
    return True


def sides_meet(corners, i, j):
    """Whether the sides that begin at corners i and j have a point in common."""
    a = corners[i]
    b = corner_after(corners, i)
    c = corners[j]
    d = corner_after(corners, j)
    if lies_on_side(a, c, d) or lies_on_side(b, c, d) or lies_on_side(c, a, b) or lies_on_side(d, a, b):
        return True
    # No end lies on the other side now, so what is left is a crossing within both.
    return turn(a, b, c) * turn(a, b, d) < 0 and turn(c, d, a) * turn(c, d, b) < 0


def lies_on_side(point, a, b):
    """Whether the point lies on the side from a to b, its ends too."""
    if turn(a, b, point) != 0:
        return False
    return is_between(point[0], a[0], b[0]) and is_between(point[1], a[1], b[1])


def is_between(number, one, other):
    """Whether the number lies from one to other, both too."""
    return min(one, other) <= number and number <= max(one, other)


def cut_up(corners):
    """The triangles that a figure is cut up into, in order: its ears, then the three corners left."""
    left = list(corners)
    cut = []
    while len(left) > 3:
        k = first_ear(left)
        cut.append(triangle_at(left, k))
        left.pop(k)
    cut.append(left)
    return cut


def first_ear(corners):
    """The place of the first corner that is an ear."""
    k = 0
    # What has more than three corners has two ears, also where a cut has left a straight corner.
    while not is_ear(corners, k):
        k = k + 1
    return k


def is_ear(corners, k):
    """Whether one turns left at corner k and no other corner lies in its triangle, the border too."""
    if turn_at(corners, k) <= 0:
        return False
    triangle = triangle_at(corners, k)
    count = len(corners)
    others = [corners[(k + step) % count] for step in range(2, count - 1)]
    return not any([lies_in_triangle(other, triangle) for other in others])


def lies_in_triangle(point, triangle):
    """Whether the point lies in a triangle that one goes round on the left, its border too."""
    return all([turn(triangle[k], corner_after(triangle, k), point) >= 0 for k in range(3)])


def where_lies(point, corners):
    """2 if the point lies within what the corners go round, 1 if on its border, 0 if outside."""
    for k in range(len(corners)):
        if lies_on_side(point, corners[k], corner_after(corners, k)):
            return 1
    return 2 if times_round(point, corners) != 0 else 0


def times_round(point, corners):
    """How often one goes round a point that is on no side: sides that pass on its right are counted.

    A side counts if it goes over the point's height, its lower end too but not its
    upper one: so what passes through a corner at that height is counted once.
    """
    times = 0
    for k in range(len(corners)):
        a = corners[k]
        b = corner_after(corners, k)
        if a[1] <= point[1] and point[1] < b[1] and turn(a, b, point) > 0:
            times = times + 1
        if b[1] <= point[1] and point[1] < a[1] and turn(a, b, point) < 0:
            times = times - 1
    return times
