"""What the document says, found another way: slowly, with Python's own fractions."""

from fractions import Fraction


class Numbers:
    """Numbers that look like chance, the same in each run."""

    def __init__(self, seed):
        self.state = seed

    def below(self, bound):
        self.state = (self.state * 6364136223846793005 + 1442695040888963407) % 2 ** 64
        return (self.state >> 33) % bound

    def corner(self, reach):
        return (self.below(2 * reach + 1) - reach, self.below(2 * reach + 1) - reach)


def corner_list(row):
    return list(zip(row[0::2], row[1::2]))


def row_of(corners):
    return [number for corner in corners for number in corner]


def common_ends(one, other):
    """The stretch that two sides have in common, as its two ends; None if there is none."""
    (ax, ay), (bx, by) = one
    (cx, cy), (dx, dy) = other
    ux, uy, vx, vy = bx - ax, by - ay, dx - cx, dy - cy
    wx, wy = cx - ax, cy - ay
    across = ux * vy - uy * vx
    if across != 0:
        s = Fraction(wx * vy - wy * vx, across)
        t = Fraction(wx * uy - wy * ux, across)
        if 0 <= s <= 1 and 0 <= t <= 1:
            point = (ax + s * ux, ay + s * uy)
            return point, point
        return None
    if ux * wy != uy * wx:
        return None
    # Points of one line are in the same order as the pairs of their numbers.
    low = max(min(one), min(other))
    high = min(max(one), max(other))
    return (low, high) if low <= high else None


def goes_left(corners):
    """The lowest of the leftmost corners is never an inner one, so its turn tells the way round."""
    k = corners.index(min(corners))
    (ax, ay), (bx, by), (cx, cy) = corners[k - 1], corners[k], corners[(k + 1) % len(corners)]
    return (bx - ax) * (cy - by) > (by - ay) * (cx - bx)


def is_figure(row):
    if len(row) not in (6, 8, 10, 12, 14, 16) or min(row) < -50 or max(row) > 50:
        return False
    corners = corner_list(row)
    count = len(corners)
    sides = [(corners[k], corners[(k + 1) % count]) for k in range(count)]
    if any(a == b for a, b in sides):
        return False
    for k in range(count):
        (ax, ay), (bx, by) = sides[k - 1]
        (cx, cy) = sides[k][1]
        if (bx - ax) * (cy - by) == (by - ay) * (cx - bx):
            return False
    for i in range(count):
        for j in range(i):
            allowed = None
            if i == j + 1:
                allowed = (corners[i], corners[i])
            elif j == 0 and i == count - 1:
                allowed = (corners[0], corners[0])
            if common_ends(sides[i], sides[j]) != allowed:
                return False
    return goes_left(corners)


def size_of(row):
    """The strips between each side and the upward line through the middle, added up."""
    corners = corner_list(row)
    total = Fraction(0)
    for k, (bx, by) in enumerate(corners):
        ax, ay = corners[k - 1]
        total += Fraction(ax + bx, 2) * (by - ay)
    return total


def in_triangle(point, triangle):
    """A point lies in a triangle just if the three triangles that it makes with its sides are no greater."""
    a, b, c = triangle
    parts = [abs(size_of(row_of(part))) for part in ((point, a, b), (point, b, c), (point, c, a))]
    return sum(parts) == abs(size_of(row_of(triangle)))


def cut_up(corners):
    """The triangles, in order, as the document tells how they are cut off."""
    if len(corners) == 3:
        return [tuple(corners)]
    for k, corner in enumerate(corners):
        triangle = (corners[k - 1], corner, corners[(k + 1) % len(corners)])
        others = [other for other in corners if other not in triangle]
        if size_of(row_of(triangle)) > 0 and not any(in_triangle(other, triangle) for other in others):
            return [triangle] + cut_up(corners[:k] + corners[k + 1:])
    raise AssertionError("no ear is left")


def lies_between(point, a, b):
    """A point lies on a side just if it is in the room of both ends and makes no triangle with them."""
    return all(min(p, q) <= x <= max(p, q) for x, p, q in zip(point, a, b)) and size_of(row_of((point, a, b))) == 0


def where(row, point):
    """Within a figure, its border too, lies what lies in one of its triangles."""
    corners = corner_list(row)
    if any(lies_between(point, corners[k - 1], corner) for k, corner in enumerate(corners)):
        return 1
    return 2 if any(in_triangle(point, triangle) for triangle in cut_up(corners)) else 0


def keep_apart(one, other):
    """Two triangles have no size in common just if a side of one of them has all of the other on its right."""
    for first, second in ((one, other), (other, one)):
        for k in range(3):
            a, b = first[k - 1], first[k]
            if all(size_of(row_of((a, b, c))) <= 0 for c in second):
                return True
    return False


def some_figure(numbers, count, reach):
    """A figure of so many corners: from a triangle on, corners are put in where one is left."""
    corners = [numbers.corner(reach) for _ in range(3)]
    while not is_figure(row_of(corners)):
        corners = [numbers.corner(reach) for _ in range(3)]
    tries = 0
    while len(corners) < count:
        k = numbers.below(len(corners) + 1)
        grown = corners[:k] + [numbers.corner(reach)] + corners[k:]
        if is_figure(row_of(grown)):
            corners = grown
        tries += 1
        if tries > 2000:
            return some_figure(numbers, count, reach)
    return row_of(corners)


def some_figures():
    """Figures of each count of corners, in narrow room (where much lies in a line) and in wide."""
    numbers = Numbers(1)
    return [
        some_figure(numbers, count, reach)
        for count in range(3, 9)
        for reach in (2, 3, 5, 50)
        for _ in range(25)
    ]


def fractions_of(row):
    """The points that a row of fractions tells."""
    parts = [Fraction(upper, lower) for upper, lower in zip(row[0::2], row[1::2])]
    return corner_list(parts)


def hull(points):
    """What lies between all of the points: its corners, from the leftmost on, of like ones the lowest."""
    points = sorted(set(points))
    halves = []
    for order in (points, points[::-1]):
        half = []
        for point in order:
            while len(half) > 1 and size_of(row_of((half[-2], half[-1], point))) <= 0:
                half.pop()
            half.append(point)
        halves.append(half[:-1])
    return halves[0] + halves[1]


def is_piece(row):
    """A piece is what lies between all of its corners, and each of them is one of that, in order."""
    if len(row) not in range(12, 161, 4) or max(map(abs, row)) >= 2 ** 256:
        return False
    pairs = zip(row[0::2], row[1::2])
    if not all(lower > 0 and Fraction(upper, lower).as_integer_ratio() == (upper, lower) for upper, lower in pairs):
        return False
    corners = fractions_of(row)
    k = corners.index(min(corners))
    return len(set(corners)) > 2 and hull(corners) == corners[k:] + corners[:k]


def in_piece(point, corners):
    """2 if the point lies strictly within the piece, 1 if on its border, 0 if outside."""
    if not corners:
        return 0
    heights = [size_of(row_of((corners[k - 1], corner, point))) for k, corner in enumerate(corners)]
    return 0 if min(heights) < 0 else 1 if min(heights) == 0 else 2


def common_corners(one, other):
    """What two pieces have in common lies between the corners of each in the other and where their sides meet."""
    points = [corner for corner in one if in_piece(corner, other)]
    points += [corner for corner in other if in_piece(corner, one)]
    for i, a in enumerate(one):
        for j, b in enumerate(other):
            points += common_ends((one[i - 1], a), (other[j - 1], b)) or ()
    corners = hull([(Fraction(right), Fraction(up)) for right, up in points])
    return corners if len(corners) > 2 else []


def made_of_both(one, other):
    """What lies between all corners of two pieces that have nothing in common, if it is just as great as both."""
    if common_corners(one, other):
        return []
    corners = hull(one + other)
    both = size_of(row_of(one)) + size_of(row_of(other))
    return corners if size_of(row_of(corners)) == both else []


def sides_of(corners):
    return [(corner, corners[(k + 1) % len(corners)]) for k, corner in enumerate(corners)]


def heights(corners, right):
    """Where the border goes over an upright line that goes through no corner, from below upwards, by twos."""
    ups = []
    for (ax, ay), (bx, by) in sides_of(corners):
        if min(ax, bx) < right < max(ax, bx):
            ups.append(ay + (by - ay) * Fraction(right - ax) / (bx - ax))
    ups.sort()
    return list(zip(ups[0::2], ups[1::2]))


def strips(figure, piece):
    """Upright strips in which no corner lies and no sides cross: of each its width and its middle."""
    rights = {Fraction(right) for right, up in figure + piece}
    for one in sides_of(figure):
        for other in sides_of(piece):
            rights.update(Fraction(right) for right, up in common_ends(one, other) or ())
    rights = sorted(rights)
    return [(high - low, (low + high) / 2) for low, high in zip(rights, rights[1:])]


def held(figure, piece):
    """How much of a piece lies in a figure: of each strip, its width times what it holds in its middle."""
    total = Fraction(0)
    for width, middle in strips(figure, piece):
        for low, high in heights(piece, middle):
            for under, over in heights(figure, middle):
                total += width * max(0, min(high, over) - max(low, under))
    return total


def point_outside(figure, piece):
    """A point strictly within the piece that lies outside the figure; None if there is none."""
    for width, middle in strips(figure, piece):
        for low, high in heights(piece, middle):
            ends = [low]
            for under, over in heights(figure, middle):
                ends += [min(max(end, low), high) for end in (under, over)]
            ends.append(high)
            for under, over in zip(ends[0::2], ends[1::2]):
                if under < over:
                    return (middle, (under + over) / 2)
    return None


def across(corners, i, j):
    """The two pieces that a cut from corner i to corner j leaves of a piece."""
    i, j = sorted((i, j))
    return corners[i:j + 1], corners[j:] + corners[:i + 1]


def along(a, b, part):
    """The point of the line from a to b that lies so far on the way."""
    return tuple(p + (q - p) * part for p, q in zip(a, b))


def some_piece(numbers, reach, parts, most):
    """What lies between some points in a room, as a row; it begins with any corner."""
    while True:
        points = [numbers.corner(reach * parts) for _ in range(3 + numbers.below(most))]
        corners = hull([(Fraction(right, parts), Fraction(up, parts)) for right, up in points])
        if len(corners) > 2:
            k = numbers.below(len(corners))
            return corners[k:] + corners[:k]


def circle(count):
    """So many points of the circle round the middle, one after the other on the left."""
    steps = [Fraction(2 * k - count + 1, 8) for k in range(count)]
    return [((1 - t * t) / (1 + t * t), 2 * t / (1 + t * t)) for t in steps]


def great_circle(count):
    """The same, all but a hair, with numbers just below 2 to the power 256."""
    corners = []
    for k, corner in enumerate(circle(count)):
        lower = 2 ** 256 - 1 - 2 * k
        corners.append(tuple(Fraction(int(part * lower), lower) for part in corner))
    return corners


def great_pieces(numbers, count):
    """Pieces of which each number is just below 2 to the power 256, or nearly."""
    pieces = []
    while len(pieces) < count:
        points = []
        for _ in range(3 + numbers.below(6)):
            right, up = numbers.corner(3)
            lowers = [2 ** 254 - 1 - numbers.below(1000) for _ in range(2)]
            points.append((Fraction(right * lowers[1] + 1, lowers[0]), Fraction(up * lowers[0] - 1, lowers[1])))
        corners = hull(points)
        if len(corners) > 2:
            pieces.append(corners)
    return pieces
