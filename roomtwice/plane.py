"""Points and lines of a picture, each told by three whole numbers up to a factor; and fractions.

A point whose third number is 0 is beyond all.
"""


def cross(one, other):
    """The line through two points, or the point where two lines meet; three times 0 if there is not just one."""
    return (
        one[1] * other[2] - one[2] * other[1],
        one[2] * other[0] - one[0] * other[2],
        one[0] * other[1] - one[1] * other[0],
    )


def dot(one, other):
    """0 just where a point lies on a line."""
    return one[0] * other[0] + one[1] * other[1] + one[2] * other[2]


def is_nowhere(numbers):
    """Three times 0 tell neither a point nor a line."""
    return numbers[0] == 0 and numbers[1] == 0 and numbers[2] == 0


def spread(one, two, three):
    """0 just where three points are on a line."""
    return dot(cross(one, two), three)


def shares(point, three):
    """How many times each of three points, put together, makes a point.

    All shares are times the spread of the three, so that they are whole; the same factor for every point.
    """
    return (
        spread(point, three[1], three[2]),
        spread(three[0], point, three[2]),
        spread(three[0], three[1], point),
    )


def put_together(counts, three):
    """The point made of three points, each so many times."""
    return tuple([counts[0] * three[0][k] + counts[1] * three[1][k] + counts[2] * three[2][k] for k in range(3)])


def times(count, point):
    return tuple([count * number for number in point])


def weighed(four):
    """The first three of four points, taken so many times that the fourth is all three together."""
    three = four[:3]
    counts = shares(four[3], three)
    return [times(counts[k], three[k]) for k in range(3)]


def carried(point, before, after):
    """Where the view that takes three weighed points to three others takes a point.

    The three numbers have the same factor for every point, so that they can be set beside one another.
    """
    return put_together(shares(point, before), after)


def no_three_on_a_line(four):
    for left_out in range(4):
        three = four[:left_out] + four[left_out + 1:]
        if spread(three[0], three[1], three[2]) == 0:
            return False
    return True


def common_divisor(one, other):
    larger = abs(one)
    smaller = abs(other)
    while smaller != 0:
        rest = larger % smaller
        larger = smaller
        smaller = rest
    return larger


def fraction(above, below):
    """Both numbers with nothing in common, the one below 1 or more."""
    divisor = common_divisor(above, below)
    if below < 0:
        divisor = -divisor
    return [above // divisor, below // divisor]


def line_told(line):
    """Without a common divisor, the first number that is not 0 above 0."""
    divisor = common_divisor(common_divisor(line[0], line[1]), line[2])
    leading = [number for number in line if number != 0][0]
    if leading < 0:
        divisor = -divisor
    return [number // divisor for number in line]


def ratio(one, other):
    """How many times the other the one is, which are the same up to a factor, as a number above and one below.

    None where the other is three times 0.
    """
    for k in range(3):
        if other[k] != 0:
            return (one[k], other[k])
    return None
