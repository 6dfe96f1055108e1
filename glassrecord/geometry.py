"""Turns of three points, and what they tell of points and lines.

A point is kept as (y, x): the order of tuples is then the order of points
that rule 4 asks for, and the order in which a line passes its points.
"""


def turn(p, q, r):
    return (q[1] - p[1]) * (r[0] - q[0]) - (q[0] - p[0]) * (r[1] - q[1])


# For a line from p up to q. Points in a row are ordered along it, so that
# between the ends by order is within the box.
def lies_inside(p, q, r):
    return p < r and r < q and turn(p, q, r) == 0


# Only a crossing at a point inside both lines is asked for: of two lines that
# share more, or touch, one has an end of the other on it.
def crosses(p, q, r, s):
    if turn(p, q, r) * turn(p, q, s) >= 0:
        return False
    return turn(r, s, p) * turn(r, s, q) < 0


# The lines of the row all pass the height of the spot, from left to right,
# and don't cross: so the halves can be told apart by one line's side.
def count_left(row, spot):
    low = 0
    high = len(row)
    while low < high:
        middle = (low + high) // 2
        line = row[middle]
        if turn(line[0], line[1], spot) < 0:
            low = middle + 1
        else:
            high = middle
    return low
