"""Lines from a first place to a second: the side of a place, and when a step goes over a line."""

from racelogs.places import cross, dot, vector
from racelogs.ratios import lowest


def how_far_left(place, line):
    # Below 0 it is how far on the right.
    return cross(vector(line[0], line[1]), vector(line[0], place))


def meets_between(line, c, d, s, t):
    along = vector(line[0], line[1])
    # All is told s + t times, so that nothing is divided.
    met = t * dot(along, vector(line[0], c)) + s * dot(along, vector(line[0], d))
    return 0 <= met <= (s + t) * dot(along, along)


# The fraction of the step from c to d at which it goes over the line; None if it doesn't.
def when_over(line, c, d):
    s = -how_far_left(c, line)
    t = how_far_left(d, line)
    if s < 0 or t <= 0 or not meets_between(line, c, d, s, t):
        return None
    return lowest(s, s + t)
