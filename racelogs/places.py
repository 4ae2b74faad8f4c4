"""Places, vectors and ways, reckoned in whole numbers. A place and a vector are (x, y)."""


def vector(p, q):
    return (q[0] - p[0], q[1] - p[1])


def cross(u, v):
    return u[0] * v[1] - u[1] * v[0]


def dot(u, v):
    return u[0] * v[0] + u[1] * v[1]


def is_turned_by_half(u, v):
    return cross(u, v) == 0 and dot(u, v) < 0


def is_between(a, number, b):
    return min(a, b) <= number <= max(a, b)


def is_on_straight(place, p, q):
    if cross(vector(p, q), vector(p, place)) != 0:
        return False
    # Both x and y are asked: a straight may run along an axis, or be one place where any cross is 0.
    return is_between(p[0], place[0], q[0]) and is_between(p[1], place[1], q[1])


def way_touches(way, mark):
    return any([is_on_straight(mark, way[k], way[k + 1]) for k in range(len(way) - 1)])
