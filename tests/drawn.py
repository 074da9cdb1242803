"""Figures, positions and places for tests, worked out with Python's own fractions."""

from fractions import Fraction

from figureclaims.figures import parameters_of

# What S2.2 and S2.4 tell, by another way: with Python's own fractions, and
# places as pairs of them. None is a step that cannot be done.

def vector(a, b):
    return b[0] - a[0], b[1] - a[1]


def dot(u, v):
    return u[0] * v[0] + u[1] * v[1]


def cross(u, v):
    return u[0] * v[1] - u[1] * v[0]


def gone(a, t, u):
    return a[0] + t * u[0], a[1] + t * u[1]


def turned(u):
    return -u[1], u[0]


def foot(p, a, b):
    u = vector(a, b)
    return None if a == b else gone(a, dot(vector(a, p), u) / dot(u, u), u)


def mirror(p, a, b):
    f = foot(p, a, b)
    return None if f is None else gone(p, 2, vector(p, f))


def other(a, b, m):
    f = foot(m, a, b)
    return None if f is None else gone(a, 2, vector(a, f))


def meet(a, b, c, d):
    u, v = vector(a, b), vector(c, d)
    return None if cross(u, v) == 0 else gone(a, cross(vector(a, c), v) / cross(u, v), u)


def middle(a, b, c):
    # Where the lines meet that stand upright on the middles of ab and of ac.
    p, q = gone(a, Fraction(1, 2), vector(a, b)), gone(a, Fraction(1, 2), vector(a, c))
    return meet(p, gone(p, 1, turned(vector(a, b))), q, gone(q, 1, turned(vector(a, c))))


def around(a, b, t):
    u = vector(a, b)
    return gone(gone(a, (1 - t * t) / (1 + t * t), u), 2 * t / (1 + t * t), turned(u))


def inverse(p, m, a):
    u = vector(m, p)
    return None if p == m else gone(m, dot(vector(m, a), vector(m, a)) / dot(u, u), u)


STEPS = {
    "at": lambda x, y: (x, y),
    "free": lambda x, y: (x, y),
    "on": lambda a, b, t: gone(a, t, vector(a, b)),
    "round": around,
    "part": lambda a, b, s, k: gone(a, Fraction(s) / k, vector(a, b)),
    "quarter": lambda a, b: gone(a, 1, turned(vector(a, b))),
    "shift": lambda a, b, c: gone(c, 1, vector(a, b)),
    "meet": meet, "foot": foot, "mirror": mirror, "middle": middle, "other": other,
    "second": mirror, "inverse": inverse,
}
INTEGERS = {"at": 2, "part": 2}
PARAMETERS = {"free": 2, "on": 1, "round": 1}
POINTS = {
    "at": 0, "free": 0, "on": 2, "round": 2, "part": 2, "quarter": 2, "shift": 3, "foot": 3,
    "mirror": 3, "middle": 3, "other": 3, "second": 3, "inverse": 3, "meet": 4,
}


def circle_says(a, b, c, d):
    u, v, w = vector(a, b), vector(a, c), vector(a, d)
    return dot(u, u) * cross(v, w) + dot(v, v) * cross(w, u) + dot(w, w) * cross(u, v) == 0


def size(a, b):
    return dot(vector(a, b), vector(a, b))


def angle_says(a, b, c, d, e, f):
    u, v, x, y = vector(b, a), vector(b, c), vector(e, d), vector(e, f)
    return cross(u, v) * dot(x, y) == dot(u, v) * cross(x, y)


CLAIMS = {
    "same": (2, lambda a, b: a == b),
    "line": (3, lambda a, b, c: cross(vector(a, b), vector(a, c)) == 0),
    "circle": (4, circle_says),
    "parallel": (4, lambda a, b, c, d: cross(vector(a, b), vector(c, d)) == 0),
    "upright": (4, lambda a, b, c, d: dot(vector(a, b), vector(c, d)) == 0),
    "long": (4, lambda a, b, c, d: size(a, b) == size(c, d)),
    "area": (6, lambda a, b, c, d, e, f:
             cross(vector(a, b), vector(a, c)) == cross(vector(d, e), vector(d, f))),
    "angle": (6, angle_says),
    "ratio": (8, lambda a, b, c, d, e, f, g, h: size(a, b) * size(c, d) == size(e, f) * size(g, h)),
}


def expected(figure, position):
    places, told = [], [Fraction(*pair) for pair in position]
    for word, *rest in figure:
        points = [places[p] for p in rest[:POINTS[word]]]
        numbers = [Fraction(n) for n in rest[POINTS[word]:]] + told[:PARAMETERS.get(word, 0)]
        told = told[PARAMETERS.get(word, 0):]
        place = STEPS[word](*points, *numbers)
        if place is None:
            break
        places.append(place)
    return places


def pairs(place):
    return tuple([(x.numerator, x.denominator) for x in map(Fraction, place)])


def at(*coordinates):
    """Places in whole numbers or halves, told as x, y, x, y and so on."""
    values = [Fraction(x) for x in coordinates]
    return [pairs(values[k:k + 2]) for k in range(0, len(values), 2)]


def some_figure(source, most):
    """A figure of points that fall together now and then, and of lines that are parallel."""
    figure = [("at", source.randrange(-2, 3), source.randrange(-2, 3)) for _ in range(2)] + [("free",)]
    while len(figure) < most:
        word = source.choice(list(POINTS))
        points = tuple([source.randrange(len(figure)) for _ in range(POINTS[word])])
        integers = tuple([source.randrange(-3, 4), source.randrange(1, 4)]) if word in INTEGERS else ()
        figure.append((word,) + points + integers)
    return tuple(figure)


def some_position(source, figure):
    position = []
    for _ in range(parameters_of(figure)):
        value = Fraction(source.randrange(-3, 4), source.choice([1, 1, 1, 2, 3, 7]))
        position.append((value.numerator, value.denominator))
    return tuple(position)
