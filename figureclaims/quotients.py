"""Divisors, quotients, and papers that show that there is none."""

from heapq import heapify, heappop, heappush
from math import gcd

from figureclaims.errors import BadTree
from figureclaims.members import is_tuple_of
from figureclaims.polynomials import check_polynomial, poly_sum, poly_times, whole_value
from figureclaims.rows import code_strides, coded, decoded, exponents_of, in_order

# Where numbers are put in to see soon that there is no quotient.
FAR = 1000
# More steps than a division takes: each one may add a greatest exponent to what stands in a code.
STEPS = 10 ** 9


def divisor_of(p):
    """The greatest common divisor of a polynomial's numbers, 0 for nought."""
    common = 0
    for _, number in p:
        common = gcd(common, number)
    return common


def least_form(p):
    """A polynomial without a common divisor, its last term's number above 0."""
    if not p:
        return p
    by = divisor_of(p)
    if p[-1][1] < 0:
        by = -by
    return tuple([(exponents, number // by) for exponents, number in p])


def quotient(p, q):
    """The polynomial that times q, not nought, is p, or None."""
    if not _may_divide(p, q):
        return None
    s, rest = _divided(p, q)
    return None if rest else s


def rest_paper(p, q):
    """A pair that shows that p is no multiple of q, not nought, or None if it is one."""
    s, rest = _divided(p, q)
    return (s, rest) if rest else None


def judge_rest(m, p, q, value):
    """The first fault of what is no rest paper, or None."""
    if not is_tuple_of(value, 2) or not all([_is_polynomial(m, part) for part in value]):
        return ("form",)
    s, rest = value
    if poly_sum(poly_times(q, s), rest) != p:
        return ("sum",)
    if not rest:
        return ("nought",)
    return ("last",) if _is_multiple(rest[-1], q[-1]) else None


def _is_polynomial(m, value):
    try:
        check_polynomial(m, value)
    except BadTree:
        return False
    return True


def _is_multiple(term, other):
    """Whether a term is a multiple of another one."""
    fits = all([e >= f for e, f in zip(term[0], other[0])])
    return fits and term[1] % other[1] == 0


def _may_divide(p, q):
    """Whether at one place the value of p is a multiple of that of q."""
    place = [FAR + k for k in range(len(q[0][0]))]
    by = whole_value(q, place)
    worth = whole_value(p, place)
    return worth == 0 if by == 0 else worth % by == 0


def _divided(p, q):
    """A pair (s, rest): p is q times s, and rest, whose last term is no multiple of that of q."""
    strides = _wide_strides(p, q)
    *others, (last, by) = coded(q, strides)
    found = {code: number for code, number in coded(p, strides)}
    codes = [-code for code in found]
    heapify(codes)
    taken = {}
    while codes:
        code = -codes[0]
        number = found[code]
        if number != 0:
            if not _is_multiple((exponents_of(code, strides), number), q[-1]):
                break
            taken[code - last] = number // by
            _take_away(others, code - last, number // by, found, codes)
        del found[code]
        heappop(codes)
    return decoded(in_order(taken), strides), decoded(in_order(found), strides)


def _wide_strides(p, q):
    """Strides that fit for whatever comes up as q is taken away from p."""
    exponents = [max(term[0], default=0) for term in p + q]
    return code_strides([max(exponents) * STEPS + 1] * len(q[0][0]))


def _take_away(row, code, number, found, codes):
    """Take a row, moved by a code and times a number, away from found; new codes join the heap."""
    for more, by in row:
        at = code + more
        if at not in found:
            found[at] = 0
            heappush(codes, -at)
        found[at] = found[at] - by * number
