"""Polynomials with whole coefficients, as lists from the coefficient of 1 on."""


def multiplied(left, right):
    """The product of two polynomials."""
    product = [0] * (len(left) + len(right) - 1)
    for i, a in enumerate(left):
        for j, b in enumerate(right):
            product[i + j] += a * b
    return product


def divided(poly, divisor):
    """The quotient and the rest; the rest has as many places as the divisor has degree."""
    # The divisor's highest coefficient is 1: whole numbers are enough, also where one counts modulo p.
    degree = len(divisor) - 1
    rest = poly + [0] * (degree - len(poly))
    quotient = [0] * (len(rest) - degree)
    for i in range(len(quotient) - 1, -1, -1):
        quotient[i] = rest[i + degree]
        for j, c in enumerate(divisor):
            rest[i + j] -= quotient[i] * c
    return quotient, rest[:degree]


def rest_of(poly, divisor):
    """What is left of a polynomial, divided by one whose highest coefficient is 1."""
    return divided(poly, divisor)[1]


def modulo(poly, p):
    """The polynomial with coefficients from 0 to p - 1."""
    return [c % p for c in poly]


def is_multiple(poly, divisor, p):
    """Whether the polynomial is a multiple of the divisor modulo p."""
    return not any(modulo(rest_of(poly, divisor), p))


def value_at(poly, x):
    """The value of the polynomial at x."""
    value = 0
    for c in reversed(poly):
        value = value * x + c
    return value


def can_be_parted(poly):
    """Whether a polynomial of degree 2 to 4, its highest coefficient 1, is a product of two of lower degree."""
    # A whole root divides the coefficient of 1; if that is 0, 0 is a root itself.
    reach = abs(poly[0])
    if any([value_at(poly, x) == 0 for x in range(-reach, reach + 1)]):
        return True
    # Up to degree 3 one of two parts has degree 1, so a root.
    return len(poly) == 5 and has_two_quadratic_parts(poly)


def has_two_quadratic_parts(poly):
    """Whether a polynomial of degree 4 without whole roots is (b + a x + x x) (d + c x + x x)."""
    c0, c1, c2, c3 = poly[:4]
    # -a is the sum of two roots, and no root is longer than 1 and the longest coefficient together.
    reach = 2 + 2 * max([abs(c) for c in poly])
    # c0 is not 0, as 0 is no root.
    for b in range(-abs(c0), abs(c0) + 1):
        if b != 0 and c0 % b == 0:
            d = c0 // b
            for a in range(-reach, reach + 1):
                c = c3 - a
                if b + d + a * c == c2 and a * d + b * c == c1:
                    return True
    return False


def taken_out(poly, divisor, p):
    """How often the divisor stands in the polynomial modulo p, and what is left without it."""
    often = 0
    left = poly
    while is_multiple(left, divisor, p):
        left = modulo(divided(left, divisor)[0], p)
        often += 1
    return often, left


def candidates(p):
    """All polynomials of degree 1 and 2 modulo p with the highest coefficient 1, in the order of parts."""
    return [[k, 1] for k in range(p)] + [[k // p, k % p, 1] for k in range(p * p)]


def factors_modulo(poly, p):
    """The parts of a polynomial of degree up to 4 by p, in order: pairs of the part and how often it stands there."""
    left = modulo(poly, p)
    found = []
    for part in candidates(p):
        # What is left has no part ahead of this one: with less than twice its degree it can't be parted further.
        if len(left) - 1 < 2 * (len(part) - 1):
            break
        often, left = taken_out(left, part, p)
        if often > 0:
            found.append((part, often))
    if len(left) > 1:
        found.append((left, 1))
    return found


def defect_by(poly, p, factors):
    """The polynomial less the product of its parts by p, divided by p."""
    product = [1]
    for part, often in factors:
        for k in range(often):
            product = multiplied(product, part)
    return [(a - b) // p for a, b in zip(poly, product)]


def parts_by(poly, p):
    """The parts by p in order: the part, how often it stands there, whether its prime ideal is regular."""
    factors = factors_modulo(poly, p)
    defect = defect_by(poly, p, factors)
    return [(part, often, often == 1 or not is_multiple(defect, part, p)) for part, often in factors]
