"""Ideals of the ring of a polynomial, told by their rows; numbers of the ring are lists of their places."""

from ringideals.polynomials import multiplied, rest_of


def less(left, right, times):
    """The left number less so many times the right one."""
    return [a - times * b for a, b in zip(left, right)]


def lead_and_others(vectors, place):
    """A sum of the vectors with the least number above 0 at the place, and what is left of them with 0 there."""
    nothing = [0] * len(vectors[0])
    lead = nothing
    others = []
    for vector in vectors:
        other = vector
        while other[place] != 0:
            lead, other = other, less(lead, other, lead[place] // other[place])
        others.append(other)
    if lead[place] < 0:
        lead = less(nothing, lead, 1)
    return lead, others


def reduced(rows):
    """The rows, each with less at the places ahead of its own than the rows there have."""
    small = []
    for row in rows:
        rest = row
        # From the own place to the front, as a row that is taken away changes only places up to its own.
        for j in range(len(small) - 1, -1, -1):
            rest = less(rest, small[j], rest[j] // small[j][j])
        small.append(rest)
    return small


def rows_of(vectors):
    """The rows of the ideal that is all sums of the vectors."""
    rows = []
    rest = vectors
    for place in range(len(vectors[0]) - 1, -1, -1):
        lead, rest = lead_and_others(rest, place)
        rows.append(lead)
    return reduced(list(reversed(rows)))


def ideal_made_of(numbers, poly):
    """The rows of the ideal made of these numbers, not all 0, of the ring of the polynomial."""
    vectors = []
    for number in numbers:
        shifted = number
        for k in range(len(number)):
            vectors.append(shifted)
            shifted = rest_of([0] + shifted, poly)
    return rows_of(vectors)


def product_of(left, right, poly):
    """The rows of the product of two ideals of the ring of the polynomial, told by their rows."""
    vectors = []
    for a in left:
        for b in right:
            vectors.append(rest_of(multiplied(a, b), poly))
    return rows_of(vectors)


def prime_ideal(p, part, poly):
    """The rows of the prime ideal of p and a part by p of the polynomial."""
    return ideal_made_of([rest_of([p], poly), rest_of(part, poly)], poly)


def norm_of(rows):
    """The product of what the rows have at their own places."""
    norm = 1
    for i, row in enumerate(rows):
        norm *= row[i]
    return norm


def has_number(rows, number):
    """Whether the ideal with these rows has the number."""
    rest = number
    # From the last place on, as a row that is taken away leaves the places behind its own as they are.
    for i in range(len(rows) - 1, -1, -1):
        rest = less(rest, rows[i], rest[i] // rows[i][i])
    return not any(rest)


def has_all(rows, others):
    """Whether the ideal with these rows has all numbers of the other one."""
    return all([has_number(rows, other) for other in others])


def how_often(prime_rows, rows, poly):
    """How often a regular prime ideal divides an ideal: its greatest power that has all the ideal's numbers."""
    often = 0
    power = prime_rows
    while has_all(power, rows):
        often += 1
        power = product_of(power, prime_rows, poly)
    return often
