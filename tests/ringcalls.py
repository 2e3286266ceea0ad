"""Calls as they stand in the list that is handed in, what is answered, and sums by other ways to compare with."""

from itertools import combinations, product as each_of
from math import gcd

from ringideals.rings import answers

PRIMES = (2, 3, 5, 7, 11, 13, 17, 19, 23, 29, 31, 37, 41, 43, 47)
FAR = 9007199254740992
SINGULAR = [2]
DROP = [10]
UNIT = [4, 2, 1, 0]  # the ideal of all numbers, where the ring's polynomial has degree 2


def ring(*numbers):
    return [0, len(numbers)] + list(numbers)


def split(p):
    return [1, p]


def prime(p, part):
    return [3, p, part]


def ideal(*places):
    return [4, len(places)] + list(places)


def product(i, j):
    return [5, i, j]


def told(i):
    return [6, i]


def often(i, p, part):
    return [7, i, p, part]


def parted(i):
    return [8, i]


def many(m):
    return [9, m]


def joined(*calls):
    """The list that is handed in for these calls."""
    return [number for call in calls for number in call]


def asked(*calls):
    """What each call answers, its count taken off."""
    given = answers(joined(*calls))
    lists = []
    place = 0
    while place < len(given):
        end = place + 1 + given[place]
        assert given[place] >= 1 and end <= len(given)
        lists.append(given[place + 1:end])
        place = end
    assert len(lists) == len(calls)
    return lists


def told_split(coefficients, p):
    """The parts by p as the calls tell them: how often, 1 or 0, the part with its highest coefficient."""
    taken, answer = asked(ring(*coefficients), split(p))
    assert taken == [0]
    parts = []
    place = 1
    for _ in range(answer[0]):
        degree, often, regular = answer[place:place + 3]
        parts.append((often, regular, answer[place + 3:place + 3 + degree] + [1]))
        place += 3 + degree
    assert place == len(answer)
    return parts


def times(a, b):
    """The product of two polynomials."""
    return [sum(a[i] * b[k - i] for i in range(len(a)) if 0 <= k - i < len(b)) for k in range(len(a) + len(b) - 1)]


def times_t(number, coefficients):
    """A number of the ring, multiplied by t."""
    return [low - number[-1] * c for low, c in zip([0] + number[:-1], coefficients)]


def lattice(norm, n):
    """All rows of n places each, as those of an ideal stand, whose own places have this product."""
    if n == 0:
        return [[]] if norm == 1 else []
    found = []
    for own in range(1, norm + 1):
        if norm % own == 0:
            for rows in lattice(norm // own, n - 1):
                for ahead in each_of(*[range(rows[j][j]) for j in range(n - 1)]):
                    found.append([row + [0] for row in rows] + [list(ahead) + [own]])
    return found


def has(rows, number):
    """Whether a number is a sum of the rows."""
    left = list(number)
    for i in range(len(rows) - 1, -1, -1):
        if left[i] % rows[i][i]:
            return False
        left = [a - left[i] // rows[i][i] * b for a, b in zip(left, rows[i])]
    return not any(left)


def ideals_of_norm(norm, coefficients):
    """The rows of all ideals of the norm, found by trying all rows."""
    return [rows for rows in lattice(norm, len(coefficients))
            if all(has(rows, times_t(row, coefficients)) for row in rows)]


def determinant(square):
    if not square:
        return 1
    return sum((-1) ** j * square[0][j] * determinant([row[:j] + row[j + 1:] for row in square[1:]])
               for j in range(len(square)) if square[0][j])


def spanned(coefficients, numbers):
    """The numbers and all that they are times t, times t t, .."""
    found = []
    for number in numbers:
        for _ in coefficients:
            found.append(number)
            number = times_t(number, coefficients)
    return found


def classes(coefficients, numbers):
    """How many classes the ideal made of the numbers leaves."""
    # Sums of vectors, in sets of n, leave so many as their determinants have in common.
    found = 0
    for some in combinations(spanned(coefficients, numbers), len(coefficients)):
        found = gcd(found, determinant([list(number) for number in some]))
    return found
