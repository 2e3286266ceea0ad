"""Calls as they stand in the list that is handed in, what is answered, and sums by other ways to compare with."""

from ringideals.rings import answers

PRIMES = (2, 3, 5, 7, 11, 13, 17, 19, 23, 29, 31, 37, 41, 43, 47)
FAR = 9007199254740992
SINGULAR = [2]
UNIT = [4, 2, 1, 0]  # the ideal of all numbers, where the ring's polynomial has degree 2


def ring(*numbers):
    return [0, len(numbers)] + list(numbers)


def split(p):
    return [1, p]


def prime(p, part):
    return [3, p, part]


def ideal(*places):
    return [4, len(places)] + list(places)


def product(i, j):
    return [5, i, j]


def joined(*calls):
    """The list that is handed in for these calls."""
    return [number for call in calls for number in call]


def asked(*calls):
    """What each call answers, its count taken off."""
    given = answers(joined(*calls))
    lists = []
    place = 0
    while place < len(given):
        end = place + 1 + given[place]
        assert given[place] >= 1 and end <= len(given)
        lists.append(given[place + 1:end])
        place = end
    assert len(lists) == len(calls)
    return lists


def told_split(coefficients, p):
    """The parts by p as the calls tell them: how often, 1 or 0, the part with its highest coefficient."""
    taken, answer = asked(ring(*coefficients), split(p))
    assert taken == [0]
    parts = []
    place = 1
    for _ in range(answer[0]):
        degree, often, regular = answer[place:place + 3]
        parts.append((often, regular, answer[place + 3:place + 3 + degree] + [1]))
        place += 3 + degree
    assert place == len(answer)
    return parts


def times(a, b):
    """The product of two polynomials."""
    return [sum(a[i] * b[k - i] for i in range(len(a)) if 0 <= k - i < len(b)) for k in range(len(a) + len(b) - 1)]


def times_t(number, coefficients):
    """A number of the ring, multiplied by t."""
    return [low - number[-1] * c for low, c in zip([0] + number[:-1], coefficients)]


def determinant(square):
    if not square:
        return 1
    return sum((-1) ** j * square[0][j] * determinant([row[:j] + row[j + 1:] for row in square[1:]])
               for j in range(len(square)) if square[0][j])
