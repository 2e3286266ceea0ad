"""The calls on a ring and its ideals, and what they answer."""

from ringideals.ideals import has_all, how_often, ideal_made_of, norm_of, prime_ideal, product_of
from ringideals.polynomials import can_be_parted, parts_by
from ringideals.primes import PRIMES, prime_divisors, ways_to_sum

MOST_IN_RING = 20
MOST_IN_PLACE = 100
MOST_IDEALS = 6
MOST_NORM = 1000000000
MOST_COUNTED = 100000

RING = 0
SPLIT = 1
SINGULAR = 2
PRIME = 3
IDEAL = 4
PRODUCT = 5
TOLD = 6
OFTEN = 7
PARTED = 8
MANY = 9

# How many whole numbers a call without a list has, by the call's number.
ARGUMENTS = {1: 1, 2: 0, 3: 2, 5: 2, 6: 1, 7: 3, 8: 1, 9: 1, 10: 0}


class Line:
    """The ring that is in hand, by its polynomial, and the rows of its ideals that are kept."""

    def __init__(self):
        self.poly = [1, 0, 1]
        self.ideals = []


def kept(line, rows):
    """Keeps an ideal, if there is room for it and its norm is not too high."""
    if len(line.ideals) == MOST_IDEALS:
        return [-5]
    if norm_of(rows) > MOST_NORM:
        return [-8]
    line.ideals.append(rows)
    return [len(line.ideals) - 1]


def answer_ring(line, numbers):
    """Takes another ring, without ideals."""
    if not 2 <= len(numbers) <= 4 or any([abs(c) > MOST_IN_RING for c in numbers]):
        return [-1]
    poly = numbers + [1]
    if can_be_parted(poly):
        return [-3]
    line.poly = poly
    line.ideals = []
    return [0]


def answer_split(line, p):
    """Tells the parts by p."""
    if p not in PRIMES:
        return [-1]
    parts = parts_by(line.poly, p)
    answer = [len(parts)]
    for part, often, regular in parts:
        answer.extend([len(part) - 1, often, 1 if regular else 0])
        answer.extend(part[:-1])
    return answer


def is_singular(poly, p):
    """Whether p has a part whose prime ideal isn't regular."""
    return any([not regular for part, often, regular in parts_by(poly, p)])


def answer_singular(line):
    """Tells the prime numbers that have a part whose prime ideal isn't regular."""
    found = [p for p in PRIMES if is_singular(line.poly, p)]
    return [len(found)] + found


def answer_prime(line, p, number):
    """Keeps the prime ideal of p and the part of this number."""
    if p not in PRIMES:
        return [-1]
    parts = parts_by(line.poly, p)
    if number >= len(parts):
        return [-3]
    return kept(line, prime_ideal(p, parts[number][0], line.poly))


def answer_ideal(line, places):
    """Keeps the ideal made of one to three numbers."""
    n = len(line.poly) - 1
    if len(places) not in (n, 2 * n, 3 * n) or any([abs(c) > MOST_IN_PLACE for c in places]):
        return [-1]
    if not any(places):
        return [-3]
    numbers = [places[k:k + n] for k in range(0, len(places), n)]
    return kept(line, ideal_made_of(numbers, line.poly))


def answer_product(line, i, j):
    """Keeps the product of two ideals."""
    if max(i, j) >= len(line.ideals):
        return [-2]
    return kept(line, product_of(line.ideals[i], line.ideals[j], line.poly))


def answer_told(line, i):
    """Tells an ideal's norm and its rows."""
    if i >= len(line.ideals):
        return [-2]
    rows = line.ideals[i]
    answer = [norm_of(rows)]
    for row in rows:
        answer.extend(row)
    return answer


def answer_often(line, i, p, number):
    """Tells how often the prime ideal of p and the part of this number divides an ideal."""
    if i >= len(line.ideals):
        return [-2]
    if p not in PRIMES:
        return [-1]
    parts = parts_by(line.poly, p)
    if number >= len(parts):
        return [-3]
    part, times, regular = parts[number]
    if not regular:
        return [-6]
    return [how_often(prime_ideal(p, part, line.poly), line.ideals[i], line.poly)]


def primes_around(rows, poly, p):
    """The prime ideals of p that have all of an ideal's numbers: the part's number, rows, whether it's regular."""
    found = []
    for number, told in enumerate(parts_by(poly, p)):
        part, times, regular = told
        prime_rows = prime_ideal(p, part, poly)
        if has_all(prime_rows, rows):
            found.append((number, prime_rows, regular))
    return found


def answer_parted(line, i):
    """Tells the prime ideals that an ideal is the product of, each with how often."""
    if i >= len(line.ideals):
        return [-2]
    rows = line.ideals[i]
    divisors, left = prime_divisors(norm_of(rows))
    if left > 1:
        return [-9]
    answer = [0]
    for p, exponent in divisors:
        for number, prime_rows, regular in primes_around(rows, line.poly, p):
            if not regular:
                return [-6]
            answer[0] += 1
            answer.extend([p, number, how_often(prime_rows, rows, line.poly)])
    return answer


def answer_many(line, m):
    """Tells how many ideals have this norm."""
    if not 1 <= m <= MOST_COUNTED:
        return [-1]
    divisors, left = prime_divisors(m)
    if left > 1:
        return [-9]
    if any([is_singular(line.poly, p) for p, exponent in divisors]):
        return [-6]
    many = 1
    for p, exponent in divisors:
        # The norm of the prime ideal of p and a part is p to the part's degree.
        degrees = [len(part) - 1 for part, often, regular in parts_by(line.poly, p)]
        many *= ways_to_sum(degrees, exponent)
    return [many]


def answer_drop(line):
    """Drops the last ideal."""
    if not line.ideals:
        return [-4]
    line.ideals.pop()
    return [len(line.ideals)]


def answer_of(line, call, handed):
    """What a call answers, by its number and what is handed in with it."""
    if call == RING:
        return answer_ring(line, handed)
    if call == SPLIT:
        return answer_split(line, handed[0])
    if call == SINGULAR:
        return answer_singular(line)
    if call == PRIME:
        return answer_prime(line, handed[0], handed[1])
    if call == IDEAL:
        return answer_ideal(line, handed)
    if call == PRODUCT:
        return answer_product(line, handed[0], handed[1])
    if call == TOLD:
        return answer_told(line, handed[0])
    if call == OFTEN:
        return answer_often(line, handed[0], handed[1], handed[2])
    if call == PARTED:
        return answer_parted(line, handed[0])
    if call == MANY:
        return answer_many(line, handed[0])
    return answer_drop(line)


def call_at(calls, place):
    """The number of the call that begins at the place, what is handed in with it, and the place behind it."""
    call = calls[place]
    begin = place + 1
    if call in (RING, IDEAL):
        begin = place + 2
        end = begin + calls[place + 1]
    else:
        end = begin + ARGUMENTS[call]
    return call, calls[begin:end], end


def answers(calls):
    """What the calls answer, one behind another: of each how many numbers, then these."""
    line = Line()
    answered = []
    place = 0
    while place < len(calls):
        call, handed, place = call_at(calls, place)
        answer = answer_of(line, call, handed)
        answered.append(len(answer))
        answered.extend(answer)
    return answered
