"""The prime numbers that may be asked for, and what can be counted by them."""

PRIMES = (2, 3, 5, 7, 11, 13, 17, 19, 23, 29, 31, 37, 41, 43, 47)


def prime_divisors(number):
    """The prime numbers up to 47 that divide a number above 0, each with how often; and what is left without them."""
    left = number
    found = []
    for p in PRIMES:
        often = 0
        while left % p == 0:
            left //= p
            often += 1
        if often > 0:
            found.append((p, often))
    return found, left


def ways_to_sum(summands, whole):
    """In how many ways the whole is a sum of the summands, each taken 0 times or more, whatever their order."""
    ways = [1] + [0] * whole
    for summand in summands:
        for k in range(summand, whole + 1):
            ways[k] += ways[k - summand]
    return ways[whole]
