"""Primes, and numbers as products of their powers."""


def primes(count):
    """The list of the first primes, so many of them."""
    limit = 16
    found = primes_below(limit)
    while len(found) < count:
        limit *= 2
        found = primes_below(limit)
    return found[:count]


def primes_below(limit):
    """The list of the primes below a limit of at least 2."""
    is_prime = [False, False] + [True] * (limit - 2)
    at = 2
    while at * at < limit:
        if is_prime[at]:
            is_prime[at * at::at] = [False] * len(range(at * at, limit, at))
        at += 1
    return [number for number in range(limit) if is_prime[number]]


def exponents(n, basis):
    """The tuple of the exponents of these primes in a number, or None if it has another prime factor."""
    found, rest = parted(n, basis)
    return found if rest == 1 else None


def parted(n, basis):
    """The tuple of the exponents of these primes in a number, and the number without them."""
    found = []
    for prime in basis:
        exponent, n = taken_out(n, prime)
        found.append(exponent)
    return tuple(found), n


def taken_out(n, prime):
    """How many times a prime divides a number, and the number without it."""
    # It would divide 0 without end.
    if n == 0:
        return 0, 0
    # With squares of squares, a great exponent takes few divisions.
    squares = []
    square = prime
    while n % square == 0:
        squares.append(square)
        square *= square
    exponent = 0
    for power in squares[::-1]:
        exponent *= 2
        if n % power == 0:
            n //= power
            exponent += 1
    return exponent, n


def product(basis, powers):
    """The number that has these exponents."""
    number = 1
    for prime, exponent in zip(basis, powers):
        number *= raised(prime, exponent)
    return number


def raised(number, exponent):
    """A power of a number."""
    found = 1
    for at in reversed(range(exponent.bit_length())):
        found *= found
        if (exponent >> at) & 1 == 1:
            found *= number
    return found
