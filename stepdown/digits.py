"""How many decimal digits a product of powers has, also where it is too great to be written.

*Bounds* of a number are a triple (low, high, shift): it lies from low << shift to high << shift."""

FIRST_PRECISION = 128


def digits_of(basis, powers):
    """The number of decimal digits of the number that is the product of these powers."""
    precision = FIRST_PRECISION
    found = digits_within(basis, powers, precision)
    # With so much precision that nothing is left out, the bounds are the number.
    while found is None:
        precision *= 2
        found = digits_within(basis, powers, precision)
    return found


def digits_within(basis, powers, precision):
    """The number of digits, or None if bounds of this precision do not tell it."""
    number = (1, 1, 0)
    for prime, exponent in zip(basis, powers):
        number = multiplied(number, raised_within(prime, exponent, precision), precision)
    low, high, shift = number
    # The number is at least 10 ** fewer, and below 10 ** digits.
    fewer = 0
    digits = high.bit_length() + shift
    while digits - fewer > 1:
        middle = (fewer + digits) // 2
        ten_low, ten_high, ten_shift = raised_within(10, middle, precision)
        if is_below(high, shift, ten_low, ten_shift):
            digits = middle
        elif not is_below(low, shift, ten_high, ten_shift):
            fewer = middle
        else:
            return None
    return digits


def multiplied(first, second, precision):
    """Bounds of the product of two numbers."""
    low = first[0] * second[0]
    high = first[1] * second[1]
    extra = max(0, high.bit_length() - precision)
    return low >> extra, -(-high >> extra), first[2] + second[2] + extra


def raised_within(number, exponent, precision):
    """Bounds of a power of a number."""
    found = (1, 1, 0)
    for at in reversed(range(exponent.bit_length())):
        found = multiplied(found, found, precision)
        if (exponent >> at) & 1 == 1:
            found = multiplied(found, (number, number, 0), precision)
    return found


def is_below(first, shift, second, other_shift):
    """Whether first << shift is less than second << other_shift."""
    top = first.bit_length() + shift
    other_top = second.bit_length() + other_shift
    if top != other_top:
        return top < other_top
    common = min(shift, other_shift)
    return first << (shift - common) < second << (other_shift - common)
