"""Prime numbers, powers and inverses."""


def is_prime(number):
    """Whether a number that is not negative is a prime."""
    if number < 2:
        return False
    divisor = 2
    while divisor * divisor <= number:
        if number % divisor == 0:
            return False
        # 2 is the only even number that needs to be tried.
        divisor += 1 if divisor == 2 else 2
    return True


def power(base, exponent, modulus):
    """The power of a base, modulo a positive number; the exponent is not negative."""
    # Modulo 1 even the power with exponent 0 is 0.
    result = 1 % modulus
    square = base % modulus
    left = exponent
    while left > 0:
        if left % 2 == 1:
            result = result * square % modulus
        square = square * square % modulus
        left = left // 2
    return result


def inverse(number, prime):
    """The inverse, from 1 to prime - 1, of a number that the prime does not divide."""
    # The power with exponent prime - 1 is 1 (Fermat), so one factor less inverts.
    return power(number, prime - 2, prime)
