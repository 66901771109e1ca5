"""Groups of prime order, and commitments in them."""

from vouchdoor.errors import BadGroup, BadOpening
from vouchdoor.numbers import is_prime, power

SMALLEST_P = 3
LARGEST_P = 1000000
FEWEST_BASES = 2
MOST_BASES = 12


class Group:
    """The numbers modulo p whose q-th power is 1, with some of them as bases."""

    def __init__(self, p, q, bases):
        _check_primes(p, q)
        _check_bases(p, q, bases)
        self.p = p
        self.q = q
        self.bases = tuple(bases)

    def __eq__(self, other):
        return (isinstance(other, Group) and self.p == other.p and self.q == other.q
                and self.bases == other.bases)

    def is_element(self, number):
        """Whether a number is an element of the group."""
        return _is_root(self.p, self.q, number)

    def raised(self, element, exponent):
        """The power of an element; the exponent may be negative."""
        return power(element, exponent % self.q, self.p)

    def product(self, pairs):
        """The product of powers, by pairs of an element and an exponent."""
        result = 1
        for element, exponent in pairs:
            result = result * self.raised(element, exponent) % self.p
        return result

    def log(self, element):
        """The exponent from 0 to q - 1 with which the first base gives an element."""
        reached = 1
        for exponent in range(self.q):
            if reached == element:
                return exponent
            reached = reached * self.bases[0] % self.p
        return None


def _is_root(p, q, number):
    """Whether a number from 1 to p - 1 has 1 as its q-th power."""
    return 1 <= number < p and power(number, q, p) == 1


def _check_primes(p, q):
    """Raises BadGroup if p or q is wrong."""
    if not SMALLEST_P <= p <= LARGEST_P or not is_prime(p):
        raise BadGroup("p")
    # Whether q divides p - 1 is asked first: then a large q is refused at once.
    if q < 2 or (p - 1) % q != 0 or not is_prime(q):
        raise BadGroup("q")


def _check_bases(p, q, bases):
    """Raises BadGroup if there are too few or too many bases, or one is wrong."""
    if not FEWEST_BASES <= len(bases) <= MOST_BASES:
        raise BadGroup("bases")
    for index, base in enumerate(bases):
        if base == 1 or not _is_root(p, q, base) or base in bases[:index]:
            raise BadGroup(index)


def commit(group, exponents):
    """The commitment with an opening: the product of the first bases to its exponents."""
    return group.product(list(zip(group.bases, exponents)))


def relation(group, one, other):
    """The relation that two openings of one commitment show."""
    if len(one) != len(other):
        raise BadOpening("the openings have different numbers of exponents")
    if commit(group, one) != commit(group, other):
        raise BadOpening("the openings have different commitments")
    differences = [(first - second) % group.q for first, second in zip(one, other)]
    if not any(differences):
        raise BadOpening("the openings are the same modulo q")
    return tuple(differences)


def is_relation(group, exponents):
    """Whether exponents that are not all 0 modulo q have the commitment 1."""
    some = any([exponent % group.q != 0 for exponent in exponents])
    return some and commit(group, exponents) == 1
