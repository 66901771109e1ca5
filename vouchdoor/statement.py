"""Statements about unknown exponents, and showing that their values are known."""

from vouchdoor.numbers import inverse


class Statement:
    """Unknowns, and equations that make elements products of bases to these unknowns."""

    def __init__(self, unknowns, equations):
        self.unknowns = tuple(unknowns)
        self.equations = tuple([_kept(equation) for equation in equations])

    def __eq__(self, other):
        return (isinstance(other, Statement) and self.unknowns == other.unknowns
                and self.equations == other.equations)


def _kept(equation):
    """An equation as tuples, also where it was written with lists."""
    element, factors = equation
    return element, tuple([(base, unknown) for base, unknown in factors])


def _products(group, statement, exponents):
    """For each equation the product of its bases to the exponents of their unknowns."""
    table = dict(zip(statement.unknowns, exponents))
    products = []
    for _, factors in statement.equations:
        products.append(group.product([(base, table[unknown]) for base, unknown in factors]))
    return products


def holds(group, statement, values):
    """Whether values, one for each unknown, satisfy all equations."""
    if len(values) != len(statement.unknowns):
        return False
    return _products(group, statement, values) == [element for element, _ in statement.equations]


def reply(group, values, tape, challenge):
    """The reply to a challenge, by the values and the numbers of the tape."""
    return tuple([(number + challenge * value) % group.q for number, value in zip(tape, values)])


def simulated(group, statement, challenge, replies):
    """The first move that replies to a challenge fit to."""
    products = _products(group, statement, replies)
    moves = []
    for (element, _), replied in zip(statement.equations, products):
        moves.append(group.product([(replied, 1), (element, -challenge)]))
    return tuple(moves)


def extracted(group, one, other):
    """The values that replies to two different challenges for one first move show."""
    challenge, replies = one
    other_challenge, other_replies = other
    factor = inverse(challenge - other_challenge, group.q)
    return tuple([(first - second) * factor % group.q for first, second in zip(replies, other_replies)])
