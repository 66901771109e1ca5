"""What several test files use: groups, kinds, issuers with rows, and changes of nested tuples."""

from vouchdoor.group import Group, commit
from vouchdoor.claim import answer, first_move
from vouchdoor.issuer import Issuer, Kind, asking
from vouchdoor.policy import read_policy
from vouchdoor.question import question_of

GROUP = Group(23, 11, [2, 3, 4, 6, 8])
SMALL = Group(11, 5, [3, 5, 4, 9])
# The exponents with which the first base gives the others: what nobody should know.
LOGS = {group.p: [group.log(base) for base in group.bases] for group in [GROUP, SMALL]}

PERSON = Kind("person", [("age", 4), ("town", 3)])
CLUB = Kind("club", [("level", 5)])
MEMBER = Kind("member", [])
PASS = Kind("pass", [("zone", 2), ("price", 5), ("kind", 3)])
KINDS = [PERSON, CLUB, MEMBER, PASS]
SMALL_KINDS = [PERSON, CLUB, MEMBER]


def grant(issuer, kind, randomness, secret, values, day=1):
    """The index of a row that an issuer grants to a holder with a secret."""
    element = commit(issuer.group, [randomness, secret])
    claim, witness, tape = asking(issuer.group, element), ((randomness, secret), ()), ((1, 2), ())
    number = issuer.ask(kind, element, first_move(issuer.group, claim, witness, tape))
    issuer.challenge(number, 2)
    return issuer.grant(number, answer(issuer.group, claim, witness, tape, 2), values, day)


def issuer_with(name, rows, group=GROUP, kinds=None):
    """An issuer with rows: kind, randomness, secret, values, and perhaps a day."""
    issuer = Issuer(name, group, KINDS if kinds is None else kinds)
    for row in rows:
        grant(issuer, *row)
    return issuer


def ask(text, issuers, day=1, kinds=None):
    """The question that a door asks with the text of a policy."""
    kinds = KINDS if kinds is None else kinds
    return question_of(issuers[0].group, kinds, read_policy(text, kinds), issuers, day)


def divided(group, element, *powers):
    """An element divided by powers, each a pair of a base and an exponent."""
    for base, exponent in powers:
        element = element * pow(base, -exponent, group.p) % group.p
    return element


def listed(tree):
    """Nested tuples as lists."""
    return [listed(part) for part in tree] if isinstance(tree, tuple) else tree


def only_tuples(tree):
    """Whether a nested thing consists of tuples, integers and strings."""
    if isinstance(tree, tuple):
        return all(only_tuples(part) for part in tree)
    return type(tree) in (int, str)


def changed(tree, change):
    """All tuples like a nested one, with one number replaced by what change makes of it."""
    if not isinstance(tree, tuple):
        return [change(tree)]
    return [tree[:at] + (part,) + tree[at + 1:] for at, inner in enumerate(tree) for part in changed(inner, change)]


def longer_and_shorter(tree):
    """All tuples like a nested one, with one item too many or too few somewhere."""
    if not isinstance(tree, tuple):
        return []
    found = [tree + (item,) for item in [0, (), ((), ()), (0, ((), ()))] + list(tree[-1:])]
    found += [tree[1:], tree[:-1]] if tree else []
    for at, inner in enumerate(tree):
        found += [tree[:at] + (part,) + tree[at + 1:] for part in longer_and_shorter(inner)]
    return found
