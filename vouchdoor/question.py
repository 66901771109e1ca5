"""Questions: policies with the rows that count, what is known of an answer, and its claim.

A place is a pair (card, field) of indexes, and stands for the value of this field in the
pick for this card.
"""

from vouchdoor.claim import Claim
from vouchdoor.errors import BadQuestion
from vouchdoor.statement import Statement

MOST_ROWS = 8
# The first two bases belong to the randomness and the secret.
FIRST_FIELD_BASE = 2


class Question:
    """A policy with, for each card, the rows (issuer, index in its book, element) that count."""

    def __init__(self, group, kinds, policy, rows):
        self.group = group
        self.kinds = tuple(kinds)
        self.policy = policy
        self.rows = tuple([tuple([tuple(row) for row in counting]) for counting in rows])


def question_of(group, kinds, policy, issuers, day):
    """The question that a door asks with a policy at a day."""
    named = {kind.name: kind for kind in kinds}
    rows = []
    for _, name, names in policy.cards:
        _check_kind(group, named[name])
        granting = _issuers_of_card(group, named[name], names, issuers)
        rows.append(_counting_rows(named[name], granting, day))
    return Question(group, kinds, policy, rows)


def _check_kind(group, kind):
    """Raises BadQuestion if a group has no place for the fields of a kind or for their values."""
    if len(group.bases) < FIRST_FIELD_BASE + len(kind.fields):
        raise BadQuestion("bases")
    if any([many > group.q for _, many in kind.fields]):
        raise BadQuestion("range")


def _issuers_of_card(group, kind, names, issuers):
    """The issuers with the names that a card has; each has to have the group and the kind."""
    listed = {issuer.name: issuer for issuer in issuers}
    for name in names:
        if name not in listed or listed[name].group != group or kind not in listed[name].kinds:
            raise BadQuestion("issuer")
    return [listed[name] for name in names]


def _counting_rows(kind, issuers, day):
    """The rows of a kind that count at a day, issuer by issuer."""
    rows = []
    for issuer in issuers:
        for index in issuer.counting(kind.name, day):
            rows.append((issuer.name, index, issuer.book[index][1]))
    if len(rows) == 0:
        raise BadQuestion("rows")
    if len(rows) > MOST_ROWS:
        raise BadQuestion("many")
    return rows


def fields_of(question, card):
    """The fields of the kind of a card, which is told by its index."""
    named = {kind.name: kind for kind in question.kinds}
    return named[question.policy.cards[card][1]].fields


def places_of(question):
    """All places, card by card."""
    cards = range(len(question.policy.cards))
    return [(card, field) for card in cards for field in range(len(fields_of(question, card)))]


def conditions_of(question):
    """The conditions as (word, place, rest): the rest is a number, numbers, a place or None."""
    found = []
    for word, card, field, *rest in question.policy.conditions:
        place = _place_named(question, card, field)
        if word == "tell":
            found.append((word, place, None))
        elif word == "same":
            found.append((word, place, _place_named(question, rest[0], rest[1])))
        else:
            found.append((word, place, rest[0]))
    return found


def _place_named(question, card, field):
    """The place of a value that is told by the names of its card and its field."""
    card_index = [name for name, _, _ in question.policy.cards].index(card)
    return card_index, [name for name, _ in fields_of(question, card_index)].index(field)


def told_places(question):
    """The places of the values that are told, in the order of the conditions."""
    return [place for word, place, _ in conditions_of(question) if word == "tell"]


def _first_places(question):
    """For each place the first one of those whose values must be the same, through others, too."""
    first = {place: place for place in places_of(question)}
    for word, place, rest in conditions_of(question):
        if word == "same":
            one, other = first[place], first[rest]
            first = {here: min(one, other) if first[here] in (one, other) else first[here] for here in first}
    return first


def known_places(question):
    """The places of known numbers: told ones, those of equal, and what is the same as one of them."""
    first = _first_places(question)
    given = [first[place] for word, place, _ in conditions_of(question) if word in ("tell", "equal")]
    return [place for place in first if first[place] in given]


def publics(question, told):
    """The known numbers by their places, or None if the told numbers do not agree."""
    places = told_places(question)
    if len(told) != len(places) or any([number < 0 for number in told]):
        return None
    first = _first_places(question)
    equals = [(place, rest) for word, place, rest in conditions_of(question) if word == "equal"]
    given = {}
    for place, number in list(zip(places, told)) + equals:
        if given.setdefault(first[place], number) != number:
            return None
    known = {place: given[first[place]] for place in known_places(question)}
    if not all([known[card, field] < fields_of(question, card)[field][1] for card, field in known]):
        return None
    return known if meet_conditions(question, known) else None


def meet_conditions(question, numbers):
    """Whether numbers, a dict by places, contradict no condition on these places."""
    for word, place, rest in conditions_of(question):
        if place in numbers:
            # Values that must be the same are known together, so the other one is there, too.
            wanted = numbers[rest] if word == "same" else rest
            if not _lets(word, wanted, numbers[place]):
                return False
    return True


def _lets(word, rest, number):
    """Whether a condition lets a number; for same the rest is the other number."""
    if word in ("equal", "same"):
        return number == rest
    if word == "least":
        return number >= rest
    return word == "tell" or number in rest


def options_of(question, known):
    """The conditions least and among on values that are not known: pairs (place, numbers let)."""
    found = []
    for word, place, rest in conditions_of(question):
        if word in ("least", "among") and place not in known:
            card, field = place
            many = fields_of(question, card)[field][1]
            found.append((place, [number for number in range(many) if _lets(word, rest, number)]))
    return found


def unknown_names(question, known):
    """The names of the unknowns by the places that are not known; the same values share one."""
    first = _first_places(question)
    hidden = {place: f"v{place[0]}{place[1]}" for place in first if place not in known}
    names = {}
    for place in hidden:
        names[place] = min([hidden[other] for other in hidden if first[other] == first[place]])
    return names


def claim_of(question, fresh, known):
    """The claim of a question, for fresh commitments and known numbers by their places."""
    cards = range(len(question.policy.cards))
    names = unknown_names(question, known)
    unknowns = ["s"]
    for card in cards:
        unknowns.append(f"f{card}")
        for place in names:
            if place[0] == card and names[place] not in unknowns:
                unknowns.append(names[place])
    equations = [_equation(question, fresh[card], card, known, names) for card in cards]
    choices = [_row_choice(question, fresh[card], card) for card in cards]
    for place, numbers in options_of(question, known):
        choices.append(_number_choice(question, fresh[place[0]], place, numbers))
    return Claim(Statement(unknowns, equations), choices)


def _equation(question, element, card, known, names):
    """The equation of the fresh commitment of a card, with its known values divided out."""
    group = question.group
    factors = [(group.bases[0], f"f{card}"), (group.bases[1], "s")]
    parts = [(element, 1)]
    for field in range(len(fields_of(question, card))):
        base = group.bases[FIRST_FIELD_BASE + field]
        if (card, field) in known:
            parts.append((base, -known[card, field]))
        else:
            factors.append((base, names[card, field]))
    return group.product(parts), factors


def _row_choice(question, element, card):
    """A branch for each row that counts: it opens like the fresh commitment but for the mask."""
    group = question.group
    branches = []
    for _, _, row in question.rows[card]:
        quotient = group.product([(element, 1), (row, -1)])
        branches.append(Claim(Statement(["d"], [(quotient, [(group.bases[0], "d")])]), []))
    return branches


def _number_choice(question, element, place, numbers):
    """A branch for each number: the fresh commitment opens with it at the place."""
    group = question.group
    card, own = place
    factors = [(group.bases[0], "r"), (group.bases[1], "s")]
    for field in range(len(fields_of(question, card))):
        if field != own:
            factors.append((group.bases[FIRST_FIELD_BASE + field], f"v{field}"))
    unknowns = [unknown for _, unknown in factors]
    branches = []
    for number in numbers:
        quotient = group.product([(element, 1), (group.bases[FIRST_FIELD_BASE + own], -number)])
        branches.append(Claim(Statement(unknowns, [(quotient, factors)]), []))
    return branches
