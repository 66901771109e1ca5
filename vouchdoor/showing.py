"""Answers: holders that give them, doors that check them, and what answers show and hide."""

from vouchdoor.claim import answer, extract, first_move, fits, tape_of, tape_of_view, tape_size
from vouchdoor.errors import BadOpening, BadQuestion, BadTurn
from vouchdoor.group import commit, relation
from vouchdoor.question import (FIRST_FIELD_BASE, claim_of, fields_of, known_places, meet_conditions, options_of,
                                publics, told_places, unknown_names)

OPEN = "open"
BEGUN = "begun"
CHALLENGED = "challenged"
ACCEPTED = "accepted"
REFUSED = "refused"


class Pick:
    """The index of a row among those that count, with its randomness and its values."""

    def __init__(self, row, randomness, numbers):
        self.row = row
        self.randomness = randomness
        self.numbers = tuple(numbers)

    def __eq__(self, other):
        return (isinstance(other, Pick) and self.row == other.row and self.randomness == other.randomness
                and self.numbers == other.numbers)


def told_of(question, picks):
    """The numbers that an answer with these picks tells."""
    return tuple([picks[card].numbers[field] for card, field in told_places(question)])


def answers(question, picks):
    """Whether the values of the picks satisfy all conditions."""
    numbers = {}
    for card, pick in enumerate(picks):
        for field, number in enumerate(pick.numbers):
            numbers[card, field] = number
    return meet_conditions(question, numbers)


def tape_count(question, picks):
    """How many numbers the tape of an answer has."""
    # The size of the claim does not depend on the fresh commitments.
    claim = claim_of(question, [1 for _ in picks], _known_of(question, picks))
    return len(picks) + tape_size(claim)


def _known_of(question, picks):
    """The known numbers of an answer with these picks, by their places."""
    return {(card, field): picks[card].numbers[field] for card, field in known_places(question)}


def _witness(question, secret, picks, masks):
    """The witness of a holder, whose values satisfy all conditions."""
    known = _known_of(question, picks)
    rows = []
    for pick, mask in zip(picks, masks):
        rows.append((pick.row, (((mask - pick.randomness) % question.group.q,), ())))
    numbers = []
    for (card, field), options in options_of(question, known):
        own = picks[card].numbers
        others = own[:field] + own[field + 1:]
        # Counting, as a number beyond those of the field is in no branch, and that is no error.
        chosen = len([option for option in options if option < own[field]])
        numbers.append((chosen, ((masks[card], secret, *others), ())))
    return _statement_values(question, known, secret, picks, masks), tuple(rows + numbers)


def _statement_values(question, known, secret, picks, masks):
    """The values of the unknowns of the statement, in their order."""
    names = unknown_names(question, known)
    values = {"s": secret}
    for card, mask in enumerate(masks):
        values[f"f{card}"] = mask
        for place in names:
            if place[0] == card:
                # The first of those that share a name brings it to where the unknown stands.
                values[names[place]] = picks[card].numbers[place[1]]
    return tuple(values.values())


class Holder:
    """A holder that answers a question with its secret, picks and a tape."""

    def __init__(self, question, secret, picks, tape):
        if not answers(question, picks):
            raise BadQuestion("values")
        count = len(picks)
        masks = tuple(tape[:count])
        openings = [(mask, secret, *pick.numbers) for mask, pick in zip(masks, picks)]
        self._group = question.group
        self._fresh = tuple([commit(question.group, opening) for opening in openings])
        self._told = told_of(question, picks)
        self._claim = claim_of(question, self._fresh, _known_of(question, picks))
        self._witness = _witness(question, secret, picks, masks)
        self._tape = tape_of(self._claim, tape[count:])

    def begin(self):
        """The first message: fresh commitments, told numbers and the first move."""
        return self._fresh, self._told, first_move(self._group, self._claim, self._witness, self._tape)

    def reply(self, challenge):
        """The reply to a challenge."""
        return answer(self._group, self._claim, self._witness, self._tape, challenge)


class Door:
    """A door that asks a question and checks one answer."""

    def __init__(self, question):
        self.state = OPEN
        self._question = question
        self._claim = None
        self._first = None
        self._drawn = None

    def begin(self, fresh, told, first):
        """Takes the first message; returns whether the door has begun and not refused."""
        self._expect(OPEN)
        group = self._question.group
        known = publics(self._question, told)
        complete = len(fresh) == len(self._question.policy.cards)
        if known is None or not complete or not all([group.is_element(element) for element in fresh]):
            self.state = REFUSED
            return False
        self._claim = claim_of(self._question, fresh, known)
        self._first = first
        self.state = BEGUN
        return True

    def challenge(self, number):
        """Challenges the first move."""
        self._expect(BEGUN)
        if not 0 <= number < self._question.group.q:
            raise BadQuestion("challenge")
        self._drawn = number
        self.state = CHALLENGED

    def finish(self, replied):
        """Takes the reply; returns whether it is accepted."""
        self._expect(CHALLENGED)
        accepted = fits(self._question.group, self._claim, self._first, self._drawn, replied)
        self.state = ACCEPTED if accepted else REFUSED
        return accepted

    def _expect(self, due):
        """Raises BadTurn if the door is not in the state that is due."""
        if self.state != due:
            raise BadTurn(self.state)


def shown(question, fresh, told, one, other):
    """What fitting replies to two different challenges show: openings of rows, or a relation."""
    known = publics(question, told)
    claim = claim_of(question, fresh, known)
    values, picked = extract(question.group, claim, one, other)
    openings = _fresh_openings(question, known, dict(zip(claim.statement.unknowns, values)))
    count = len(openings)
    for (place, numbers), (chosen, (others, _)) in zip(options_of(question, known), picked[count:]):
        at = FIRST_FIELD_BASE + place[1]
        second = others[:at] + (numbers[chosen],) + others[at:]
        opening = openings[place[0]]
        if any([(part - own) % question.group.q != 0 for part, own in zip(opening, second)]):
            return "relation", relation(question.group, opening, second)
    found = []
    for opening, (row, (differences, _)) in zip(openings, picked):
        found.append((row, ((opening[0] - differences[0]) % question.group.q, *opening[1:])))
    return "openings", tuple(found)


def _fresh_openings(question, known, values):
    """The openings of the fresh commitments, by the known numbers and the values of the unknowns."""
    names = unknown_names(question, known)
    openings = []
    for card in range(len(question.policy.cards)):
        opening = [values[f"f{card}"], values["s"]]
        for field in range(len(fields_of(question, card))):
            place = (card, field)
            opening.append(known[place] if place in known else values[names[place]])
        openings.append(tuple(opening))
    return openings


def other_tape(question, view, secret, picks):
    """The numbers of the only tape with which another holder gives exactly this view."""
    fresh, told, _, challenge, replied = view
    if told_of(question, picks) != tuple(told):
        raise BadOpening("the picks tell other numbers")
    if not answers(question, picks):
        raise BadOpening("the picks do not satisfy the conditions")
    group = question.group
    masks = []
    for element, pick in zip(fresh, picks):
        # What is left of the fresh commitment without its mask opens the rest.
        rest = commit(group, (0, secret, *pick.numbers))
        masks.append(group.log(group.product([(element, 1), (rest, -1)])))
    claim = claim_of(question, fresh, _known_of(question, picks))
    tape = tape_of_view(group, claim, _witness(question, secret, picks, masks), challenge, replied)
    return masks + _flat(tape)


def _flat(tree):
    """All numbers of nested tuples, in order: the order in which a list makes a tape."""
    numbers = []
    for part in tree:
        if isinstance(part, tuple):
            numbers.extend(_flat(part))
        else:
            numbers.append(part)
    return numbers
