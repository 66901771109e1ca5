"""Wallets: the secret of a holder with the credentials that were granted to it."""

from vouchdoor.claim import answer, first_move, tape_of
from vouchdoor.group import commit
from vouchdoor.issuer import asking
from vouchdoor.showing import Pick, answers


class Wallet:
    """A secret, and holdings (issuer, index, kind, randomness, values)."""

    def __init__(self, group, secret):
        self.group = group
        self.secret = secret
        self.holdings = []

    def ask(self, randomness, tape):
        """The element and the first move of a request for a row."""
        element = commit(self.group, (randomness, self.secret))
        claim = asking(self.group, element)
        return element, first_move(self.group, claim, self._request_witness(randomness), tape_of(claim, tape))

    def reply(self, randomness, tape, challenge):
        """The reply to the challenge of a request."""
        claim = asking(self.group, commit(self.group, (randomness, self.secret)))
        return answer(self.group, claim, self._request_witness(randomness), tape_of(claim, tape), challenge)

    def _request_witness(self, randomness):
        """The witness of a request."""
        return (randomness, self.secret), ()

    def keep(self, issuer, index, kind, randomness, values):
        """Adds a holding: the row with an index in the book of an issuer."""
        self.holdings.append((issuer, index, kind, randomness, tuple(values)))

    def picks(self, question):
        """The first picks by the order of holdings that satisfy the conditions, or None."""
        cards = range(len(question.policy.cards))
        return _first_answer(question, [self._candidates(question, card) for card in cards], [])

    def _candidates(self, question, card):
        """The picks for a card, by the order of holdings."""
        kind = question.policy.cards[card][1]
        places = [(issuer, index) for issuer, index, _ in question.rows[card]]
        found = []
        for issuer, index, name, randomness, values in self.holdings:
            if name == kind and (issuer, index) in places:
                found.append(Pick(places.index((issuer, index)), randomness, values))
        return found

    def opens(self, kinds, issuer, holding):
        """Whether a holding opens its row in the book of an issuer."""
        name, index, kind, randomness, values = holding
        if name != issuer.name or self.group != issuer.group or not 0 <= index < len(issuer.book):
            return False
        fields = {listed.name: listed.fields for listed in kinds}
        if kind not in fields or len(values) != len(fields[kind]):
            return False
        opening = (randomness, self.secret, *values)
        # Without this, values behind the last base would not be asked.
        if len(opening) > len(self.group.bases):
            return False
        return issuer.book[index][:2] == (kind, commit(self.group, opening))


def _first_answer(question, candidates, chosen):
    """The first picks that begin with the chosen ones and satisfy the conditions, or None."""
    if len(chosen) == len(candidates):
        return chosen if answers(question, chosen) else None
    for pick in candidates[len(chosen)]:
        found = _first_answer(question, candidates, chosen + [pick])
        if found is not None:
            return found
    return None
