"""Kinds of credentials, and issuers that grant and revoke rows."""

from vouchdoor.claim import Claim, fits
from vouchdoor.errors import BadRequest, BadTurn
from vouchdoor.statement import Statement

ASKED = "asked"
CHALLENGED = "challenged"
GRANTED = "granted"
REFUSED = "refused"


class Kind:
    """A kind of credentials: its name, and the names of its fields with their numbers of values."""

    def __init__(self, name, fields):
        self.name = name
        self.fields = tuple([(field, many) for field, many in fields])

    def __eq__(self, other):
        return isinstance(other, Kind) and self.name == other.name and self.fields == other.fields


def asking(group, element):
    """The claim that an element is a product of the first two bases."""
    factors = ((group.bases[0], "r"), (group.bases[1], "s"))
    return Claim(Statement(("r", "s"), ((element, factors),)), ())


class Request:
    """A request for a row of a kind, from being asked to being granted or refused."""

    def __init__(self, kind, element, first):
        self.kind = kind
        self.element = element
        self.first = first
        self.drawn = None
        self.state = ASKED


class Issuer:
    """An issuer with its kinds and its book of rows (kind, element, granted, revoked)."""

    def __init__(self, name, group, kinds):
        self.name = name
        self.group = group
        self.kinds = tuple(kinds)
        self.book = []
        self._requests = []

    def ask(self, kind, element, first):
        """Takes a request for a row of a kind, told by its name; returns its number."""
        found = self._granted_kind(kind)
        if not self.group.is_element(element):
            raise BadRequest("element")
        self._requests.append(Request(found, element, first))
        return len(self._requests) - 1

    def challenge(self, number, challenge):
        """Challenges the first move of a request."""
        request = self._request_due(number, ASKED)
        if not 0 <= challenge < self.group.q:
            raise BadRequest("challenge")
        request.drawn = challenge
        request.state = CHALLENGED

    def grant(self, number, replied, values, day):
        """Checks the reply of a request and grants a row with values; returns its index."""
        request = self._request_due(number, CHALLENGED)
        if not _may_have(request.kind, values):
            raise BadRequest("values")
        claim = asking(self.group, request.element)
        if not fits(self.group, claim, request.first, request.drawn, replied):
            request.state = REFUSED
            raise BadRequest("reply")
        request.state = GRANTED
        factors = list(zip(self.group.bases[2:], values))
        row = self.group.product([(request.element, 1)] + factors)
        self.book.append((request.kind.name, row, day, None))
        return len(self.book) - 1

    def revoke(self, index, day):
        """Revokes a row at a day, which may be any day."""
        if not 0 <= index < len(self.book):
            raise BadRequest("row")
        kind, element, granted, revoked = self.book[index]
        if revoked is not None:
            raise BadRequest("row")
        self.book[index] = (kind, element, granted, day)

    def counting(self, kind, day):
        """The indexes of the rows of a kind, told by its name, that count at a day."""
        return [index for index, row in enumerate(self.book) if row[0] == kind and _counts(row, day)]

    def _granted_kind(self, name):
        """The kind with a name, if there are bases for all of its fields."""
        for kind in self.kinds:
            if kind.name == name and len(kind.fields) <= len(self.group.bases) - 2:
                return kind
        raise BadRequest("kind")

    def _request_due(self, number, due):
        """The request with a number, if it is in the state that is due."""
        if not 0 <= number < len(self._requests):
            raise BadRequest("number")
        request = self._requests[number]
        if request.state != due:
            raise BadTurn(request.state)
        return request


def _may_have(kind, values):
    """Whether values are as many as the fields of a kind, and each is one of its field's."""
    if len(values) != len(kind.fields):
        return False
    return all([0 <= value < many for value, (_, many) in zip(values, kind.fields)])


def _counts(row, day):
    """Whether a row of a book counts at a day."""
    _, _, granted, revoked = row
    return granted <= day and (revoked is None or revoked > day)
