"""The errors that the program raises."""


class VouchError(ValueError):
    """The base class of all errors of the program."""


class BadGroup(VouchError):
    """Numbers that make no group; what tells the first part that is wrong."""

    def __init__(self, what):
        self.what = what


class BadRequest(VouchError):
    """A request or a row that an issuer does not take; what tells why."""

    def __init__(self, what):
        self.what = what


class BadQuestion(VouchError):
    """A question that cannot be asked or answered; what tells why."""

    def __init__(self, what):
        self.what = what


class BadTurn(VouchError):
    """A step at the wrong time; what tells the state in which it came."""

    def __init__(self, what):
        self.what = what


class BadText(VouchError):
    """A text that writes no policy; at is the index of the word that shows it."""

    def __init__(self, at):
        self.at = at


class BadOpening(VouchError):
    """Openings that do not show what is asked of them."""
