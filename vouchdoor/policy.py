"""Policies: the cards that a door asks for with conditions on their values, and their texts."""

from vouchdoor.errors import BadText

KEY_WORDS = ("card", "from", "tell", "equal", "least", "among", "same")
CONDITION_WORDS = ("tell", "equal", "least", "among", "same")
LETTERS = "abcdefghijklmnopqrstuvwxyz"
LONGEST_NAME = 8
MOST_CARDS = 3
MOST_ISSUERS = 3
MOST_CONDITIONS = 6
# Numbers are written with one or two digits.
FIRST_TOO_LONG = 100


class Policy:
    """Cards (name, kind, issuers), and conditions that begin with their key words."""

    def __init__(self, cards, conditions):
        self.cards = tuple([(name, kind, tuple(issuers)) for name, kind, issuers in cards])
        self.conditions = tuple([_kept(condition) for condition in conditions])

    def __eq__(self, other):
        return isinstance(other, Policy) and self.cards == other.cards and self.conditions == other.conditions


def _kept(condition):
    """A condition as tuples, also where it was written with lists."""
    return tuple([tuple(part) if isinstance(part, (list, tuple)) else part for part in condition])


class Reader:
    """The words of a text, of which the first ones are read."""

    def __init__(self, text):
        # The empty text has no words; the empty word that it gets here fits nowhere either.
        self.words = text.split(" ")
        self.at = 0

    def ahead(self):
        """The next word, or None behind the last one."""
        return self.words[self.at] if self.at < len(self.words) else None

    def take(self, fitting):
        """Reads the next word, which has to be one of the fitting ones."""
        word = self.ahead()
        if word not in fitting:
            raise BadText(self.at)
        self.at += 1
        return word

    def take_name(self, taken):
        """Reads a name, which has to be none of those that are taken."""
        word = self.ahead()
        return self.take([word] if _is_name(word) and word not in taken else [])


def _is_name(word):
    """Whether a word, or None for a missing one, may be a name."""
    if word is None or word in KEY_WORDS or not 1 <= len(word) <= LONGEST_NAME:
        return False
    return all([letter in LETTERS for letter in word])


def read_policy(text, kinds):
    """The policy that a text writes, for a list of kinds."""
    reader = Reader(text)
    cards = [_read_card(reader, kinds, [])]
    while len(cards) < MOST_CARDS and reader.ahead() == "card":
        taken = [name for name, _, _ in cards]
        cards.append(_read_card(reader, kinds, taken))
    values = _values_of(cards, kinds)
    conditions = []
    while reader.ahead() is not None:
        if len(conditions) == MOST_CONDITIONS:
            raise BadText(reader.at)
        conditions.append(_read_condition(reader, values))
    return Policy(cards, conditions)


def _read_card(reader, kinds, taken):
    """Reads a card, whose name is none of those that are taken."""
    reader.take(["card"])
    name = reader.take_name(taken)
    kind = reader.take([listed.name for listed in kinds])
    reader.take(["from"])
    issuers = [reader.take_name([])]
    while len(issuers) < MOST_ISSUERS and _is_name(reader.ahead()):
        issuers.append(reader.take_name(issuers))
    return name, kind, tuple(issuers)


def _values_of(cards, kinds):
    """All values of cards: name of the card, name of the field, how many numbers it may be."""
    fields = {kind.name: kind.fields for kind in kinds}
    return [(name, field, many) for name, kind, _ in cards for field, many in fields[kind]]


def _read_condition(reader, values):
    """Reads a condition on some of the values."""
    word = reader.take([begin for begin in CONDITION_WORDS if len(_sayable(begin, values)) > 0])
    sayable = _sayable(word, values)
    value = _read_value(reader, sayable)
    card, field, many = value
    if word == "tell":
        return word, card, field
    if word == "same":
        other_card, other_field, _ = _read_value(reader, [other for other in sayable if other != value])
        return word, card, field, other_card, other_field
    if word == "among":
        return word, card, field, _read_numbers(reader, many)
    return word, card, field, _read_number(reader, many)


def _sayable(word, values):
    """The values that may stand behind a key word such that a whole condition can follow."""
    if word == "tell":
        return values
    if word == "same":
        return values if len(values) > 1 else []
    return [value for value in values if value[2] > 0]


def _read_value(reader, values):
    """Reads the names of a card and of a field that belong to one of the values."""
    card = reader.take([value[0] for value in values])
    of_card = [value for value in values if value[0] == card]
    field = reader.take([value[1] for value in of_card])
    return [value for value in of_card if value[1] == field][0]


def _read_number(reader, many):
    """Reads a number of a field with so many values."""
    return int(reader.take(_written(0, many)))


def _read_numbers(reader, many):
    """Reads one number or several in ascending order, of a field with so many values."""
    numbers = [_read_number(reader, many)]
    while reader.ahead() in _written(numbers[-1] + 1, many):
        numbers.append(_read_number(reader, many))
    return tuple(numbers)


def _written(low, many):
    """How the numbers from low on are written, for a field with so many values."""
    return [str(number) for number in range(low, min(many, FIRST_TOO_LONG))]


def policy_text(policy):
    """The text of a policy."""
    words = []
    for name, kind, issuers in policy.cards:
        words.extend(["card", name, kind, "from", *issuers])
    for condition in policy.conditions:
        for part in condition:
            words.extend([str(number) for number in part] if isinstance(part, tuple) else [str(part)])
    return " ".join(words)
