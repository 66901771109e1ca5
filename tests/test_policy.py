"""Tests of vouchdoor.policy: policies, their texts and their data (points [13], [17] and [18])."""

import itertools
import unittest

from vouchdoor.errors import BadText
from vouchdoor.issuer import Kind
from vouchdoor.policy import Policy, policy_text, read_policy

KEY_WORDS = ["card", "from", "tell", "equal", "least", "among", "same"]
PERSON = Kind("person", [("age", 4), ("town", 3)])
CLUB = Kind("club", [("level", 12)])
MEMBER = Kind("member", [])
COIN = Kind("coin", [("side", 1)])
KINDS = [PERSON, CLUB, MEMBER, COIN]

ONE = "card me person from town"
TWO = "card me person from town city card it club from city"
THREE = "card a person from x card b person from x y z card c club from y"
SIX = THREE + " tell a age equal b town 2 least c level 11 among a town 0 2 same a age b age same c level b town"

TEXTS = [
    ONE,
    TWO,
    THREE,
    SIX,
    ONE + " tell me age",
    ONE + " equal me age 0",
    ONE + " least me age 3",
    ONE + " among me age 1",
    ONE + " among me age 0 1 2 3 tell me town",
    ONE + " same me age me town",
    TWO + " same it level me town among it level 0 9 10 11",
    "card me member from town",
    "card me member from town card coin coin from coin tell coin side",
    "card me coin from town equal me side 0 least me side 0 among me side 0 tell me side",
    "card me member from town card it club from town tell it level",
    "card abcdefgh person from z abcdefgh zz tell abcdefgh town",
    "card person person from person card age person from town card town club from age same age age person town",
]


class Oracle:
    """Tells beginnings of texts by point [18], in another way than by reading word after word.

    The words of a text fall into cards and conditions at key words, and each of these is
    looked up in a list of all that there may be. Words are a beginning if some end of one
    card or condition makes them a text: a beginning lacks at most the end of its last part.
    """

    def __init__(self, kinds):
        self.kinds = kinds
        self.ends = {}
        self.beginnings = {}

    def is_name(self, word):
        return 1 <= len(word) <= 8 and set(word) <= set("abcdefghijklmnopqrstuvwxyz") and word not in KEY_WORDS

    def is_card(self, part):
        if len(part) < 5 or part[0] != "card" or part[3] != "from":
            return False
        issuers = part[4:]
        return (self.is_name(part[1]) and part[2] in [kind.name for kind in self.kinds] and len(issuers) <= 3
                and all(map(self.is_name, issuers)) and len(set(issuers)) == len(issuers))

    def all_conditions(self, cards):
        fields = {kind.name: kind.fields for kind in self.kinds}
        values = [((card[1], name), many) for card in cards for name, many in fields[card[2]]]
        found = set()
        for value, many in values:
            numbers = [str(number) for number in range(min(many, 100))]
            found.add(("tell", *value))
            found.update((word, *value, number) for word in ["equal", "least"] for number in numbers)
            for size in range(1, len(numbers) + 1):
                found.update(("among", *value, *some) for some in itertools.combinations(numbers, size))
            found.update(("same", *value, *other) for other, _ in values if other != value)
        return found

    def is_text(self, words):
        if not words or words[0] != "card":
            return False
        starts = [at for at, word in enumerate(words) if word in KEY_WORDS and word != "from"]
        parts = [tuple(words[start:end]) for start, end in zip(starts, starts[1:] + [len(words)])]
        cards = [part for part in parts if part[0] == "card"]
        conditions = parts[len(cards):]
        if not 1 <= len(cards) <= 3 or len(conditions) > 6 or parts[:len(cards)] != cards:
            return False
        if not all(map(self.is_card, cards)) or len({card[1] for card in cards}) != len(cards):
            return False
        key = tuple(card[1:3] for card in cards)
        if key not in self.ends:
            self.ends[key] = self.all_conditions(cards)
        return all(condition in self.ends[key] for condition in conditions)

    def is_beginning(self, words):
        key = tuple(words)
        if key not in self.beginnings:
            self.beginnings[key] = any(self.is_text(words + end) for end in self.endings(words))
        return self.beginnings[key]

    def endings(self, words):
        """What may be missing of the last card or condition, among other things."""
        for name in ["n", "o", "p", "q"]:
            for kind in self.kinds:
                card = ["card", name, kind.name, "from", name]
                yield from [card[at:] for at in range(6)]
        names = [name for at, name in enumerate(words) if at > 0 and words[at - 1] == "card"]
        fields = sorted({name for kind in self.kinds for name, _ in kind.fields})
        values = [[name, field] for name in names for field in fields]
        first = values + [[field] for field in fields] + [[]]
        yield from first
        yield from [[*end, "0"] for end in first]
        yield from [[*end, *value] for end in first for value in values]

    def at(self, words):
        """What BadText tells of words, or None if they are a text."""
        if self.is_text(words):
            return None
        for at in range(len(words)):
            if not self.is_beginning(words[:at + 1]):
                return at
        return len(words)


class PolicyCase(unittest.TestCase):

    def bad(self, at, text, kinds=KINDS):
        with self.assertRaises(BadText) as caught:
            read_policy(text, kinds)
        self.assertEqual(caught.exception.at, at, text)
        self.assertIs(type(caught.exception.at), int)

    def good(self, text, kinds=KINDS):
        self.assertEqual(policy_text(read_policy(text, kinds)), text)


class ReadTest(PolicyCase):

    def test_data(self):
        policy = read_policy(SIX, KINDS)
        self.assertIs(type(policy), Policy)
        self.assertEqual(policy.cards, (("a", "person", ("x",)), ("b", "person", ("x", "y", "z")),
                                        ("c", "club", ("y",))))
        self.assertEqual(policy.conditions, (
            ("tell", "a", "age"), ("equal", "b", "town", 2), ("least", "c", "level", 11),
            ("among", "a", "town", (0, 2)), ("same", "a", "age", "b", "age"), ("same", "c", "level", "b", "town")))

    def test_among_with_one_number_is_a_tuple(self):
        self.assertEqual(read_policy(ONE + " among me age 1", KINDS).conditions, (("among", "me", "age", (1,)),))

    def test_without_conditions(self):
        policy = read_policy(TWO, KINDS)
        self.assertEqual(policy.cards, (("me", "person", ("town", "city")), ("it", "club", ("city",))))
        self.assertEqual(policy.conditions, ())

    def test_numbers_of_conditions(self):
        for many in range(7):
            text = ONE + " tell me age" * many
            self.assertEqual(read_policy(text, KINDS).conditions, (("tell", "me", "age"),) * many)
        self.bad(5 + 18, ONE + " tell me age" * 7)

    def test_example_of_the_document(self):
        policy = read_policy("card me person from town least me age 2", [Kind("person", [("age", 4)])])
        self.assertEqual(policy.conditions, (("least", "me", "age", 2),))

    def test_texts_again(self):
        for text in TEXTS:
            policy = read_policy(text, KINDS)
            self.assertEqual(policy_text(policy), text)
            self.assertEqual(read_policy(text, tuple(KINDS)), policy)

    def test_texts_of_data_and_of_lists(self):
        def listed(tree):
            return [listed(part) for part in tree] if isinstance(tree, tuple) else tree
        for text in TEXTS:
            policy = read_policy(text, KINDS)
            for made in [Policy(policy.cards, policy.conditions),
                         Policy(listed(policy.cards), listed(policy.conditions))]:
                self.assertEqual(made.cards, policy.cards)
                self.assertEqual(made.conditions, policy.conditions)
                self.assertIs(made == policy, True)
                self.assertEqual(policy_text(made), text)

    def test_kinds_stay_as_they_are(self):
        kinds = list(KINDS)
        read_policy(SIX, kinds)
        self.assertEqual(kinds, [PERSON, CLUB, MEMBER, COIN])

    def test_field_with_sixteen_values_and_with_more(self):
        for many in [16, 17, 100, 120]:
            kinds = [Kind("wide", [("field", many)])]
            text = "card me wide from town equal me field "
            for number in range(min(many, 100)):
                self.good(text + str(number), kinds)
            self.bad(8, text + str(many), kinds)
            self.bad(8, text + "100", kinds)

    def test_field_without_values(self):
        kinds = [Kind("none", [("empty", 0)])]
        self.good("card me none from town tell me empty", kinds)
        for word in ["equal", "least", "among"]:
            self.bad(5, f"card me none from town {word} me empty 0", kinds)
        kinds = [Kind("none", [("empty", 0), ("full", 2)])]
        self.good("card me none from town same me empty me full least me full 1", kinds)
        self.bad(7, "card me none from town equal me empty 0", kinds)


class PolicyTest(PolicyCase):

    def test_lists_may_change_afterwards(self):
        issuers, numbers = ["town"], [1, 3]
        card, condition = ["me", "person", issuers], ["among", "me", "age", numbers]
        cards, conditions = [card], [condition]
        policy = Policy(cards, conditions)
        issuers.append("city")
        numbers[0] = 0
        card[0] = "you"
        condition[1] = "you"
        cards.append(card)
        conditions.clear()
        self.assertEqual(policy.cards, (("me", "person", ("town",)),))
        self.assertEqual(policy.conditions, (("among", "me", "age", (1, 3)),))

    def test_equal(self):
        for text in TEXTS:
            self.assertIs(read_policy(text, KINDS) == read_policy(text, KINDS), True)
            self.assertIs(read_policy(text, KINDS) != read_policy(text, KINDS), False)

    def test_unequal(self):
        policies = [read_policy(text, KINDS) for text in TEXTS]
        for one, other in itertools.permutations(policies, 2):
            self.assertIs(one == other, False)
            self.assertIs(one != other, True)
        policy = read_policy(ONE + " among me age 1 3", KINDS)
        for text in [ONE + " among me age 1", ONE + " among me age 1 2", ONE + " among me town 1 2",
                     ONE + " among me age 1 3 among me age 1 3", "card me person from city among me age 1 3",
                     "card my person from town among my age 1 3"]:
            self.assertIs(policy == read_policy(text, KINDS), False)
        self.assertIs(policy == Policy(policy.cards, []), False)
        self.assertIs(policy == Policy([], policy.conditions), False)

    def test_unequal_to_other_things(self):
        policy = read_policy(ONE, KINDS)
        for other in [None, ONE, (policy.cards, policy.conditions)]:
            self.assertIs(policy == other, False)


class BadTextTest(PolicyCase):

    def test_empty_text(self):
        self.bad(0, "")

    def test_spaces(self):
        self.bad(0, " ")
        self.bad(0, "   ")
        for text in TEXTS:
            words = text.split(" ")
            self.bad(0, " " + text)
            self.bad(len(words), text + " ")
            self.bad(len(words), text + "  ")
            for at in range(1, len(words)):
                self.bad(at, " ".join(words[:at]) + "  " + " ".join(words[at:]))

    def test_other_signs_between_words(self):
        self.bad(0, "card\tme person from town")
        self.bad(4, "card me person from town\ncity")
        self.bad(4, "card me person from town\n")

    def test_words_that_lack_at_the_end(self):
        for end in range(9):
            words = (ONE + " least me age 2").split(" ")[:end]
            if end in (5, 9):
                self.good(" ".join(words))
            else:
                self.bad(end, " ".join(words))
        for text in [ONE, TWO]:
            for last in ["card", "card q", "card q club", "card q club from", "tell", "tell me", "equal me age",
                         "among me town", "same", "same me", "same me age", "same me age me"]:
                self.bad(len(text.split(" ")) + len(last.split(" ")), text + " " + last)

    def test_names_of_cards(self):
        for name in ["abcdefghi", "A", "Me", "m3", "m_e", "m-e", "m\u00e4", "0", "\u0430", "me.", *KEY_WORDS]:
            self.bad(1, f"card {name} person from town")
        for name in ["a", "z", "abcdefgh", "person", "club", "age", "town", "cards", "tel", "x"]:
            self.good(f"card {name} person from town")
        self.bad(6, ONE + " card me person from town")
        self.bad(6, ONE + " card me club from city")
        self.bad(11, ONE + " card it person from town card me club from city")
        self.bad(11, ONE + " card it person from town card it club from city")

    def test_names_of_issuers(self):
        for name in ["abcdefghi", "A", "t0", "t_n", "\u00e4", "", *KEY_WORDS]:
            self.bad(4, f"card me person from {name}")
        for name in ["abcdefghi", "A", "t0", "t_n", "\u00e4", "from", "0"]:
            self.bad(5, f"card me person from town {name}")
            self.bad(6, f"card me person from town city {name}")
        self.bad(5, "card me person from town town")
        self.bad(6, "card me person from town city town")
        self.bad(6, "card me person from town city city")
        self.good("card me person from a b c card it person from c b a")
        self.bad(7, "card me person from a b c d")
        self.bad(7, "card me person from a b c a")

    def test_kinds(self):
        for kind in ["persons", "perso", "me", "Person", "card", "from", "age"]:
            self.bad(2, f"card me {kind} from town")
        self.bad(2, "card me club from town", [PERSON])
        self.bad(7, ONE + " card it club from town", [PERSON])

    def test_fourth_card_and_cards_behind_conditions(self):
        self.bad(17, THREE + " card d club from y")
        self.bad(8, ONE + " tell me age card it club from city")
        self.bad(9, ONE + " least me age 2 card it club from city")
        self.bad(10, ONE + " among me age 1 2 card it club from city")

    def test_values(self):
        for word in ["tell", "equal", "least", "among", "same"]:
            self.bad(6, f"{ONE} {word} it age 1")
            self.bad(6, f"{ONE} {word} person age 1")
            self.bad(6, f"{ONE} {word} age 1")
            self.bad(7, f"{ONE} {word} me level 1")
            self.bad(7, f"{ONE} {word} me 1")
            self.bad(7, f"{ONE} {word} me me 1")
        self.bad(13, TWO + " tell me level")
        self.bad(13, TWO + " tell it age")
        self.bad(8, ONE + " same me age it age")
        self.bad(9, ONE + " same me age me level")
        self.bad(15, TWO + " same me age it age")

    def test_kinds_without_fields(self):
        for word in ["tell", "equal", "least", "among", "same"]:
            self.bad(5, f"card me member from town {word} me age 0")
            self.bad(5, f"card me member from town {word}")
            self.bad(10, f"card me member from town card it member from town {word} it")
        text = "card me member from town card it club from town"
        for word in ["tell", "equal", "least", "among"]:
            self.bad(11, f"{text} {word} me level 0")
            self.bad(11, f"{text} {word}")
            self.bad(12, f"{text} {word} it")
        self.bad(13, "card me member from town card you person from town same you age me")
        self.bad(11, "card me member from town card you person from town same me age you age")

    def test_numbers(self):
        for word in ["equal", "least", "among"]:
            for number in ["4", "5", "10", "00", "01", "03", "000", "-1", "+1", "1.", "1_", "\u0661", "\u00b2", "1a",
                           "a", "003", "100", ""]:
                self.bad(8, f"{ONE} {word} me age {number}")
            for number in range(4):
                self.good(f"{ONE} {word} me age {number}")
            for number in range(12):
                self.good(f"{TWO} {word} it level {number}")
            for number in ["12", "011", "110", "-1", "09", "99"]:
                self.bad(14, f"{TWO} {word} it level {number}")
            self.bad(8, f"{ONE} {word} me age")
        for word in ["equal", "least"]:
            self.bad(9, f"{ONE} {word} me age 1 2")
        self.bad(8, ONE + " tell me age 1")

    def test_among(self):
        self.bad(9, ONE + " among me age 2 1")
        self.bad(9, ONE + " among me age 2 2")
        self.bad(10, ONE + " among me age 0 2 1")
        self.bad(10, ONE + " among me age 0 2 0")
        self.bad(9, ONE + " among me age 3 4")
        self.bad(9, ONE + " among me age 3 0")
        self.bad(12, ONE + " among me age 0 1 2 3 4")
        self.good(ONE + " among me age 3")
        self.good(ONE + " among me age 3 among me age 0")
        # Numbers are in ascending order as numbers, not as texts.
        self.good(TWO + " among it level 2 10")
        self.bad(15, TWO + " among it level 10 2")

    def test_same(self):
        self.bad(9, ONE + " same me age me age")
        self.bad(15, TWO + " same me age me age")
        # With one value there is no other one, so the condition may not even begin.
        self.bad(5, "card me coin from town same me side me side")
        self.bad(5, "card me coin from town same")
        # The only value of the card is written, and another card has one.
        text = "card me coin from town card it club from town same"
        self.good(text + " me side it level")
        self.bad(13, text + " me side me side")
        self.bad(13, text + " it level it level")
        text = "card me member from town card it club from town same"
        self.bad(10, text)
        text = "card me member from town card it person from town same"
        self.good(text + " it town it age")

    def test_words_behind_a_whole_text(self):
        self.bad(8, ONE + " tell me age me")
        self.bad(10, ONE + " same me age me town me")
        self.bad(9, ONE + " least me age 2 x")
        self.bad(5 + 18 + 1, ONE + " tell me age" * 5 + " among me age 1 tell me age")
        self.good(ONE + " tell me age" * 5 + " among me age 1 2")


class OracleTest(PolicyCase):
    """Texts that are changed at one place, against the words of point [18]."""

    def compare(self, oracle, words):
        at = oracle.at(words)
        text = " ".join(words)
        if at is None:
            self.good(text, oracle.kinds)
        else:
            self.bad(at, text, oracle.kinds)

    def test_texts(self):
        oracle = Oracle(KINDS)
        for text in TEXTS:
            self.assertIsNone(oracle.at(text.split(" ")), text)

    def test_words_of_a_long_text(self):
        oracle = Oracle(KINDS)
        words = SIX.split(" ")
        for at in range(len(words) + 1):
            self.compare(oracle, words[:at])
            self.compare(oracle, words[:at] + words[at + 1:])
            self.compare(oracle, words[:at] + words[at:at + 1] * 2 + words[at + 1:])
            for word in ["card", "from", "tell", "same", "a", "b", "c", "x", "y", "age", "town", "0", "2", "9"]:
                self.compare(oracle, words[:at] + [word] + words[at:])
                self.compare(oracle, words[:at] + [word] + words[at + 1:])

    def test_changed_texts(self):
        pool = [*KEY_WORDS, "me", "it", "town", "city", "age", "level", "side", "person", "member", "coin",
                "q", "0", "1", "2", "3", "11", "00", "x1", "abcdefghi"]
        texts = [
            ONE + " among me age 1 3 same me town me age",
            TWO + " least it level 3",
            "card me member from town card it coin from town city among it side 0",
            "card me coin from town card it coin from town same it side me side equal me side 0",
            "card me coin from town card it member from town tell me side",
        ]
        oracle = Oracle(KINDS)
        for text in texts:
            words = text.split(" ")
            for at in range(len(words) + 1):
                self.compare(oracle, words[:at])
                self.compare(oracle, words[:at] + words[at + 1:])
                self.compare(oracle, words[:at] + words[at:at + 1] * 2 + words[at + 1:])
                for word in pool:
                    self.compare(oracle, words[:at] + [word] + words[at:])
                    self.compare(oracle, words[:at] + [word] + words[at + 1:])
                self.compare(oracle, words[:at] + words[at + 1:at + 2] + words[at:at + 1] + words[at + 2:])


if __name__ == "__main__":
    unittest.main()
