"""Tests of vouchdoor.issuer: kinds, requests, rows and books (points [13] to [16])."""

import inspect
import unittest

from vouchdoor import issuer as module
from vouchdoor.claim import Claim, answer, first_move, fits, tape_of
from vouchdoor.errors import BadRequest, BadTurn
from vouchdoor.group import Group, commit
from vouchdoor.issuer import Issuer, Kind, asking
from vouchdoor.statement import Statement

GROUP = Group(23, 11, [2, 3, 4, 6])
PERSON = Kind("person", [("age", 4), ("town", 3)])
MEMBER = Kind("member", [])
CLUB = Kind("club", [("level", 16)])
WIDE = Kind("wide", [("one", 2), ("two", 2), ("three", 2)])
KINDS = [PERSON, MEMBER, CLUB, WIDE]

RANDOMNESS, SECRET = 5, 7
ELEMENT = commit(GROUP, [RANDOMNESS, SECRET])
WITNESS = ((RANDOMNESS, SECRET), ())
TAPE = ((3, 10), ())
FIRST = first_move(GROUP, asking(GROUP, ELEMENT), WITNESS, TAPE)


def reply_to(challenge):
    return answer(GROUP, asking(GROUP, ELEMENT), WITNESS, TAPE, challenge)


def new_issuer():
    return Issuer("city", GROUP, KINDS)


def grant(issuer, kind, values, day):
    """The index of a row that is granted by a whole request."""
    number = issuer.ask(kind, ELEMENT, FIRST)
    issuer.challenge(number, 4)
    return issuer.grant(number, reply_to(4), values, day)


class IssuerCase(unittest.TestCase):

    def setUp(self):
        self.issuer = new_issuer()

    def bad(self, what, action, *arguments):
        with self.assertRaises(BadRequest) as caught:
            action(*arguments)
        self.assertEqual(caught.exception.what, what, arguments)

    def bad_turn(self, state, action, *arguments):
        with self.assertRaises(BadTurn) as caught:
            action(*arguments)
        self.assertEqual(caught.exception.what, state, arguments)


class KindTest(unittest.TestCase):

    def test_fields(self):
        self.assertEqual(PERSON.name, "person")
        self.assertEqual(PERSON.fields, (("age", 4), ("town", 3)))
        self.assertEqual(MEMBER.fields, ())

    def test_lists_are_kept_as_tuples(self):
        # A tuple is never equal to a list, so this asks for tuples at both depths.
        self.assertEqual(Kind("person", [["age", 4], ("town", 3)]).fields, (("age", 4), ("town", 3)))
        self.assertEqual(Kind("person", (("age", 4), ["town", 3])).fields, (("age", 4), ("town", 3)))

    def test_lists_may_change_afterwards(self):
        age = ["age", 4]
        fields = [age]
        kind = Kind("person", fields)
        age[1] = 9
        fields.append(("town", 3))
        self.assertEqual(kind.fields, (("age", 4),))

    def test_equal(self):
        same = Kind("person", [["age", 4], ["town", 3]])
        self.assertIs(PERSON == same, True)
        self.assertIs(PERSON != same, False)
        self.assertIs(MEMBER == Kind("member", ()), True)

    def test_unequal(self):
        others = [
            Kind("persons", [("age", 4), ("town", 3)]),
            Kind("person", [("town", 3), ("age", 4)]),
            Kind("person", [("age", 5), ("town", 3)]),
            Kind("person", [("year", 4), ("town", 3)]),
            Kind("person", [("age", 4)]),
            Kind("person", [("age", 4), ("town", 3), ("street", 2)]),
            Kind("person", []),
        ]
        for other in others:
            self.assertIs(PERSON == other, False, other.fields)
            self.assertIs(PERSON != other, True, other.fields)

    def test_unequal_to_other_things(self):
        for other in [None, "person", ("person", (("age", 4), ("town", 3)))]:
            self.assertIs(PERSON == other, False)


class AskingTest(unittest.TestCase):

    def test_exactly_the_claim(self):
        for group in [GROUP, Group(7, 3, [4, 2]), Group(23, 11, [18, 9])]:
            for element in [1, 2, 4, group.bases[0]]:
                made = asking(group, element)
                self.assertIs(type(made), Claim)
                self.assertEqual(made.statement.unknowns, ("r", "s"))
                factors = ((group.bases[0], "r"), (group.bases[1], "s"))
                self.assertEqual(made.statement.equations, ((element, factors),))
                self.assertEqual(made.choices, ())
                self.assertEqual(made, Claim(Statement(["r", "s"], [(element, list(factors))]), []))

    def test_answered_with_randomness_and_secret(self):
        for challenge in range(11):
            self.assertIs(fits(GROUP, asking(GROUP, ELEMENT), FIRST, challenge, reply_to(challenge)), True)


class NewIssuerTest(IssuerCase):

    def test_fields(self):
        self.assertEqual(self.issuer.name, "city")
        self.assertEqual(self.issuer.group, GROUP)
        self.assertEqual(self.issuer.kinds, tuple(KINDS))
        self.assertIs(type(self.issuer.kinds), tuple)
        self.assertEqual(self.issuer.book, [])
        self.assertIs(type(self.issuer.book), list)
        self.assertEqual(Issuer("city", GROUP, tuple(KINDS)).kinds, tuple(KINDS))

    def test_list_of_kinds_may_change_afterwards(self):
        kinds = [PERSON, CLUB]
        issuer = Issuer("city", GROUP, kinds)
        self.assertEqual(kinds, [PERSON, CLUB])
        kinds[0] = MEMBER
        kinds.append(MEMBER)
        self.assertEqual(issuer.kinds, (PERSON, CLUB))
        self.bad("kind", issuer.ask, "member", ELEMENT, FIRST)
        self.assertEqual(grant(issuer, "person", [3, 2], 0), 0)

    def test_issuers_have_books_of_their_own(self):
        other = new_issuer()
        grant(self.issuer, "member", [], 3)
        self.assertEqual((len(self.issuer.book), other.book), (1, []))
        self.bad("number", other.challenge, 0, 1)

    def test_no_kinds(self):
        issuer = Issuer("city", GROUP, [])
        self.bad("kind", issuer.ask, "person", ELEMENT, FIRST)
        self.assertEqual(issuer.counting("person", 0), [])


class LifeTest(IssuerCase):

    def test_whole_life_of_a_request(self):
        number = self.issuer.ask("person", ELEMENT, FIRST)
        self.assertEqual(number, 0)
        self.assertEqual(self.issuer.book, [])
        self.assertIsNone(self.issuer.challenge(number, 6))
        self.assertEqual(self.issuer.book, [])
        self.assertEqual(self.issuer.grant(number, reply_to(6), [3, 2], 12), 0)
        row = commit(GROUP, [RANDOMNESS, SECRET, 3, 2])
        self.assertEqual(self.issuer.book, [("person", row, 12, None)])
        self.assertEqual(self.issuer.counting("person", 12), [0])
        self.assertIsNone(self.issuer.revoke(0, 20))
        self.assertEqual(self.issuer.book, [("person", row, 12, 20)])
        self.assertEqual(self.issuer.counting("person", 20), [])

    def test_every_challenge(self):
        for challenge in range(11):
            number = self.issuer.ask("club", ELEMENT, FIRST)
            self.assertEqual(number, challenge)
            self.issuer.challenge(number, challenge)
            self.assertEqual(self.issuer.grant(number, reply_to(challenge), [challenge], 0), challenge)

    def test_requests_are_counted_and_may_overlap(self):
        self.assertEqual([self.issuer.ask("club", ELEMENT, FIRST) for _ in range(3)], [0, 1, 2])
        self.issuer.challenge(2, 8)
        self.issuer.challenge(0, 3)
        self.assertEqual(self.issuer.grant(0, reply_to(3), [1], 5), 0)
        self.assertEqual(self.issuer.ask("member", ELEMENT, FIRST), 3)
        self.issuer.challenge(1, 0)
        self.bad("reply", self.issuer.grant, 1, reply_to(8), [15], 5)
        self.assertEqual(self.issuer.grant(2, reply_to(8), [2], 4), 1)
        self.assertEqual([row[:1] + row[2:] for row in self.issuer.book], [("club", 5, None), ("club", 4, None)])

    def test_refused_asking_makes_no_request(self):
        self.bad("kind", self.issuer.ask, "house", ELEMENT, FIRST)
        self.bad("element", self.issuer.ask, "person", 5, FIRST)
        self.bad("number", self.issuer.challenge, 0, 1)
        self.assertEqual(self.issuer.ask("person", ELEMENT, FIRST), 0)

    def test_row_is_the_element_times_bases_to_the_values(self):
        for values in [(age, town) for age in range(4) for town in range(3)]:
            index = grant(self.issuer, "person", list(values), 0)
            expected = ELEMENT * pow(4, values[0], 23) * pow(6, values[1], 23) % 23
            self.assertEqual(self.issuer.book[index], ("person", expected, 0, None))
            self.assertEqual(expected, commit(GROUP, (RANDOMNESS, SECRET) + values))

    def test_row_of_a_kind_without_fields_is_the_element(self):
        grant(self.issuer, "member", [], 0)
        self.assertEqual(self.issuer.book, [("member", ELEMENT, 0, None)])

    def test_row_with_a_value_of_q_or_more(self):
        grant(self.issuer, "club", [15], 0)
        self.assertEqual(self.issuer.book[0][1], commit(GROUP, [RANDOMNESS, SECRET, 4]))

    def test_book_in_the_order_of_granting(self):
        for day, kind, values in [(9, "club", [3]), (2, "person", (0, 1)), (5, "member", ()), (5, "club", [0])]:
            grant(self.issuer, kind, values, day)
        expected = [("club", commit(GROUP, [5, 7, 3]), 9, None), ("person", commit(GROUP, [5, 7, 0, 1]), 2, None),
                    ("member", ELEMENT, 5, None), ("club", ELEMENT, 5, None)]
        self.assertEqual(self.issuer.book, expected)
        self.assertTrue(all(type(row) is tuple for row in self.issuer.book))
        self.issuer.revoke(1, 0)
        expected[1] = expected[1][:3] + (0,)
        self.assertEqual(self.issuer.book, expected)
        self.assertTrue(all(type(row) is tuple for row in self.issuer.book))

    def test_list_of_values_may_change_afterwards(self):
        values = [3, 2]
        grant(self.issuer, "person", values, 12)
        self.assertEqual(values, [3, 2])
        before = list(self.issuer.book)
        values[0] = 1
        values.append(0)
        self.assertEqual(self.issuer.book, before)
        self.assertEqual(self.issuer.book[0][1], commit(GROUP, [RANDOMNESS, SECRET, 3, 2]))


class TurnTest(IssuerCase):

    def in_state(self, state):
        """The number of a request in this state."""
        number = self.issuer.ask("person", ELEMENT, FIRST)
        if state != "asked":
            self.issuer.challenge(number, 6)
        if state == "granted":
            self.issuer.grant(number, reply_to(6), [3, 2], 0)
        if state == "refused":
            self.bad("reply", self.issuer.grant, number, reply_to(7), [3, 2], 0)
        return number

    def test_challenge_out_of_turn(self):
        for state in ["challenged", "granted", "refused"]:
            number = self.in_state(state)
            # The state is asked ahead of the challenge.
            for challenge in [0, 6, 10, 11, -1]:
                self.bad_turn(state, self.issuer.challenge, number, challenge)

    def test_grant_out_of_turn(self):
        for state in ["asked", "granted", "refused"]:
            number = self.in_state(state)
            rows = list(self.issuer.book)
            # The state is asked ahead of the values and of the reply.
            for values in [[3, 2], [4, 2], [3]]:
                for replied in [reply_to(6), reply_to(7), ((), ())]:
                    self.bad_turn(state, self.issuer.grant, number, replied, values, 0)
            self.assertEqual(self.issuer.book, rows)

    def test_what_is_due_is_taken_after_an_error_of_turn(self):
        number = self.in_state("asked")
        self.bad_turn("asked", self.issuer.grant, number, reply_to(6), [3, 2], 0)
        self.issuer.challenge(number, 6)
        self.bad_turn("challenged", self.issuer.challenge, number, 7)
        # The first challenge is still the one that the reply is for.
        self.assertEqual(self.issuer.grant(number, reply_to(6), [3, 2], 0), 0)

    def test_number_of_no_request(self):
        for known in range(3):
            for number in [-1, -2, -known, known, known + 1, 10 ** 20]:
                if not 0 <= number < known:
                    self.bad("number", self.issuer.challenge, number, 6)
                    self.bad("number", self.issuer.challenge, number, 11)
                    self.bad("number", self.issuer.grant, number, reply_to(6), [3, 2], 0)
                    self.bad("number", self.issuer.grant, number, ((), ()), [4], 0)
            self.in_state("granted")

    def test_number_is_asked_ahead_of_the_state(self):
        for state in ["asked", "challenged", "granted", "refused"]:
            many = self.in_state(state) + 1
            for number in [-1, -many, many]:
                self.bad("number", self.issuer.challenge, number, 0)
                self.bad("number", self.issuer.grant, number, reply_to(6), [3, 2], 0)


class BadRequestTest(IssuerCase):

    def test_kind(self):
        for kind in ["house", "persons", "perso", "", "Person"]:
            self.bad("kind", self.issuer.ask, kind, ELEMENT, FIRST)

    def test_kind_with_too_many_fields(self):
        self.bad("kind", self.issuer.ask, "wide", ELEMENT, FIRST)
        self.assertEqual(self.issuer.counting("wide", 0), [])
        # With one base more there are enough.
        group = Group(23, 11, [2, 3, 4, 6, 8])
        issuer = Issuer("city", group, KINDS)
        number = issuer.ask("wide", ELEMENT, FIRST)
        issuer.challenge(number, 6)
        self.assertEqual(issuer.grant(number, reply_to(6), [1, 0, 1], 2), 0)
        self.assertEqual(issuer.book, [("wide", commit(group, [5, 7, 1, 0, 1]), 2, None)])

    def test_only_a_kind_without_fields_for_two_bases(self):
        issuer = Issuer("city", Group(23, 11, [2, 3]), KINDS)
        for kind in ["person", "club", "wide"]:
            self.bad("kind", issuer.ask, kind, ELEMENT, FIRST)
        self.assertEqual(grant(issuer, "member", [], 0), 0)
        self.assertEqual(issuer.book, [("member", ELEMENT, 0, None)])

    def test_element(self):
        for element in [0, -1, 5, 22, 23, 23 + ELEMENT, ELEMENT - 23, 10 ** 20]:
            self.bad("element", self.issuer.ask, "person", element, FIRST)

    def test_kind_ahead_of_element(self):
        for kind in ["house", "wide"]:
            for element in [0, 5, 22, 23 + ELEMENT]:
                self.bad("kind", self.issuer.ask, kind, element, FIRST)

    def test_every_element_may_be_asked_with(self):
        for element in [1, 2, 3, 4, 6, 8, 9, 12, 13, 16, 18]:
            witness = ((GROUP.log(element), 0), ())
            claim = asking(GROUP, element)
            number = self.issuer.ask("club", element, first_move(GROUP, claim, witness, TAPE))
            self.issuer.challenge(number, 6)
            index = self.issuer.grant(number, answer(GROUP, claim, witness, TAPE, 6), [1], 0)
            self.assertEqual(self.issuer.book[index][1], element * 4 % 23)

    def test_challenge(self):
        number = self.issuer.ask("person", ELEMENT, FIRST)
        for challenge in [-1, -11, 11, 12, 10 ** 20]:
            self.bad("challenge", self.issuer.challenge, number, challenge)
        # The request is still only asked.
        self.bad_turn("asked", self.issuer.grant, number, reply_to(6), [3, 2], 0)
        for challenge in [0, 10]:
            self.assertIsNone(self.issuer.challenge(self.issuer.ask("club", ELEMENT, FIRST), challenge))

    def test_values(self):
        number = self.issuer.ask("person", ELEMENT, FIRST)
        self.issuer.challenge(number, 6)
        for values in [[], [3], [3, 2, 0], [4, 2], [3, 3], [-1, 2], [3, -1], [14, 2], (4, 3), [10 ** 20, 0]]:
            self.bad("values", self.issuer.grant, number, reply_to(6), values, 0)
            # Ahead of the reply.
            self.bad("values", self.issuer.grant, number, reply_to(7), values, 0)
            self.bad("values", self.issuer.grant, number, ((), ()), values, 0)
            # The request stays challenged.
            self.bad_turn("challenged", self.issuer.challenge, number, 6)
        self.assertEqual(self.issuer.book, [])
        self.assertEqual(self.issuer.grant(number, reply_to(6), [3, 2], 0), 0)

    def test_values_of_a_kind_without_fields(self):
        number = self.issuer.ask("member", ELEMENT, FIRST)
        self.issuer.challenge(number, 6)
        self.bad("values", self.issuer.grant, number, reply_to(6), [0], 0)
        self.assertEqual(self.issuer.grant(number, reply_to(6), [], 0), 0)

    def test_reply(self):
        r, s = reply_to(6)[0]
        wrong = [reply_to(7), ((r + 1, s), ()), ((r, s + 1), ()), ((r + 11, s), ()), ((r, s - 11), ()), ((r,), ()),
                 ((r, s, 0), ()), ((), ()), ((r, s), ((),)), ((r, s), (((0, ((), ())),),))]
        for replied in wrong:
            number = self.issuer.ask("person", ELEMENT, FIRST)
            self.issuer.challenge(number, 6)
            self.bad("reply", self.issuer.grant, number, replied, [3, 2], 0)
            # The request is refused: the right reply comes too late.
            self.bad_turn("refused", self.issuer.grant, number, reply_to(6), [3, 2], 0)
            self.bad_turn("refused", self.issuer.challenge, number, 6)
        self.assertEqual(self.issuer.book, [])

    def test_wrong_first_move(self):
        for first in [((FIRST[0][0] * 2 % 23,), ()), ((), ()), (FIRST[0] * 2, ()), (FIRST[0], ((),))]:
            number = self.issuer.ask("person", ELEMENT, first)
            self.issuer.challenge(number, 6)
            self.bad("reply", self.issuer.grant, number, reply_to(6), [3, 2], 0)
            self.bad_turn("refused", self.issuer.challenge, number, 6)

    def test_reply_for_another_element(self):
        number = self.issuer.ask("person", ELEMENT * 2 % 23, FIRST)
        self.issuer.challenge(number, 6)
        self.bad("reply", self.issuer.grant, number, reply_to(6), [3, 2], 0)

    def test_row(self):
        for index in [-1, 0, 1]:
            self.bad("row", self.issuer.revoke, index, 3)
        for _ in range(2):
            grant(self.issuer, "member", [], 0)
        for index in [-1, -2, -3, 2, 3, 10 ** 20]:
            self.bad("row", self.issuer.revoke, index, 3)
        self.assertEqual([row[3] for row in self.issuer.book], [None, None])

    def test_row_that_is_revoked_already(self):
        for _ in range(2):
            grant(self.issuer, "member", [], 5)
        self.issuer.revoke(1, 0)
        for day in [0, 4, 5, 9]:
            self.bad("row", self.issuer.revoke, 1, day)
        self.assertEqual([row[3] for row in self.issuer.book], [None, 0])
        self.issuer.revoke(0, 9)
        self.bad("row", self.issuer.revoke, 0, 9)
        self.assertEqual([row[3] for row in self.issuer.book], [9, 0])


class CountingTest(IssuerCase):

    def counted(self, kind):
        """The days from 0 to 19 at which the only row of a kind counts."""
        return [day for day in range(20) if self.issuer.counting(kind, day) == [0]]

    def test_from_the_day_of_the_grant(self):
        grant(self.issuer, "member", [], 5)
        self.assertEqual(self.issuer.counting("member", 4), [])
        self.assertEqual(self.issuer.counting("member", 5), [0])
        self.assertEqual(self.counted("member"), list(range(5, 20)))
        self.assertEqual(self.issuer.counting("member", 10 ** 20), [0])

    def test_until_the_day_before_it_is_revoked(self):
        grant(self.issuer, "member", [], 5)
        self.issuer.revoke(0, 12)
        self.assertEqual(self.issuer.counting("member", 11), [0])
        self.assertEqual(self.issuer.counting("member", 12), [])
        self.assertEqual(self.counted("member"), list(range(5, 12)))
        self.assertEqual(self.issuer.counting("member", 10 ** 20), [])

    def test_revoked_at_the_day_of_the_grant_or_ahead_of_it(self):
        for day in [0, 4, 5]:
            self.issuer = new_issuer()
            grant(self.issuer, "member", [], 5)
            self.issuer.revoke(0, day)
            self.assertEqual(self.issuer.book[0][2:], (5, day))
            self.assertEqual(self.counted("member"), [])

    def test_granted_at_day_0(self):
        grant(self.issuer, "member", [], 0)
        self.assertEqual(self.issuer.counting("member", 0), [0])
        self.issuer.revoke(0, 1)
        self.assertEqual(self.counted("member"), [0])

    def test_only_rows_of_the_kind_in_the_order_of_the_book(self):
        for day, kind, values in [(9, "club", [3]), (2, "person", (0, 1)), (5, "club", [3]), (5, "member", ()),
                                  (1, "club", [0])]:
            grant(self.issuer, kind, values, day)
        self.assertEqual(self.issuer.counting("club", 9), [0, 2, 4])
        self.assertEqual(self.issuer.counting("club", 8), [2, 4])
        self.assertEqual(self.issuer.counting("person", 9), [1])
        self.assertEqual(self.issuer.counting("member", 9), [3])
        self.issuer.revoke(2, 7)
        self.assertEqual(self.issuer.counting("club", 6), [2, 4])
        self.assertEqual(self.issuer.counting("club", 7), [4])

    def test_kind_that_the_issuer_does_not_have(self):
        grant(self.issuer, "member", [], 0)
        for kind in ["house", "mem", ""]:
            self.assertEqual(self.issuer.counting(kind, 5), [])
        self.assertEqual(self.issuer.counting("person", 5), [])

    def test_the_list_may_change_afterwards(self):
        grant(self.issuer, "member", [], 0)
        found = self.issuer.counting("member", 3)
        self.assertIs(type(found), list)
        found.append(7)
        self.assertEqual(self.issuer.counting("member", 3), [0])


class PlaceTest(unittest.TestCase):

    def test_names_and_arguments(self):
        expected = {"Kind": ["name", "fields"], "asking": ["group", "element"], "Issuer": ["name", "group", "kinds"]}
        for name, arguments in expected.items():
            part = getattr(module, name)
            self.assertEqual(part.__module__, "vouchdoor.issuer")
            self.assertEqual(list(inspect.signature(part).parameters), arguments)
        self.assertIn("__eq__", vars(Kind))

    def test_methods(self):
        expected = {
            "ask": ["kind", "element", "first"],
            "challenge": ["number", "challenge"],
            "grant": ["number", "replied", "values", "day"],
            "revoke": ["index", "day"],
            "counting": ["kind", "day"],
        }
        for name, arguments in expected.items():
            self.assertIn(name, vars(Issuer))
            self.assertEqual(list(inspect.signature(getattr(new_issuer(), name)).parameters), arguments)


if __name__ == "__main__":
    unittest.main()
