"""Tests of vouchdoor.question: questions, known numbers and claims (points [19] to [22])."""

import itertools
import unittest

from tests.helpers import (CLUB, GROUP, KINDS, MEMBER, PASS, PERSON, SMALL, ask, divided, grant, issuer_with,
                           listed, only_tuples)
from vouchdoor.claim import Claim
from vouchdoor.errors import BadQuestion
from vouchdoor.group import Group, commit
from vouchdoor.issuer import Issuer, Kind
from vouchdoor.policy import Policy, read_policy
from vouchdoor.question import Question, claim_of, publics, question_of
from vouchdoor.statement import Statement

B = GROUP.bases
ONE = "card me person from town"


def element(randomness, secret, *values):
    return commit(GROUP, [randomness, secret, *values])


def town_and_city():
    town = issuer_with("town", [
        ("person", 3, 7, [1, 2], 5), ("club", 4, 7, [3], 5), ("person", 5, 8, [0, 0], 6), ("member", 1, 8, [], 5),
        ("person", 6, 9, [3, 1], 5), ("person", 7, 7, [2, 2], 5)])
    city = issuer_with("city", [
        ("club", 2, 9, [4], 5), ("person", 8, 10, [1, 1], 5), ("club", 9, 7, [0], 5), ("pass", 1, 7, [1, 4, 2], 5)])
    return town, city


class QuestionTest(unittest.TestCase):

    def setUp(self):
        self.town, self.city = town_and_city()

    def rows(self, text, day=5, issuers=None):
        return ask(text, [self.town, self.city] if issuers is None else issuers, day).rows

    def test_fields(self):
        policy = read_policy(ONE + " tell me age", KINDS)
        question = question_of(GROUP, KINDS, policy, [self.town, self.city], 5)
        self.assertIs(type(question), Question)
        self.assertEqual(question.group, GROUP)
        self.assertEqual(question.kinds, tuple(KINDS))
        self.assertIs(type(question.kinds), tuple)
        self.assertEqual(question.policy, policy)
        self.assertEqual(question.rows, ((("town", 0, element(3, 7, 1, 2)), ("town", 4, element(6, 9, 3, 1)),
                                          ("town", 5, element(7, 7, 2, 2))),))
        self.assertTrue(only_tuples(question.rows))

    def test_lists_are_kept_as_tuples(self):
        policy = read_policy(ONE, KINDS)
        rows = ((("town", 0, 4), ("town", 1, 6)),)
        for given in [rows, listed(rows), [rows[0]], [listed(rows[0])], [list(rows[0])]]:
            question = Question(GROUP, KINDS, policy, given)
            self.assertEqual(question.rows, rows)
            self.assertEqual(question.kinds, tuple(KINDS))

    def test_lists_may_change_afterwards(self):
        kinds = [PERSON]
        row = ["town", 0, 4]
        counting = [row]
        rows = [counting]
        question = Question(GROUP, kinds, read_policy(ONE, kinds), rows)
        kinds.append(CLUB)
        row[1] = 9
        counting.append(row)
        rows.append([])
        self.assertEqual(question.rows, ((("town", 0, 4),),))
        self.assertEqual(question.kinds, (PERSON,))

    def test_order_of_rows(self):
        persons = (("town", 0, element(3, 7, 1, 2)), ("town", 4, element(6, 9, 3, 1)),
                   ("town", 5, element(7, 7, 2, 2)))
        others = (("city", 1, element(8, 10, 1, 1)),)
        clubs = (("city", 0, element(2, 9, 4)), ("city", 2, element(9, 7, 0)))
        for issuers in [[self.town, self.city], [self.city, self.town], (self.city, self.town)]:
            self.assertEqual(self.rows("card me person from town city", 5, issuers), (persons + others,))
            self.assertEqual(self.rows("card me person from city town", 5, issuers), (others + persons,))
            self.assertEqual(self.rows("card me club from city", 5, issuers), (clubs,))
        self.assertEqual(self.rows("card a club from city card b person from city card c member from town"),
                         (clubs, others, (("town", 3, element(1, 8)),)))
        self.assertEqual(self.rows("card a club from city card b club from city town"),
                         (clubs, clubs + (("town", 1, element(4, 7, 3)),)))

    def test_one_of_several_issuers_may_have_no_row(self):
        self.assertEqual(self.rows("card me pass from town city"), ((("city", 3, element(1, 7, 1, 4, 2)),),))
        self.assertEqual(self.rows("card me pass from city town"), ((("city", 3, element(1, 7, 1, 4, 2)),),))

    def test_days(self):
        self.town.revoke(0, 8)
        self.town.revoke(4, 2)
        indexes = {day: [index for _, index, _ in self.rows(ONE, day)[0]] for day in range(5, 10)}
        self.assertEqual(indexes, {5: [0, 5], 6: [0, 2, 5], 7: [0, 2, 5], 8: [2, 5], 9: [2, 5]})
        with self.assertRaises(BadQuestion):
            self.rows(ONE, 4)

    def test_does_not_change_with_the_book(self):
        question = ask(ONE, [self.town, self.city], 5)
        rows = question.rows
        grant(self.town, "person", 1, 1, [0, 0], 1)
        self.town.revoke(0, 1)
        self.town.book.clear()
        self.assertEqual(question.rows, rows)
        self.assertEqual(len(question.rows[0]), 3)

    def test_arguments_stay_as_they_are(self):
        kinds, issuers = list(KINDS), [self.city, self.town]
        books = [list(issuer.book) for issuer in issuers]
        policy = read_policy("card me person from town city tell me age", kinds)
        text = (policy.cards, policy.conditions)
        question_of(GROUP, kinds, policy, issuers, 5)
        self.assertEqual(kinds, KINDS)
        self.assertTrue(issuers[0] is self.city and issuers[1] is self.town and len(issuers) == 2)
        self.assertEqual([issuer.book for issuer in issuers], books)
        self.assertEqual((policy.cards, policy.conditions), text)


class BadQuestionTest(unittest.TestCase):

    def bad(self, what, text, issuers, kinds=KINDS, group=GROUP, day=1):
        with self.assertRaises(BadQuestion) as caught:
            question_of(group, kinds, read_policy(text, kinds), issuers, day)
        self.assertEqual(caught.exception.what, what, text)

    def test_bases(self):
        row = ("person", 1, 2, [3, 2])
        for bases in [[2, 3], [2, 3, 4]]:
            group = Group(23, 11, bases)
            self.bad("bases", ONE, [Issuer("town", group, [PERSON])], group=group)
        group = Group(23, 11, [2, 3, 4, 6])
        question = ask(ONE, [issuer_with("town", [row], group)])
        self.assertEqual(question.rows, ((("town", 0, commit(group, [1, 2, 3, 2])),),))

    def test_range(self):
        kinds = [Kind("person", [("age", 4), ("town", 12)])]
        self.bad("range", ONE, [issuer_with("town", [("person", 1, 2, [3, 2])], kinds=kinds)], kinds)
        kinds = [Kind("person", [("age", 13), ("town", 2)])]
        self.bad("range", ONE, [issuer_with("town", [("person", 1, 2, [3, 1])], kinds=kinds)], kinds)
        kinds = [Kind("person", [("age", 11), ("town", 11)])]
        question = ask(ONE, [issuer_with("town", [("person", 1, 2, [10, 0])], kinds=kinds)], kinds=kinds)
        self.assertEqual(len(question.rows[0]), 1)

    def test_issuer(self):
        row = ("person", 1, 2, [3, 2])
        good = issuer_with("town", [row])
        self.bad("issuer", ONE, [])
        self.bad("issuer", ONE, [issuer_with("city", [row])])
        self.bad("issuer", ONE + " city", [good])
        self.bad("issuer", "card me person from city town", [good])
        for bases in [[2, 3, 4, 6], [2, 3, 4, 8, 6], [2, 3, 4, 6, 8, 9]]:
            self.bad("issuer", ONE, [issuer_with("town", [row], Group(23, 11, bases))])
        # The same bases in a larger group.
        self.bad("issuer", ONE, [issuer_with("town", [row], Group(47, 23, [2, 3, 4, 6, 8]))])
        self.bad("issuer", ONE, [Issuer("town", GROUP, [CLUB, MEMBER])])
        self.bad("issuer", ONE, [Issuer("town", GROUP, [])])
        for fields in [[("age", 4)], [("town", 3), ("age", 4)], [("age", 4), ("town", 4)], [("age", 4), ("city", 3)],
                       [("age", 4), ("town", 3), ("more", 2)]]:
            issuer = Issuer("town", GROUP, [Kind("person", fields)])
            grant(issuer, "person", 1, 2, [0 for _ in fields])
            self.bad("issuer", ONE, [issuer])
        # The fields under another name are another kind, too.
        self.bad("issuer", ONE, [Issuer("town", GROUP, [Kind("persons", PERSON.fields)])])

    def test_issuers_that_no_card_names(self):
        good = issuer_with("town", [("person", 1, 2, [3, 2])])
        other = Issuer("city", SMALL, [])
        for issuers in [[good, other], [other, good], [good, Issuer("other", GROUP, [PERSON])]]:
            question = question_of(GROUP, KINDS, read_policy(ONE, KINDS), issuers, 1)
            self.assertEqual(len(question.rows[0]), 1)

    def test_numbers_of_rows(self):
        for many in range(11):
            town = issuer_with("town", [("person", at, 2, [3, 2]) for at in range(many)])
            city = issuer_with("city", [("person", 1, 2, [3, 2]), ("club", 1, 2, [3])])
            if many == 0:
                self.bad("rows", ONE, [town, city])
            elif many > 8:
                self.bad("many", ONE, [town, city])
            else:
                self.assertEqual(len(ask(ONE, [town, city]).rows[0]), many)
            if many + 1 > 8:
                self.bad("many", ONE + " city", [town, city])
                self.bad("many", "card me person from city town", [town, city])
            else:
                self.assertEqual(len(ask(ONE + " city", [town, city]).rows[0]), many + 1)

    def test_rows_that_do_not_count(self):
        town = issuer_with("town", [("person", at, 2, [3, 2], 4) for at in range(9)])
        self.bad("rows", ONE, [town], day=3)
        self.bad("many", ONE, [town], day=4)
        self.bad("rows", "card me member from town", [town], day=4)
        town.revoke(3, 6)
        self.bad("many", ONE, [town], day=5)
        self.assertEqual(len(ask(ONE, [town], 6).rows[0]), 8)
        for index in [0, 1, 2, 4, 5, 6, 7, 8]:
            town.revoke(index, 7)
        self.assertEqual(len(ask(ONE, [town], 6).rows[0]), 8)
        self.bad("rows", ONE, [town], day=7)

    def test_order(self):
        narrow = Group(23, 11, [2, 3, 4])
        wide = [Kind("person", [("age", 12), ("town", 3)])]
        # Too few bases, too many values, no issuer.
        self.bad("bases", ONE, [], wide, narrow)
        self.bad("range", ONE, [], wide)
        # An issuer is missing, and the other one has no row or too many.
        self.bad("issuer", ONE + " city", [Issuer("town", GROUP, KINDS)])
        many = issuer_with("town", [("person", at, 2, [3, 2]) for at in range(9)])
        self.bad("issuer", ONE + " city", [many])
        self.bad("issuer", "card me person from city town", [many])
        self.bad("issuer", ONE + " city", [Issuer("town", GROUP, KINDS), Issuer("city", GROUP, [])])

    def test_first_card(self):
        kinds = [PERSON, CLUB, Kind("big", [("n", 12)]), Kind("long", [(name, 2) for name in "abcd"])]
        town = Issuer("town", GROUP, kinds)
        for at in range(9):
            grant(town, "club", at, 1, [0])
        cards = {"bases": "long from town", "range": "big from town", "issuer": "person from city",
                 "rows": "person from town", "many": "club from town"}
        for one, other in itertools.permutations(cards, 2):
            self.bad(one, f"card a {cards[one]} card b {cards[other]}", [town], kinds)
        grant(town, "person", 1, 1, [0, 0])
        for what in ["bases", "range", "issuer", "many"]:
            self.bad(what, f"card a person from town card b {cards[what]}", [town], kinds)
            self.bad(what, f"card a person from town card b person from town card c {cards[what]}", [town], kinds)


class PublicsTest(unittest.TestCase):

    def setUp(self):
        self.town, self.city = town_and_city()

    def question(self, text):
        return ask(text, [self.town, self.city], 6)

    def known(self, text, told, expected):
        for numbers in [told, tuple(told)]:
            found = publics(self.question(text), numbers)
            if expected is None:
                self.assertIsNone(found, (text, told))
            else:
                self.assertIs(type(found), dict)
                self.assertEqual(found, expected, (text, told))

    def test_nothing_is_known(self):
        self.known(ONE, [], {})
        self.known(ONE + " least me age 1 among me town 0 1", [], {})
        self.known(ONE + " same me age me town", [], {})
        # A value that only one number is left for is not among the known ones.
        self.known(ONE + " least me age 3 among me town 2", [], {})

    def test_told(self):
        for number in range(4):
            self.known(ONE + " tell me age", [number], {(0, 0): number})
        for number in range(3):
            self.known(ONE + " tell me town", [number], {(0, 1): number})
        self.known(ONE + " tell me town tell me age", [2, 3], {(0, 0): 3, (0, 1): 2})
        self.known(ONE + " card it club from city tell it level tell me age", [4, 3], {(1, 0): 4, (0, 0): 3})

    def test_equal(self):
        self.known(ONE + " equal me age 2", [], {(0, 0): 2})
        self.known(ONE + " equal me town 0 equal me age 3", [], {(0, 0): 3, (0, 1): 0})
        self.known(ONE + " equal me town 0 tell me age", [1], {(0, 0): 1, (0, 1): 0})

    def test_same(self):
        self.known(ONE + " same me age me town tell me age", [2], {(0, 0): 2, (0, 1): 2})
        self.known(ONE + " same me age me town tell me town", [2], {(0, 0): 2, (0, 1): 2})
        self.known(ONE + " equal me town 1 same me age me town", [], {(0, 0): 1, (0, 1): 1})

    def test_same_through_others_in_any_order(self):
        cards = "card a person from town card b person from town card c club from city"
        links = ["same a age b town", "same b town c level", "same b age c level"]
        everyone = {(0, 0): 2, (1, 0): 2, (1, 1): 2, (2, 0): 2}
        for given, told in [("equal c level 2", []), ("tell a age", [2]), ("equal a age 2", []), ("tell b age", [2]),
                            ("tell b town", [2])]:
            for order in itertools.permutations([*links, given]):
                self.known(f"{cards} {' '.join(order)}", told, everyone)
        for order in itertools.permutations(["same b town a age", "same c level b town", "same c level b age"]):
            self.known(f"{cards} equal b age 2 {' '.join(order)}", [], everyone)
            self.known(f"{cards} {' '.join(order)}", [], {})
            # A value that is no part of the chain stays unknown, and it makes no other one known.
            self.known(f"{cards} {' '.join(order)} tell a town", [1], {(0, 1): 1})

    def test_numbers_of_told_numbers(self):
        for text, many in [("", 0), (" tell me age", 1), (" tell me age tell me town", 2), (" equal me age 1", 0)]:
            for count in range(5):
                told = [1] * count
                found = publics(self.question(ONE + text), told)
                self.assertEqual(found is None, count != many, (text, told))

    def test_not_negative(self):
        self.known(ONE + " tell me age", [-1], None)
        self.known(ONE + " tell me age tell me town", [1, -3], None)
        self.known(ONE + " tell me age tell me town", [-11, 1], None)

    def test_below_the_number_of_values(self):
        self.known(ONE + " tell me age", [3], {(0, 0): 3})
        for number in [4, 5, 11, 14, 100]:
            self.known(ONE + " tell me age", [number], None)
        self.known(ONE + " tell me age tell me town", [3, 2], {(0, 0): 3, (0, 1): 2})
        self.known(ONE + " tell me age tell me town", [2, 3], None)
        self.known(ONE + " tell me town tell me age", [3, 2], None)

    def test_below_the_numbers_of_values_of_the_same(self):
        self.known(ONE + " same me age me town tell me age", [3], None)
        self.known(ONE + " same me town me age equal me age 3", [], None)
        self.known(ONE + " equal me age 2 same me town me age", [], {(0, 0): 2, (0, 1): 2})
        text = ONE + " card it club from city card you person from town tell it level"
        self.known(text + " same it level me age same me age you town", [3], None)
        self.known(text + " same it level me age same me age you town", [2], {(0, 0): 2, (1, 0): 2, (2, 1): 2})
        self.known(text + " same it level me age", [3], {(0, 0): 3, (1, 0): 3})
        self.known(text + " same it level me age", [4], None)

    def test_told_twice(self):
        self.known(ONE + " tell me age tell me age", [2, 2], {(0, 0): 2})
        self.known(ONE + " tell me age tell me age", [2, 1], None)
        self.known(ONE + " tell me age tell me town tell me age", [2, 1, 2], {(0, 0): 2, (0, 1): 1})
        self.known(ONE + " tell me age tell me town tell me age", [2, 1, 3], None)
        self.known(ONE + " tell me age tell me town same me age me town", [2, 2], {(0, 0): 2, (0, 1): 2})
        self.known(ONE + " tell me age tell me town same me age me town", [2, 1], None)

    def test_against_equal(self):
        self.known(ONE + " tell me age equal me age 2", [2], {(0, 0): 2})
        self.known(ONE + " tell me age equal me age 2", [1], None)
        self.known(ONE + " equal me age 2 tell me age", [1], None)
        self.known(ONE + " equal me age 2 equal me age 2", [], {(0, 0): 2})
        self.known(ONE + " equal me age 2 equal me age 1", [], None)
        self.known(ONE + " equal me age 2 equal me town 1 same me age me town", [], None)
        self.known(ONE + " same me age me town equal me age 1 tell me town", [1], {(0, 0): 1, (0, 1): 1})
        self.known(ONE + " same me age me town equal me age 1 tell me town", [0], None)

    def test_against_least(self):
        for number in range(4):
            expected = {(0, 0): number} if number >= 2 else None
            self.known(ONE + " least me age 2 tell me age", [number], expected)
            self.known(f"{ONE} equal me age {number} least me age 2", [], expected)
            self.known(ONE + " least me town 2 tell me age", [number], {(0, 0): number})
        for number in range(3):
            expected = {(0, 0): number, (0, 1): number} if number >= 1 else None
            self.known(ONE + " tell me age same me age me town least me town 1", [number], expected)

    def test_against_among(self):
        for number in range(4):
            expected = {(0, 0): number} if number in (0, 2) else None
            self.known(ONE + " among me age 0 2 tell me age", [number], expected)
            self.known(f"{ONE} equal me age {number} among me age 0 2", [], expected)
            self.known(ONE + " among me town 0 2 tell me age", [number], {(0, 0): number})
            expected = {(0, 0): number} if number == 2 else None
            self.known(ONE + " among me age 0 2 among me age 1 2 tell me age", [number], expected)

    def test_made_by_hand(self):
        # Numbers beyond the values of a field do not agree, wherever they come from.
        policy = Policy([("me", "person", ["town"])], [("equal", "me", "age", 4)])
        question = question_of(GROUP, KINDS, policy, [self.town], 5)
        self.assertIsNone(publics(question, []))

    def test_arguments_stay_as_they_are(self):
        told = [2, 1]
        question = self.question(ONE + " tell me age tell me town")
        first = publics(question, told)
        self.assertEqual(told, [2, 1])
        first[0, 0] = 9
        self.assertEqual(publics(question, told), {(0, 0): 2, (0, 1): 1})


def rows_choice(question, card, fresh):
    """The choice for the row of a card, as point [21] tells it."""
    return [Claim(Statement(["d"], [(divided(question.group, fresh, (row, 1)), [(question.group.bases[0], "d")])]), [])
            for _, _, row in question.rows[card]]


def branch(unknowns, number, factors):
    return Claim(Statement(unknowns, [(number, factors)]), [])


class ClaimOfTest(unittest.TestCase):

    def setUp(self):
        self.town, self.city = town_and_city()

    def question(self, text):
        return ask(text, [self.town, self.city], 6)

    def check(self, text, fresh, known, statement, choices):
        question = self.question(text)
        rows = [rows_choice(question, card, element) for card, element in enumerate(fresh)]
        for given in [fresh, tuple(fresh)]:
            made = claim_of(question, given, known)
            self.assertIs(type(made), Claim)
            self.assertEqual(made.statement.unknowns, statement.unknowns)
            self.assertEqual(made.statement.equations, statement.equations)
            self.assertEqual(len(made.choices), len(fresh) + len(choices))
            self.assertIs(made == Claim(statement, rows + choices), True)

    def test_nothing_known(self):
        for fresh in [1, 2, 13, 18]:
            self.check(ONE, [fresh], {}, Statement(
                ["s", "f0", "v00", "v01"],
                [(fresh, [(2, "f0"), (3, "s"), (4, "v00"), (6, "v01")])]), [])

    def test_rows_in_full(self):
        claim = claim_of(self.question("card me club from city town"), [8], {})
        rows = [element(2, 9, 4), element(9, 7, 0), element(4, 7, 3)]
        self.assertEqual(len(claim.choices), 1)
        self.assertEqual(len(claim.choices[0]), 3)
        for made, row in zip(claim.choices[0], rows):
            self.assertEqual(made.statement.unknowns, ("d",))
            self.assertEqual(made.statement.equations, ((8 * pow(row, -1, 23) % 23, ((2, "d"),)),))
            self.assertEqual(made.choices, ())

    def test_without_fields(self):
        self.check("card me member from town", [6], {}, Statement(["s", "f0"], [(6, [(2, "f0"), (3, "s")])]), [])

    def test_known_values_are_divided_out(self):
        self.check(ONE + " tell me age", [9], {(0, 0): 3}, Statement(
            ["s", "f0", "v01"], [(divided(GROUP, 9, (4, 3)), [(2, "f0"), (3, "s"), (6, "v01")])]), [])
        self.check(ONE + " equal me town 2", [9], {(0, 1): 2}, Statement(
            ["s", "f0", "v00"], [(divided(GROUP, 9, (6, 2)), [(2, "f0"), (3, "s"), (4, "v00")])]), [])
        self.check(ONE + " tell me age tell me town", [9], {(0, 0): 1, (0, 1): 2}, Statement(
            ["s", "f0"], [(divided(GROUP, 9, (4, 1), (6, 2)), [(2, "f0"), (3, "s")])]), [])

    def test_several_cards(self):
        text = "card a club from city card b member from town card c pass from city tell c price"
        self.check(text, [9, 3, 4], {(2, 1): 4}, Statement(
            ["s", "f0", "v00", "f1", "f2", "v20", "v22"],
            [(9, [(2, "f0"), (3, "s"), (4, "v00")]),
             (3, [(2, "f1"), (3, "s")]),
             (divided(GROUP, 4, (6, 4)), [(2, "f2"), (3, "s"), (4, "v20"), (8, "v22")])]), [])

    def test_shared_names_in_one_card(self):
        self.check("card me pass from city same me kind me zone", [9], {}, Statement(
            ["s", "f0", "v00", "v01"],
            [(9, [(2, "f0"), (3, "s"), (4, "v00"), (6, "v01"), (8, "v00")])]), [])
        self.check("card me pass from city same me price me kind same me zone me price", [9], {}, Statement(
            ["s", "f0", "v00"], [(9, [(2, "f0"), (3, "s"), (4, "v00"), (6, "v00"), (8, "v00")])]), [])

    def test_shared_names_between_cards(self):
        cards = "card a person from town card b pass from city card c club from city"
        statement = Statement(
            ["s", "f0", "v00", "v01", "f1", "v10", "v12", "f2"],
            [(9, [(2, "f0"), (3, "s"), (4, "v00"), (6, "v01")]),
             (3, [(2, "f1"), (3, "s"), (4, "v10"), (6, "v01"), (8, "v12")]),
             (4, [(2, "f2"), (3, "s"), (4, "v01")])])
        for order in itertools.permutations(["same a town b price", "same c level b price"]):
            self.check(f"{cards} {' '.join(order)}", [9, 3, 4], {}, statement, [])
        for order in itertools.permutations(["same b price a town", "same b price c level", "same c level a town"]):
            self.check(f"{cards} {' '.join(order)}", [9, 3, 4], {}, statement, [])
        self.check(cards + " same c level b kind same b zone a age", [9, 3, 4], {}, Statement(
            ["s", "f0", "v00", "v01", "f1", "v11", "v12", "f2"],
            [(9, [(2, "f0"), (3, "s"), (4, "v00"), (6, "v01")]),
             (3, [(2, "f1"), (3, "s"), (4, "v00"), (6, "v11"), (8, "v12")]),
             (4, [(2, "f2"), (3, "s"), (4, "v12")])]), [])

    def test_shared_name_is_the_first_one_as_a_text(self):
        # Beyond the limit of three cards: "v100" is before "v20", and stands where "v20" is met.
        names = "abcdefghijk"
        cards = [(name, "club", ("city",)) for name in names]
        policy = Policy(cards, [("same", "k", "level", "c", "level")])
        question = question_of(GROUP, KINDS, policy, [self.city], 6)
        statement = claim_of(question, [1] * 11, {}).statement
        self.assertEqual(statement.unknowns, (
            "s", "f0", "v00", "f1", "v10", "f2", "v100", "f3", "v30", "f4", "v40", "f5", "v50", "f6", "v60",
            "f7", "v70", "f8", "v80", "f9", "v90", "f10"))
        self.assertEqual(statement.equations[2], (1, ((2, "f2"), (3, "s"), (4, "v100"))))
        self.assertEqual(statement.equations[10], (1, ((2, "f10"), (3, "s"), (4, "v100"))))

    def test_known_ones_of_the_same(self):
        text = "card a person from town card b club from city same a town b level tell a town"
        self.check(text, [9, 3], {(0, 1): 2, (1, 0): 2}, Statement(
            ["s", "f0", "v00", "f1"],
            [(divided(GROUP, 9, (6, 2)), [(2, "f0"), (3, "s"), (4, "v00")]),
             (divided(GROUP, 3, (4, 2)), [(2, "f1"), (3, "s")])]), [])

    def test_least(self):
        for low in range(4):
            branches = [branch(["r", "s", "v1"], divided(GROUP, 9, (4, number)), [(2, "r"), (3, "s"), (6, "v1")])
                        for number in range(low, 4)]
            self.check(f"{ONE} least me age {low}", [9], {}, Statement(
                ["s", "f0", "v00", "v01"], [(9, [(2, "f0"), (3, "s"), (4, "v00"), (6, "v01")])]), [branches])

    def test_among(self):
        for numbers in [(0,), (1, 2), (0, 2), (0, 1, 2)]:
            branches = [branch(["r", "s", "v0"], divided(GROUP, 9, (6, number)), [(2, "r"), (3, "s"), (4, "v0")])
                        for number in numbers]
            self.check(f"{ONE} among me town {' '.join(map(str, numbers))}", [9], {}, Statement(
                ["s", "f0", "v00", "v01"], [(9, [(2, "f0"), (3, "s"), (4, "v00"), (6, "v01")])]), [branches])

    def test_other_fields_of_branches(self):
        # Known values and shared names of the statement do not matter in the branches.
        statement = Statement(
            ["s", "f0", "v01"],
            [(divided(GROUP, 9, (4, 1)), [(2, "f0"), (3, "s"), (6, "v01"), (8, "v01")])])
        middle = [branch(["r", "s", "v0", "v2"], divided(GROUP, 9, (6, number)),
                         [(2, "r"), (3, "s"), (4, "v0"), (8, "v2")]) for number in [3, 4]]
        last = [branch(["r", "s", "v0", "v1"], divided(GROUP, 9, (8, number)),
                       [(2, "r"), (3, "s"), (4, "v0"), (6, "v1")]) for number in [0, 2]]
        text = "card me pass from city equal me zone 1 same me kind me price"
        self.check(text + " least me price 3", [9], {(0, 0): 1}, statement, [middle])
        self.check(text + " among me kind 0 2", [9], {(0, 0): 1}, statement, [last])
        self.check(text + " among me kind 0 2 least me price 3", [9], {(0, 0): 1}, statement, [last, middle])
        self.check(text + " least me price 3 among me kind 0 2 least me price 3", [9], {(0, 0): 1}, statement,
                   [middle, last, middle])

    def test_order_of_choices_is_that_of_conditions(self):
        text = "card a club from city card b club from town least b level 3 equal a level 1 among b level 0 4"
        statement = Statement(
            ["s", "f0", "f1", "v10"],
            [(divided(GROUP, 9, (4, 1)), [(2, "f0"), (3, "s")]), (3, [(2, "f1"), (3, "s"), (4, "v10")])])

        def branches(fresh, numbers):
            return [branch(["r", "s"], divided(GROUP, fresh, (4, number)), [(2, "r"), (3, "s")]) for number in numbers]

        self.check(text, [9, 3], {(0, 0): 1}, statement, [branches(3, [3, 4]), branches(3, [0, 4])])
        text = "card a club from city card b club from town least b level 3 among a level 2"
        self.check(text, [9, 3], {}, Statement(
            ["s", "f0", "v00", "f1", "v10"],
            [(9, [(2, "f0"), (3, "s"), (4, "v00")]), (3, [(2, "f1"), (3, "s"), (4, "v10")])]),
            [branches(3, [3, 4]), branches(9, [2])])

    def test_conditions_on_known_values_have_no_choice(self):
        self.check(ONE + " least me age 1 tell me age among me age 0 2 3", [9], {(0, 0): 2}, Statement(
            ["s", "f0", "v01"], [(divided(GROUP, 9, (4, 2)), [(2, "f0"), (3, "s"), (6, "v01")])]), [])

    def test_what_belongs_to_no_answer(self):
        # Known numbers that contradict the conditions, or each other; fresh commitments of nobody.
        self.check(ONE + " least me age 1 tell me age same me age me town", [18], {(0, 0): 0, (0, 1): 15}, Statement(
            ["s", "f0"], [(divided(GROUP, 18, (4, 0), (6, 15)), [(2, "f0"), (3, "s")])]), [])
        # Nothing is known, although the policy has something told.
        self.check(ONE + " tell me age least me age 3", [13], {}, Statement(
            ["s", "f0", "v00", "v01"], [(13, [(2, "f0"), (3, "s"), (4, "v00"), (6, "v01")])]),
            [[branch(["r", "s", "v1"], divided(GROUP, 13, (4, 3)), [(2, "r"), (3, "s"), (6, "v1")])]])

    def test_arguments_stay_as_they_are(self):
        fresh, known = [9], {(0, 0): 2}
        claim_of(self.question(ONE + " tell me age least me town 1"), fresh, known)
        self.assertEqual((fresh, known), ([9], {(0, 0): 2}))

    def test_other_groups(self):
        town = issuer_with("town", [("person", 1, 2, [3, 2])], SMALL)
        question = ask(ONE + " least me age 2 tell me town", [town])
        row = commit(SMALL, [1, 2, 3, 2])
        branches = [branch(["r", "s", "v1"], divided(SMALL, 4, (4, number)), [(3, "r"), (5, "s"), (9, "v1")])
                    for number in [2, 3]]
        expected = Claim(
            Statement(["s", "f0", "v00"], [(divided(SMALL, 4, (9, 2)), [(3, "f0"), (5, "s"), (4, "v00")])]),
            [[branch(["d"], divided(SMALL, 4, (row, 1)), [(3, "d")])], branches])
        self.assertIs(claim_of(question, [4], {(0, 1): 2}) == expected, True)


if __name__ == "__main__":
    unittest.main()
