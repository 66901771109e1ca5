"""Tests of vouchdoor.wallet: requests, holdings and picks (points [14], [15] and [20])."""

import itertools
import unittest

from tests.helpers import (CLUB, GROUP, KINDS, MEMBER, PERSON, SMALL, ask, grant, issuer_with, only_tuples)
from vouchdoor.claim import answer, first_move
from vouchdoor.errors import BadRequest
from vouchdoor.group import Group, commit
from vouchdoor.issuer import Issuer, Kind, asking
from vouchdoor.showing import Pick, answers
from vouchdoor.wallet import Wallet

BOTH = "card me person from town city"
PAIR = "card me person from town city card it person from city town"


class WalletTest(unittest.TestCase):

    def test_fields(self):
        wallet = Wallet(GROUP, 7)
        self.assertEqual(wallet.group, GROUP)
        self.assertEqual(wallet.secret, 7)
        self.assertEqual(wallet.holdings, [])
        self.assertIs(type(wallet.holdings), list)
        self.assertIsNot(Wallet(GROUP, 7).holdings, wallet.holdings)

    def test_request(self):
        for group in [GROUP, SMALL, Group(23, 11, [18, 9])]:
            for secret, randomness in itertools.product([0, 1, 3, group.q - 1], repeat=2):
                wallet = Wallet(group, secret)
                for tape in [[2, 4], (0, 0), [group.q - 1, 1]]:
                    made = wallet.ask(randomness, tape)
                    self.assertTrue(only_tuples(made))
                    element, first = made
                    self.assertEqual(element, commit(group, [randomness, secret]))
                    claim, witness = asking(group, element), ((randomness, secret), ())
                    expected = (tuple(tape), ())
                    self.assertEqual(first, first_move(group, claim, witness, expected))
                    for challenge in range(group.q):
                        self.assertEqual(wallet.reply(randomness, tape, challenge),
                                         answer(group, claim, witness, expected, challenge))
        self.assertEqual(wallet.holdings, [])

    def test_issuers_grant_requests(self):
        wallet, issuer = Wallet(GROUP, 7), Issuer("town", GROUP, KINDS)
        for challenge in range(11):
            number = issuer.ask("person", *wallet.ask(5, [2, 4]))
            issuer.challenge(number, challenge)
            index = issuer.grant(number, wallet.reply(5, [2, 4], challenge), [3, 1], 8)
            self.assertEqual(index, challenge)
            self.assertEqual(issuer.book[index], ("person", commit(GROUP, [5, 7, 3, 1]), 8, None))

    def test_issuers_refuse_replies_of_others(self):
        wallet = Wallet(GROUP, 7)
        for other, randomness, tape, challenge in [
                (Wallet(GROUP, 8), 5, [2, 4], 6), (wallet, 4, [2, 4], 6), (wallet, 5, [3, 4], 6),
                (wallet, 5, [2, 5], 6), (wallet, 5, [2, 4], 7)]:
            issuer = Issuer("town", GROUP, KINDS)
            number = issuer.ask("person", *wallet.ask(5, [2, 4]))
            issuer.challenge(number, 6)
            with self.assertRaises(BadRequest) as caught:
                issuer.grant(number, other.reply(randomness, tape, challenge), [3, 1], 8)
            self.assertEqual(caught.exception.what, "reply")
            self.assertEqual(issuer.book, [])

    def test_keep(self):
        wallet = Wallet(GROUP, 7)
        values = [3, 1]
        self.assertIsNone(wallet.keep("town", 4, "person", 5, values))
        wallet.keep("city", 0, "member", 1, ())
        wallet.keep("town", 4, "person", 5, (3, 1))
        values[0] = 2
        values.append(1)
        self.assertEqual(wallet.holdings, [("town", 4, "person", 5, (3, 1)), ("city", 0, "member", 1, ()),
                                           ("town", 4, "person", 5, (3, 1))])
        self.assertTrue(all(only_tuples(holding) for holding in wallet.holdings))


class PicksTest(unittest.TestCase):

    def setUp(self):
        self.town = issuer_with("town", [
            ("person", 1, 7, [3, 2]), ("club", 2, 7, [1]), ("person", 3, 9, [0, 0]), ("person", 4, 7, [1, 1]),
            ("member", 5, 7, [])])
        self.city = issuer_with("city", [("person", 6, 7, [2, 1]), ("person", 7, 9, [3, 0]), ("club", 8, 7, [4])])
        self.all = {
            "town0": ("town", 0, "person", 1, (3, 2)), "town1": ("town", 1, "club", 2, (1,)),
            "town3": ("town", 3, "person", 4, (1, 1)), "town4": ("town", 4, "member", 5, ()),
            "city0": ("city", 0, "person", 6, (2, 1)), "city2": ("city", 2, "club", 8, (4,))}
        self.pick = {"town0": Pick(0, 1, (3, 2)), "town3": Pick(2, 4, (1, 1)), "city0": Pick(3, 6, (2, 1))}

    def picks(self, text, *names):
        """What a wallet with some of the holdings picks."""
        wallet = Wallet(GROUP, 7)
        for name in names:
            wallet.keep(*self.all[name])
        holdings = list(wallet.holdings)
        question = ask(text, [self.town, self.city])
        found = wallet.picks(question)
        self.assertEqual(wallet.holdings, holdings)
        if found is not None:
            self.assertIs(type(found), list)
            self.assertEqual(len(found), len(question.policy.cards))
            self.assertTrue(all(type(pick) is Pick for pick in found))
            self.assertTrue(answers(question, found))
        return found

    def test_none(self):
        self.assertIsNone(self.picks(BOTH))
        self.assertIsNone(self.picks(BOTH, "town1", "town4", "city2"))
        self.assertIsNone(self.picks(BOTH + " equal me age 0", "town0", "town3", "city0"))
        self.assertIsNone(self.picks("card me person from town", "city0"))
        self.assertIsNone(self.picks("card me club from town city", "town0", "town3"))

    def test_one(self):
        self.assertEqual(self.picks(BOTH, "town1", "town3", "city2"), [self.pick["town3"]])
        self.assertEqual(self.picks(BOTH, "city0"), [self.pick["city0"]])
        self.assertEqual(self.picks("card me person from city town", "city0"), [Pick(0, 6, (2, 1))])
        self.assertEqual(self.picks("card me person from city town", "town3"), [Pick(4, 4, (1, 1))])
        self.assertEqual(self.picks("card me member from town", "town4"), [Pick(0, 5, ())])
        self.assertEqual(self.picks("card me club from town city", *self.all), [Pick(0, 2, (1,))])
        self.assertEqual(self.picks("card me club from city", *self.all), [Pick(0, 8, (4,))])

    def test_first_that_satisfies_the_conditions(self):
        for order in itertools.permutations(["town0", "town3", "city0"]):
            self.assertEqual(self.picks(BOTH, *order), [self.pick[order[0]]])
            for conditions, good in [("equal me town 1", ["town3", "city0"]), ("least me age 2", ["town0", "city0"]),
                                     ("among me age 1 3", ["town0", "town3"]), ("same me age me town", ["town3"]),
                                     ("tell me age", ["town0", "town3", "city0"]), ("equal me age 2", ["city0"])]:
                first = [name for name in order if name in good][0]
                self.assertEqual(self.picks(f"{BOTH} {conditions}", *order), [self.pick[first]])

    def test_earlier_card_counts_first(self):
        # The second card has its rows in another order: those of city are ahead.
        second = {"town0": Pick(2, 1, (3, 2)), "town3": Pick(4, 4, (1, 1)), "city0": Pick(0, 6, (2, 1))}
        for order in itertools.permutations(["town0", "town3", "city0"]):
            self.assertEqual(self.picks(PAIR, *order), [self.pick[order[0]], second[order[0]]])
            # Only these two pairs do: of the first card the earlier one, although the second card's is later.
            pairs = [("town3", "city0"), ("city0", "town3"), ("town3", "town3"), ("city0", "city0")]
            found = self.picks(PAIR + " same me town it town among me age 1 2", *order)
            first = [name for name in order if name != "town0"][0]
            self.assertIn((first, first), pairs)
            self.assertEqual(found, [self.pick[first], second[first]])
            found = self.picks(PAIR + " least me age 2 among it age 1 3", *order)
            one = [name for name in order if name != "town3"][0]
            other = [name for name in order if name != "city0"][0]
            self.assertEqual(found, [self.pick[one], second[other]])

    def test_conditions_between_cards(self):
        text = "card me person from town city card it club from town city same me town it level"
        club = Pick(0, 2, (1,))
        for order in itertools.permutations(["town0", "town3", "city0", "town1", "city2"]):
            first = [name for name in order if name in ("town3", "city0")][0]
            self.assertEqual(self.picks(text, *order), [self.pick[first], club])
        self.assertIsNone(self.picks(text, "town0", "town1", "city2"))
        self.assertIsNone(self.picks(text, "town3", "city2"))
        # The first holding for the first card fits to none for the second card.
        text = PAIR + " same me age it town"
        self.assertEqual(self.picks(text, "town0", "city0", "town3"), [self.pick["city0"], Pick(2, 1, (3, 2))])
        self.assertEqual(self.picks(text, "town0", "town3", "city0"), [self.pick["town3"], Pick(4, 4, (1, 1))])

    def test_against_all_combinations(self):
        conditions = ["least b age 2", "same a town b town", "among c age 1 2", "same b town c age", "equal a age 3"]
        cards = "card a person from town city card b person from city town card c person from town"
        rows = [{"town0": 0, "town3": 2, "city0": 3}, {"city0": 0, "town0": 2, "town3": 4}, {"town0": 0, "town3": 2}]
        for many in range(4):
            for some in itertools.combinations(conditions, many):
                for order in itertools.permutations(["town0", "town3", "city0"]):
                    text = f"{cards} {' '.join(some)}".strip()
                    question = ask(text, [self.town, self.city])
                    expected = None
                    for names in itertools.product(order, repeat=3):
                        if names[2] == "city0":
                            continue
                        made = [Pick(places[name], *self.all[name][3:]) for places, name in zip(rows, names)]
                        if answers(question, made):
                            expected = made
                            break
                    self.assertEqual(self.picks(text, *order), expected)

    def test_one_holding_for_several_cards(self):
        text = "card a person from town card b person from city town card c person from town city"
        self.assertEqual(self.picks(text, "town3"), [Pick(2, 4, (1, 1)), Pick(4, 4, (1, 1)), Pick(2, 4, (1, 1))])

    def test_holdings_of_other_rows(self):
        question = ask(BOTH, [self.town, self.city])
        good = ("town", 3, "person", 4, (1, 1))
        for other in [("village", 3, "person", 4, (1, 1)), ("town", 1, "person", 4, (1, 1)),
                      ("town", 4, "person", 4, (1, 1)), ("town", 9, "person", 4, (1, 1)),
                      ("town", -2, "person", 4, (1, 1)), ("city", 3, "person", 4, (1, 1)),
                      ("town", 3, "club", 4, (1,)), ("town", 3, "member", 4, ()), ("me", 3, "person", 4, (1, 1))]:
            wallet = Wallet(GROUP, 7)
            wallet.keep(*other)
            self.assertIsNone(wallet.picks(question), other)
            wallet.keep(*good)
            self.assertEqual(wallet.picks(question), [Pick(2, 4, (1, 1))])

    def test_rows_of_another_card(self):
        """The row has to be one of the card itself: otherwise it has no index there."""
        text = "card me person from town card it person from city"
        self.assertIsNone(self.picks(text, "city0"))
        self.assertIsNone(self.picks(text, "town0"))
        self.assertEqual(self.picks(text, "city0", "town0"), [Pick(0, 1, (3, 2)), Pick(0, 6, (2, 1))])

    def test_rows_that_do_not_count(self):
        self.town.revoke(0, 1)
        grant(self.town, "person", 2, 7, [1, 0], 2)
        self.assertIsNone(self.picks(BOTH, "town0"))
        self.assertEqual(self.picks(BOTH, "town0", "town3"), [Pick(1, 4, (1, 1))])
        wallet = Wallet(GROUP, 7)
        wallet.keep("town", 5, "person", 2, [1, 0])
        self.assertIsNone(wallet.picks(ask(BOTH, [self.town, self.city], 1)))
        self.assertEqual(wallet.picks(ask(BOTH, [self.town, self.city], 2)), [Pick(2, 2, (1, 0))])

    def test_holdings_need_not_open_their_rows(self):
        wallet = Wallet(GROUP, 3)
        wallet.keep("town", 0, "person", 9, [2, 2])
        wallet.keep("town", 0, "person", 1, [3, 2])
        question = ask(BOTH, [self.town, self.city])
        self.assertEqual(wallet.picks(question), [Pick(0, 9, (2, 2))])
        question = ask(BOTH + " equal me age 3", [self.town, self.city])
        self.assertEqual(wallet.picks(question), [Pick(0, 1, (3, 2))])


class OpensTest(unittest.TestCase):

    def setUp(self):
        self.town = issuer_with("town", [("club", 2, 7, [1]), ("person", 1, 7, [3, 2]), ("member", 5, 7, []),
                                         ("person", 1, 7, [3, 2]), ("person", 1, 8, [3, 2])])
        self.wallet = Wallet(GROUP, 7)
        self.holding = ("town", 1, "person", 1, (3, 2))

    def opens(self, holding, kinds=KINDS, issuer=None, wallet=None):
        wallet = self.wallet if wallet is None else wallet
        found = wallet.opens(kinds, self.town if issuer is None else issuer, holding)
        self.assertIs(type(found), bool)
        return found

    def test_opens(self):
        for holding in [self.holding, ("town", 0, "club", 2, (1,)), ("town", 2, "member", 5, ()),
                        ("town", 3, "person", 1, (3, 2))]:
            self.assertTrue(self.opens(holding))
            self.assertTrue(self.opens(holding, tuple(KINDS)))
            self.wallet.keep(*holding)
            self.assertTrue(self.opens(self.wallet.holdings[-1]))
        self.assertTrue(self.opens(("town", 4, "person", 1, (3, 2)), wallet=Wallet(GROUP, 8)))
        self.assertTrue(self.opens(self.holding, [PERSON]))

    def test_revoked(self):
        self.town.revoke(1, 0)
        self.assertTrue(self.opens(self.holding))
        self.assertTrue(self.opens(("town", 3, "person", 1, (3, 2))))

    def test_changed(self):
        for other in [("city", 1, "person", 1, (3, 2)), ("town", 0, "person", 1, (3, 2)),
                      ("town", 2, "person", 1, (3, 2)), ("town", 4, "person", 1, (3, 2)),
                      ("town", 1, "club", 1, (3, 2)), ("town", 1, "club", 1, (3,)), ("town", 1, "member", 1, ()),
                      ("town", 1, "person", 2, (3, 2)), ("town", 1, "person", 0, (3, 2)),
                      ("town", 1, "person", 1, (2, 2)), ("town", 1, "person", 1, (3, 1)),
                      ("town", 1, "person", 1, (2, 3)), ("town", 1, "person", 1, (3,)), ("town", 1, "person", 1, ()),
                      ("town", 1, "person", 1, (3, 2, 0)), ("town", 1, "person", 1, (3, 2, 1))]:
            self.assertFalse(self.opens(other), other)
        self.assertFalse(self.opens(self.holding, wallet=Wallet(GROUP, 8)))

    def test_indexes(self):
        for index in range(-8, 12):
            self.assertEqual(self.opens(("town", index, "person", 1, (3, 2))), index in (1, 3), index)
        self.assertFalse(self.opens(("town", 0, "person", 1, (3, 2)), issuer=Issuer("town", GROUP, KINDS)))

    def test_numbers_of_values(self):
        # Values of 0 do not change the commitment, but their number counts.
        town = issuer_with("town", [("person", 1, 7, [3, 0]), ("club", 2, 7, [0]), ("member", 3, 7, [])])
        self.assertTrue(self.opens(("town", 0, "person", 1, (3, 0)), issuer=town))
        self.assertFalse(self.opens(("town", 0, "person", 1, (3,)), issuer=town))
        self.assertFalse(self.opens(("town", 0, "person", 1, (3, 0, 0)), issuer=town))
        self.assertFalse(self.opens(("town", 1, "club", 2, ()), issuer=town))
        self.assertFalse(self.opens(("town", 1, "club", 2, (0, 0)), issuer=town))
        self.assertFalse(self.opens(("town", 2, "member", 3, (0,)), issuer=town))

    def test_kinds(self):
        self.assertFalse(self.opens(self.holding, [CLUB, MEMBER]))
        self.assertFalse(self.opens(self.holding, []))
        # The kind in the list tells how many values there are.
        self.assertFalse(self.opens(self.holding, [Kind("person", [("age", 4)])]))
        longer = [Kind("person", [("age", 4), ("town", 3), ("more", 2)])]
        self.assertFalse(self.opens(self.holding, longer))
        self.assertTrue(self.opens(("town", 1, "person", 1, (3, 2, 0)), longer))

    def test_rows_of_another_kind(self):
        issuer = Issuer("town", GROUP, [Kind("one", [("age", 4)]), Kind("other", [("age", 4)])])
        grant(issuer, "one", 1, 7, [2])
        self.assertTrue(self.opens(("town", 0, "one", 1, (2,)), issuer.kinds, issuer))
        self.assertFalse(self.opens(("town", 0, "other", 1, (2,)), issuer.kinds, issuer))

    def test_other_issuers(self):
        rows = [("club", 2, 7, [1]), ("person", 1, 7, [3, 2])]
        self.assertTrue(self.opens(self.holding, issuer=issuer_with("town", rows)))
        self.assertFalse(self.opens(self.holding, issuer=issuer_with("city", rows)))
        for bases in [[2, 3, 4, 6], [2, 3, 4, 6, 9], [2, 3, 4, 6, 8, 9]]:
            # The row is the same number, but in another group.
            issuer = issuer_with("town", rows, Group(23, 11, bases))
            self.assertEqual(issuer.book[1][1], self.town.book[1][1])
            self.assertFalse(self.opens(self.holding, issuer=issuer))
            self.assertTrue(self.opens(self.holding, issuer=issuer, wallet=Wallet(Group(23, 11, bases), 7)))

    def test_more_values_than_bases(self):
        """Behind the last base there is no value, whatever it may be."""
        group = Group(23, 11, [2, 3, 4])
        issuer = issuer_with("town", [("club", 2, 7, [1])], group)
        kinds = [Kind("club", [("level", 5), ("more", 3)])]
        for more in range(3):
            self.assertFalse(self.opens(("town", 0, "club", 2, (1, more)), kinds, issuer, Wallet(group, 7)))
        self.assertTrue(self.opens(("town", 0, "club", 2, (1,)), [CLUB], issuer, Wallet(group, 7)))

    def test_nothing_changes(self):
        book, kinds = list(self.town.book), list(KINDS)
        self.opens(self.holding, kinds)
        self.assertEqual((self.town.book, kinds, self.wallet.holdings), (book, KINDS, []))


if __name__ == "__main__":
    unittest.main()
