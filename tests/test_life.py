"""Tests over the whole program: the life of credentials, and what holds for all of it (point [1])."""

import copy
import unittest

from tests.helpers import GROUP, KINDS, ask
from vouchdoor.errors import BadQuestion
from vouchdoor.group import commit
from vouchdoor.issuer import Issuer
from vouchdoor.showing import Door, Holder, Pick, other_tape, shown, tape_count
from vouchdoor.wallet import Wallet


def give(wallet, issuer, kind, randomness, values, day):
    """A credential is asked for, granted and kept; its index in the book is returned."""
    tape = [randomness + 3, 4]
    element, first = wallet.ask(randomness, tape)
    number = issuer.ask(kind, element, first)
    issuer.challenge(number, 6)
    index = issuer.grant(number, wallet.reply(randomness, tape, 6), values, day)
    wallet.keep(issuer.name, index, kind, randomness, values)
    return index


def show(wallet, question, challenge):
    """The view of a door that a wallet answers, with whether it accepted."""
    picks = wallet.picks(question)
    tape = [(5 * at + 2) % question.group.q for at in range(tape_count(question, picks))]
    holder, door = Holder(question, wallet.secret, picks, tape), Door(question)
    fresh, told, first = holder.begin()
    door.begin(fresh, told, first)
    door.challenge(challenge)
    replied = holder.reply(challenge)
    return door.finish(replied), (fresh, told, first, challenge, replied), tape


def state_of(thing):
    """All that a thing consists of, as plain data."""
    if isinstance(thing, (list, tuple)):
        return [type(thing).__name__] + [state_of(part) for part in thing]
    if isinstance(thing, dict):
        return [(state_of(key), state_of(thing[key])) for key in thing]
    return state_of(vars(thing)) if hasattr(thing, "__dict__") else thing


class LifeTest(unittest.TestCase):

    def setUp(self):
        self.town, self.city = Issuer("town", GROUP, KINDS), Issuer("city", GROUP, KINDS)
        self.ann, self.bob = Wallet(GROUP, 7), Wallet(GROUP, 9)

    def question(self, text, day):
        return ask(text, [self.town, self.city], day)

    def test_life(self):
        text = "card me person from town city tell me town least me age 2"
        with self.assertRaises(BadQuestion):
            self.question(text, 3)
        # Granted to both, at the days 3 and 4.
        self.assertEqual(give(self.ann, self.town, "person", 5, [2, 1], 3), 0)
        self.assertEqual(give(self.bob, self.town, "person", 8, [3, 1], 4), 1)
        for wallet in [self.ann, self.bob]:
            self.assertTrue(wallet.opens(KINDS, self.town, wallet.holdings[0]))
            self.assertFalse(wallet.opens(KINDS, self.city, wallet.holdings[0]))
        self.assertFalse(self.ann.opens(KINDS, self.town, self.bob.holdings[0]))
        # At day 3 only one of them can answer.
        self.assertEqual(self.bob.picks(self.question(text, 3)), None)
        self.assertEqual(self.ann.picks(self.question(text, 3)), [Pick(0, 5, (2, 1))])
        question = self.question(text, 4)
        for wallet, pick in [(self.ann, Pick(0, 5, (2, 1))), (self.bob, Pick(1, 8, (3, 1)))]:
            self.assertEqual(wallet.picks(question), [pick])
            for challenge in range(11):
                accepted, view, tape = show(wallet, question, challenge)
                self.assertTrue(accepted)
                self.assertEqual(view[1], (1,))
                self.assertEqual(other_tape(question, view, wallet.secret, wallet.picks(question)), tape)
        # The view does not tell whose it is: the other one could have given it, too.
        _, view, _ = show(self.ann, question, 6)
        tape = other_tape(question, view, self.bob.secret, self.bob.picks(question))
        holder = Holder(question, self.bob.secret, self.bob.picks(question), tape)
        self.assertEqual((*holder.begin(), 6, holder.reply(6)), view)
        # Two replies for one first message show whose it is.
        _, again, _ = show(self.ann, question, 7)
        self.assertEqual(again[:3], view[:3])
        self.assertEqual(shown(question, *view[:2], view[3:], again[3:]), ("openings", ((0, (5, 7, 2, 1)),)))
        # Revoked at day 6: counts until day 5, and then no longer.
        self.town.revoke(0, 6)
        self.assertEqual(self.question(text, 5).rows, question.rows)
        later = self.question(text, 6)
        self.assertEqual(later.rows, ((("town", 1, commit(GROUP, [8, 9, 3, 1])),),))
        self.assertIsNone(self.ann.picks(later))
        self.assertTrue(self.ann.opens(KINDS, self.town, self.ann.holdings[0]))
        self.assertEqual(self.bob.picks(later), [Pick(0, 8, (3, 1))])
        self.assertTrue(show(self.bob, later, 10)[0])
        # Who answers the question of yesterday is not accepted by the door of today.
        holder = Holder(question, 7, [Pick(0, 5, (2, 1))], [1] * tape_count(question, [Pick(0, 5, (2, 1))]))
        door = Door(later)
        self.assertTrue(door.begin(*holder.begin()))
        door.challenge(4)
        self.assertFalse(door.finish(holder.reply(4)))
        self.town.revoke(1, 7)
        with self.assertRaises(BadQuestion) as caught:
            self.question(text, 7)
        self.assertEqual(caught.exception.what, "rows")

    def test_credentials_of_several_issuers(self):
        text = ("card me person from town city card it club from city card us member from town city "
                "same it level me age among it level 1 3 tell me town equal me town 2")
        give(self.bob, self.city, "club", 1, [3], 1)
        give(self.ann, self.town, "person", 2, [1, 2], 1)
        give(self.bob, self.city, "person", 3, [3, 2], 1)
        give(self.ann, self.city, "club", 4, [1], 1)
        give(self.ann, self.city, "member", 5, [], 1)
        give(self.bob, self.town, "member", 6, (), 1)
        question = self.question(text, 1)
        views = {}
        for wallet, picks in [(self.ann, [Pick(0, 2, (1, 2)), Pick(1, 4, (1,)), Pick(1, 5, ())]),
                              (self.bob, [Pick(1, 3, (3, 2)), Pick(0, 1, (3,)), Pick(0, 6, ())])]:
            self.assertEqual(wallet.picks(question), picks)
            for challenge in range(11):
                accepted, view, _ = show(wallet, question, challenge)
                self.assertTrue(accepted)
                views[wallet.secret, challenge] = view
        for wallet, other in [(self.ann, self.bob), (self.bob, self.ann)]:
            view = views[wallet.secret, 8]
            tape = other_tape(question, view, other.secret, other.picks(question))
            holder = Holder(question, other.secret, other.picks(question), tape)
            self.assertEqual((*holder.begin(), 8, holder.reply(8)), view)
        view, again = views[9, 2], views[9, 5]
        self.assertEqual(shown(question, *view[:2], view[3:], again[3:]),
                         ("openings", ((1, (3, 9, 3, 2)), (0, (1, 9, 3)), (0, (6, 9)))))

    def test_nothing_is_modified(self):
        """Wallets, issuers and questions do not change by what is asked and answered with them."""
        give(self.ann, self.town, "person", 5, [2, 1], 3)
        give(self.bob, self.city, "person", 8, [3, 1], 3)
        things = [self.town, self.city, self.ann, self.bob, KINDS, GROUP]
        before = copy.deepcopy([state_of(thing) for thing in things])
        question = self.question("card me person from town city tell me town least me age 2", 3)
        things.append(question)
        before.append(copy.deepcopy(state_of(question)))
        _, view, _ = show(self.ann, question, 6)
        _, again, _ = show(self.ann, question, 2)
        shown(question, *view[:2], view[3:], again[3:])
        other_tape(question, view, 9, self.bob.picks(question))
        self.bob.opens(KINDS, self.city, self.bob.holdings[0])
        self.bob.ask(3, [1, 2])
        self.bob.reply(3, [1, 2], 9)
        self.assertEqual([state_of(thing) for thing in things], before)


if __name__ == "__main__":
    unittest.main()
