"""Tests of vouchdoor.showing: answers, doors, and what views show and hide (points [20] to [27])."""

import itertools
import unittest

from tests.helpers import (GROUP, KINDS, LOGS, SMALL, ask, changed, grant, issuer_with, listed, longer_and_shorter,
                           only_tuples)
from vouchdoor.claim import answer, first_move, fits, simulate, tape_of, tape_size
from vouchdoor.errors import BadOpening, BadQuestion, BadTurn
from vouchdoor.group import commit, is_relation
from vouchdoor.question import Question, claim_of, publics
from vouchdoor.showing import Door, Holder, Pick, answers, other_tape, shown, tape_count, told_of

TOWN_ROWS = [
    ("person", 1, 2, [3, 2]), ("person", 4, 3, [3, 1]), ("club", 0, 2, [4]), ("member", 2, 3, []),
    ("person", 3, 3, [1, 1]), ("club", 2, 3, [1]), ("member", 3, 2, [])]
CITY_ROWS = [("person", 2, 2, [1, 1]), ("club", 1, 2, [1]), ("person", 0, 3, [0, 0]), ("club", 4, 3, [4])]

# The small group has no bases for these.
PASS_ROWS = [("pass", 1, 2, [1, 4, 2]), ("pass", 2, 3, [1, 3, 0]), ("pass", 6, 3, [0, 2, 2]), ("pass", 0, 2, [1, 0, 1])]


def issuers_of(group):
    city_rows = CITY_ROWS + PASS_ROWS if group == GROUP else CITY_ROWS
    return [issuer_with("town", TOWN_ROWS, group), issuer_with("city", city_rows, group)]


ISSUERS = {group.p: issuers_of(group) for group in [GROUP, SMALL]}
PERSON = "card me person from town"
BOTH = "card me person from town city"
PAIR = "card me person from town city card it club from city town"

# Picks by secret for a card: rows 0, 1, 2 are of town, and 3, 4 of city.
TWO = {"old": Pick(0, 1, (3, 2)), "even": Pick(3, 2, (1, 1))}
THREE = {"old": Pick(1, 4, (3, 1)), "even": Pick(2, 3, (1, 1)), "zero": Pick(4, 0, (0, 0))}

# Each text with all the holders that tell the same and satisfy its conditions: secret and picks.
CASES = [
    ("card me member from town", [(3, [Pick(0, 2, ())]), (2, [Pick(1, 3, ())])]),
    (PERSON, [(2, [TWO["old"]]), (3, [THREE["old"]]), (3, [THREE["even"]])]),
    (PERSON + " tell me age", [(2, [TWO["old"]]), (3, [THREE["old"]])]),
    (PERSON + " equal me age 3", [(2, [TWO["old"]]), (3, [THREE["old"]])]),
    (PERSON + " tell me town tell me age", [(3, [THREE["even"]])]),
    (PERSON + " least me age 2", [(2, [TWO["old"]]), (3, [THREE["old"]])]),
    (BOTH + " least me age 1 least me town 1", [
        (2, [TWO["old"]]), (2, [TWO["even"]]), (3, [THREE["old"]]), (3, [THREE["even"]])]),
    (BOTH + " among me town 0 1 among me age 0 1", [(2, [TWO["even"]]), (3, [THREE["even"]]), (3, [THREE["zero"]])]),
    (BOTH + " same me age me town", [(2, [TWO["even"]]), (3, [THREE["even"]]), (3, [THREE["zero"]])]),
    (BOTH + " same me age me town among me town 0 1", [(2, [TWO["even"]]), (3, [THREE["zero"]])]),
    (PAIR + " least me town 1 among it level 1 4 same it level me age tell me town", [
        (2, [TWO["even"], Pick(0, 1, (1,))]), (3, [THREE["even"], Pick(3, 2, (1,))])]),
    (PAIR + " same me town me age same it level me town tell it level least me age 1 among me town 0 1", [
        (2, [TWO["even"], Pick(0, 1, (1,))]), (3, [THREE["even"], Pick(3, 2, (1,))])]),
    ("card a person from town card b club from town city card c member from town tell b level least a age 1", [
        (2, [TWO["old"], Pick(0, 0, (4,)), Pick(1, 3, ())]), (3, [THREE["old"], Pick(3, 4, (4,)), Pick(0, 2, ())]),
        (3, [THREE["even"], Pick(3, 4, (4,)), Pick(0, 2, ())])]),
]

PASS = "card me pass from city"
TWO_PASS, TWO_OTHER = Pick(0, 1, (1, 4, 2)), Pick(3, 0, (1, 0, 1))
THREE_PASS, THREE_OTHER = Pick(1, 2, (1, 3, 0)), Pick(2, 6, (0, 2, 2))
PASS_CASES = [
    (PASS + " least me price 3 among me kind 0 2 least me zone 1", [(2, [TWO_PASS]), (3, [THREE_PASS])]),
    (PASS + " tell me zone least me price 3 among me kind 0 2", [(2, [TWO_PASS]), (3, [THREE_PASS])]),
    (PASS + " among me price 0 2 least me kind 1", [(2, [TWO_OTHER]), (3, [THREE_OTHER])]),
    (PASS + " same me kind me zone least me kind 1 among me price 0 1 2", [(2, [TWO_OTHER])]),
    (PASS + " same me kind me price least me kind 1 equal me zone 0", [(3, [THREE_OTHER])]),
]


def cases_of(group):
    return CASES + PASS_CASES if group == GROUP else CASES


def all_cases(group):
    """All questions with one of their holders."""
    for text, holders in cases_of(group):
        question = ask(text, ISSUERS[group.p])
        for secret, picks in holders:
            yield question, secret, picks


def tapes_of(question, picks):
    """Some tapes of an answer, as different as a few can be."""
    q, count = question.group.q, tape_count(question, picks)
    return [[0] * count, [(3 * at + 1) % q for at in range(count)], [(7 * at * at + 3) % q for at in range(count)]]


def view_of(question, secret, picks, tape, challenge):
    holder = Holder(question, secret, picks, tape)
    return (*holder.begin(), challenge, holder.reply(challenge))


class PickTest(unittest.TestCase):

    def test_fields(self):
        pick = Pick(1, 5, [3, 2])
        self.assertEqual((pick.row, pick.randomness, pick.numbers), (1, 5, (3, 2)))
        self.assertIs(type(pick.numbers), tuple)
        self.assertEqual(Pick(0, 0, ()).numbers, ())
        self.assertEqual(Pick(0, 0, []).numbers, ())

    def test_list_may_change_afterwards(self):
        numbers = [3, 2]
        pick = Pick(1, 5, numbers)
        numbers[0] = 0
        numbers.append(1)
        self.assertEqual(pick.numbers, (3, 2))

    def test_equal(self):
        self.assertIs(Pick(1, 5, [3, 2]) == Pick(1, 5, (3, 2)), True)
        self.assertIs(Pick(1, 5, [3, 2]) != Pick(1, 5, (3, 2)), False)

    def test_unequal(self):
        for other in [Pick(0, 5, [3, 2]), Pick(1, 4, [3, 2]), Pick(1, 5, [2, 3]), Pick(1, 5, [3]),
                      Pick(1, 5, [3, 2, 0]), Pick(5, 1, [3, 2]), None, (1, 5, (3, 2))]:
            self.assertIs(Pick(1, 5, [3, 2]) == other, False)
            self.assertIs(Pick(1, 5, [3, 2]) != other, True)


class ToldTest(unittest.TestCase):

    def told(self, text, picks, expected):
        for given in [picks, tuple(picks)]:
            found = told_of(ask(text, ISSUERS[GROUP.p]), given)
            self.assertEqual(found, expected)
            self.assertIs(type(found), tuple)

    def test_told_of(self):
        self.told(PERSON, [TWO["old"]], ())
        self.told(PERSON + " equal me age 3 least me town 1", [TWO["old"]], ())
        self.told(PERSON + " tell me age", [TWO["old"]], (3,))
        self.told(PERSON + " tell me town tell me age tell me town", [TWO["old"]], (2, 3, 2))
        picks = [Pick(0, 0, (1, 2)), Pick(0, 0, (4,))]
        self.told(PAIR + " tell it level least me age 1 tell me town tell me age", picks, (4, 2, 1))

    def test_of_picks_that_do_not_satisfy(self):
        self.told(PERSON + " equal me age 1 tell me age", [TWO["old"]], (3,))


class AnswersTest(unittest.TestCase):

    def answers(self, text, *numbers):
        # Neither the rows nor their randomness matter.
        question = ask(text, ISSUERS[GROUP.p])
        picks = [Pick(99, -5, some) for some in numbers]
        found = answers(question, picks)
        self.assertIs(type(found), bool)
        self.assertIs(answers(question, tuple(picks)), found)
        return found

    def test_no_conditions(self):
        self.assertTrue(self.answers(PERSON, (0, 0)))
        self.assertTrue(self.answers("card me member from town", ()))

    def test_tell(self):
        for age in range(4):
            self.assertTrue(self.answers(PERSON + " tell me age", (age, 0)))

    def test_equal(self):
        for age, town in itertools.product(range(4), range(3)):
            self.assertEqual(self.answers(PERSON + " equal me age 2", (age, town)), age == 2)
            self.assertEqual(self.answers(PERSON + " equal me town 0", (age, town)), town == 0)
        # Numbers are compared as numbers, and not modulo q.
        self.assertFalse(self.answers(PERSON + " equal me age 2", (13, 0)))

    def test_least(self):
        for age, low in itertools.product(range(4), repeat=2):
            self.assertEqual(self.answers(f"{PERSON} least me age {low}", (age, 0)), age >= low)
        self.assertTrue(self.answers(PERSON + " least me age 2", (7, 0)))

    def test_among(self):
        for age in range(4):
            self.assertEqual(self.answers(PERSON + " among me age 0 2", (age, 1)), age in (0, 2))
            self.assertEqual(self.answers(PERSON + " among me age 3", (age, 0)), age == 3)

    def test_same(self):
        for age, town, level in itertools.product(range(4), range(3), range(5)):
            self.assertEqual(self.answers(PERSON + " same me age me town", (age, town)), age == town)
            self.assertEqual(self.answers(PAIR + " same it level me town", (age, town), (level,)), level == town)

    def test_every_condition_counts(self):
        conditions = ["equal me age 2", "least it level 3", "among me town 0 2", "same it level me age", "tell me age"]
        good = {"equal me age 2": lambda a, t, e: a == 2, "least it level 3": lambda a, t, e: e >= 3,
                "among me town 0 2": lambda a, t, e: t in (0, 2), "same it level me age": lambda a, t, e: e == a,
                "tell me age": lambda a, t, e: True}
        for some in itertools.permutations(conditions, 3):
            question = ask(f"{PAIR} {' '.join(some)}", ISSUERS[GROUP.p])
            for age, town, level in itertools.product(range(4), range(3), range(5)):
                expected = all(good[condition](age, town, level) for condition in some)
                self.assertIs(answers(question, [Pick(0, 0, (age, town)), Pick(0, 0, (level,))]), expected)


class TapeCountTest(unittest.TestCase):

    def count(self, text, picks, expected):
        for group in [GROUP, SMALL]:
            question = ask(text, ISSUERS[group.p])
            for given in [picks, tuple(picks)]:
                self.assertEqual(tape_count(question, given), expected)

    def test_rows(self):
        # A mask; `s` and `f0`; for two rows a share and two numbers.
        self.count("card me member from town", [Pick(0, 2, ())], 1 + 2 + 3)
        self.count(PERSON, [TWO["old"]], 1 + 4 + 5)
        self.count(BOTH, [TWO["old"]], 1 + 4 + 9)
        self.count(PAIR, [TWO["even"], Pick(0, 1, (1,))], 2 + 6 + 9 + 7)

    def test_known_values(self):
        self.count(PERSON + " tell me age", [TWO["old"]], 1 + 3 + 5)
        self.count(PERSON + " equal me age 3 tell me town", [TWO["old"]], 1 + 2 + 5)
        self.count(BOTH + " same me age me town equal me age 1", [TWO["even"]], 1 + 2 + 9)
        self.count(BOTH + " same me age me town", [TWO["even"]], 1 + 3 + 9)

    def test_choices(self):
        # Two ages: a share, and two branches with r, s and a value.
        self.count(PERSON + " least me age 2", [TWO["old"]], 1 + 4 + 5 + 7)
        self.count(PERSON + " among me age 3", [TWO["old"]], 1 + 4 + 5 + 3)
        self.count(PERSON + " least me age 2 among me town 0 1 2", [TWO["old"]], 1 + 4 + 5 + 7 + 11)
        self.count(PERSON + " least me age 2 tell me age among me town 0 1 2", [TWO["old"]], 1 + 3 + 5 + 11)
        self.count(PERSON + " least me age 2 equal me age 3", [TWO["old"]], 1 + 3 + 5)
        self.count(PAIR + " least it level 1 same it level me age tell me town", [TWO["even"], Pick(0, 1, (1,))],
                   2 + 4 + 9 + 7 + 11)

    def test_is_what_the_claim_needs(self):
        for group in [GROUP, SMALL]:
            for question, secret, picks in all_cases(group):
                fresh = [commit(group, [1, secret, *pick.numbers]) for pick in picks]
                claim = claim_of(question, fresh, publics(question, told_of(question, picks)))
                self.assertEqual(tape_count(question, picks), len(picks) + tape_size(claim))


class HolderTest(unittest.TestCase):

    def test_exactly_the_answer(self):
        """By hand, points [20] to [23]: two cards, known values, a shared name and two choices."""
        text = PAIR + " tell me town least it level 1 same it level me age among it level 0 1 4"
        question = ask(text, ISSUERS[GROUP.p])
        picks = [THREE["even"], Pick(3, 2, (1,))]
        tape = [(5 * at + 2) % 11 for at in range(tape_count(question, picks))]
        masks = tape[:2]
        fresh = (commit(GROUP, [masks[0], 3, 1, 1]), commit(GROUP, [masks[1], 3, 1]))
        claim = claim_of(question, fresh, {(0, 1): 1})
        self.assertEqual(claim.statement.unknowns, ("s", "f0", "v00", "f1"))
        witness = ((3, masks[0], 1, masks[1]),
                   ((2, ((masks[0] - 3,), ())), (3, ((masks[1] - 2,), ())),
                    (0, ((masks[1], 3), ())), (1, ((masks[1], 3), ()))))
        holder = Holder(question, 3, picks, tape)
        made = tape_of(claim, tape[2:])
        self.assertEqual(holder.begin(), (fresh, (1,), first_move(GROUP, claim, witness, made)))
        for challenge in range(11):
            self.assertEqual(holder.reply(challenge), answer(GROUP, claim, witness, made, challenge))

    def test_other_values_in_the_branches(self):
        question = ask(PERSON + " among me town 1 2 least me age 1", ISSUERS[GROUP.p])
        tape = [(5 * at + 2) % 11 for at in range(tape_count(question, [TWO["old"]]))]
        fresh = (commit(GROUP, [2, 2, 3, 2]),)
        claim = claim_of(question, fresh, {})
        witness = ((2, 2, 3, 2), ((0, ((1,), ())), (1, ((2, 2, 3), ())), (2, ((2, 2, 2), ()))))
        holder = Holder(question, 2, [TWO["old"]], tape)
        made = tape_of(claim, tape[1:])
        self.assertEqual(holder.begin(), (fresh, (), first_move(GROUP, claim, witness, made)))
        for challenge in range(11):
            self.assertEqual(holder.reply(challenge), answer(GROUP, claim, witness, made, challenge))

    def test_accepted(self):
        for group in [SMALL, GROUP]:
            for question, secret, picks in all_cases(group):
                for tape in tapes_of(question, picks):
                    holder = Holder(question, secret, picks, tape)
                    message = holder.begin()
                    self.assertTrue(only_tuples(message))
                    self.assertEqual(message[1], told_of(question, picks))
                    for challenge in range(group.q):
                        door = Door(question)
                        self.assertIs(door.begin(*message), True)
                        self.assertIsNone(door.challenge(challenge))
                        self.assertIs(door.finish(holder.reply(challenge)), True)
                        self.assertEqual(door.state, "accepted")

    def test_every_tape_of_a_small_question(self):
        """For every tape and every challenge, point [25]."""
        question = ask("card me member from town", ISSUERS[SMALL.p])
        picks = [Pick(1, 3, ())]
        for tape in itertools.product(range(5), repeat=tape_count(question, picks)):
            holder = Holder(question, 2, picks, tape)
            fresh, told, first = holder.begin()
            claim = claim_of(question, fresh, {})
            for challenge in [0, 3]:
                self.assertTrue(fits(SMALL, claim, first, challenge, holder.reply(challenge)))

    def test_two_doors_side_by_side(self):
        for question, secret, picks in all_cases(SMALL):
            holder = Holder(question, secret, picks, tapes_of(question, picks)[1])
            one, other = Door(question), Door(question)
            one.begin(*holder.begin())
            other.begin(*holder.begin())
            other.challenge(4)
            one.challenge(2)
            replied = holder.reply(4)
            self.assertIs(one.finish(holder.reply(2)), True)
            self.assertIs(other.finish(replied), True)

    def test_begin_again_and_reply_first(self):
        for question, secret, picks in all_cases(SMALL):
            tape = tapes_of(question, picks)[2]
            holder, other = Holder(question, secret, picks, tape), Holder(question, secret, picks, tape)
            early = holder.reply(3)
            message = holder.begin()
            self.assertEqual(message, other.begin())
            self.assertEqual(holder.reply(1), other.reply(1))
            self.assertEqual(holder.begin(), message)
            self.assertEqual(holder.reply(3), early)
            self.assertEqual(other.reply(3), early)

    def test_lists_and_tuples(self):
        for question, secret, picks in all_cases(SMALL):
            tape = tapes_of(question, picks)[1]
            message = Holder(question, secret, list(picks), tape).begin()
            reply = Holder(question, secret, list(picks), tape).reply(2)
            for made in [Holder(question, secret, tuple(picks), tuple(tape)),
                         Holder(question, secret, [Pick(pick.row, pick.randomness, list(pick.numbers))
                                                   for pick in picks], tape)]:
                self.assertEqual(made.begin(), message)
                self.assertEqual(made.reply(2), reply)

    def test_lists_may_change_afterwards(self):
        for question, secret, picks in all_cases(SMALL):
            tape = tapes_of(question, picks)[1]
            picks = list(picks)
            holder, other = Holder(question, secret, picks, tape), Holder(question, secret, picks, tape)
            message, reply = other.begin(), other.reply(2)
            picks.reverse()
            picks[0] = Pick(0, 0, (0, 0))
            picks.pop()
            tape[0] += 1
            tape.clear()
            self.assertEqual(holder.begin(), message)
            self.assertEqual(holder.reply(2), reply)

    def test_arguments_stay_as_they_are(self):
        for question, secret, picks in all_cases(SMALL):
            tape = tapes_of(question, picks)[1]
            before = (list(picks), list(tape), question.rows, question.policy.conditions)
            holder = Holder(question, secret, picks, tape)
            holder.begin()
            holder.reply(1)
            self.assertEqual((list(picks), tape, question.rows, question.policy.conditions), before)

    def test_values_that_do_not_satisfy(self):
        bad = [
            ("equal me age 2", (3, 2)), ("equal me town 1", (3, 2)), ("least me age 3", (2, 2)),
            ("least me town 1", (3, 0)), ("among me age 0 2", (3, 2)), ("among me town 1", (3, 2)),
            ("same me age me town", (3, 2)), ("same me town me age", (0, 2)),
            ("tell me age equal me age 2", (3, 2)), ("least me age 1 tell me town among me town 0", (3, 2)),
        ]
        for conditions, numbers in bad:
            question = ask(f"{PERSON} {conditions}", ISSUERS[GROUP.p])
            with self.assertRaises(BadQuestion) as caught:
                Holder(question, 2, [Pick(0, 1, numbers)], [1] * 60)
            self.assertEqual(caught.exception.what, "values", conditions)
        with self.assertRaises(BadQuestion) as caught:
            Holder(ask(PAIR + " same it level me age", ISSUERS[GROUP.p]), 2, [TWO["old"], Pick(0, 0, (4,))], [1] * 60)
        self.assertEqual(caught.exception.what, "values")

    def accepted(self, question, secret, pick):
        """To how many of all challenges a holder replies such that a door accepts."""
        holder = Holder(question, secret, [pick], tapes_of(question, [pick])[1])
        count = 0
        for challenge in range(question.group.q):
            door = Door(question)
            self.assertIs(door.begin(*holder.begin()), True)
            door.challenge(challenge)
            count += door.finish(holder.reply(challenge))
        return count

    def test_other_values_of_three(self):
        for field, word in enumerate(["zone", "price", "kind"]):
            question = ask(f"{PASS} least me {word} 0", ISSUERS[GROUP.p])
            tape = [(5 * at + 2) % 11 for at in range(tape_count(question, [TWO_PASS]))]
            fresh = (commit(GROUP, [2, 2, 1, 4, 2]),)
            claim = claim_of(question, fresh, {})
            numbers = (1, 4, 2)
            others = numbers[:field] + numbers[field + 1:]
            witness = ((2, 2, 1, 4, 2), ((0, ((1,), ())), (numbers[field], ((2, 2, *others), ()))))
            holder = Holder(question, 2, [TWO_PASS], tape)
            made = tape_of(claim, tape[1:])
            self.assertEqual(holder.begin(), (fresh, (), first_move(GROUP, claim, witness, made)))
            self.assertEqual(holder.reply(7), answer(GROUP, claim, witness, made, 7))

    def test_rows_that_do_not_open(self):
        """Nobody refuses such a holder ahead of the door, which accepts what it could have guessed."""
        question = ask(PERSON + " tell me age least me town 1", ISSUERS[GROUP.p])
        self.assertEqual(self.accepted(question, 2, TWO["old"]), 11)
        for secret, pick in [(5, TWO["old"]), (2, Pick(1, 1, (3, 2))), (2, Pick(0, 0, (3, 2))), (2, Pick(0, 1, (3, 1))),
                             (2, Pick(3, 1, (3, 2))), (2, Pick(-1, 1, (3, 2)))]:
            self.assertLessEqual(self.accepted(question, secret, pick), 1)

    def test_values_beyond_those_of_the_field(self):
        pick = Pick(0, 1, (4, 2))
        for conditions in ["least me age 2", "tell me town"]:
            self.assertLessEqual(self.accepted(ask(f"{PERSON} {conditions}", ISSUERS[GROUP.p]), 2, pick), 1)
        question = ask(PERSON + " tell me age", ISSUERS[GROUP.p])
        message = Holder(question, 2, [pick], tapes_of(question, [pick])[1]).begin()
        self.assertIs(Door(question).begin(*message), False)

    def test_exponents_count_modulo_q(self):
        question = ask(PERSON + " tell me age least me town 1", ISSUERS[GROUP.p])
        tape = tapes_of(question, [TWO["old"]])[1]
        holder = Holder(question, 2, [TWO["old"]], tape)
        for secret, randomness in [(13, 1), (2, 12), (-9, -10)]:
            other = Holder(question, secret, [Pick(0, randomness, (3, 2))], tape)
            self.assertEqual(other.begin(), holder.begin())
            for challenge in range(11):
                self.assertEqual(other.reply(challenge), holder.reply(challenge))


class DoorTest(unittest.TestCase):

    def setUp(self):
        text = PERSON + " tell me age least me town 1"
        self.question = ask(text, ISSUERS[GROUP.p])
        self.holder = Holder(self.question, 2, [TWO["old"]], tapes_of(self.question, [TWO["old"]])[1])
        self.fresh, self.told, self.first = self.holder.begin()

    def door(self, state):
        """A door that has come to a state."""
        door = Door(self.question)
        if state == "refused":
            door.begin((), (), ())
        elif state != "open":
            door.begin(self.fresh, self.told, self.first)
            if state != "begun":
                door.challenge(4)
                if state != "challenged":
                    door.finish(self.holder.reply(4))
        self.assertEqual(door.state, state)
        return door

    def test_states(self):
        door = Door(self.question)
        self.assertEqual(door.state, "open")
        self.assertIs(door.begin(self.fresh, self.told, self.first), True)
        self.assertEqual(door.state, "begun")
        self.assertIsNone(door.challenge(4))
        self.assertEqual(door.state, "challenged")
        self.assertIs(door.finish(self.holder.reply(4)), True)
        self.assertEqual(door.state, "accepted")
        door = self.door("challenged")
        self.assertIs(door.finish(self.holder.reply(5)), False)
        self.assertEqual(door.state, "refused")

    def test_messages_at_another_time(self):
        messages = {
            "begin": [(self.fresh, self.told, self.first), ((), (), ()), ([0], (-1,), ((), ()))],
            "challenge": [(4,), (-1,), (11,)],
            "finish": [(self.holder.reply(4),), (((), ()),), ((),)],
        }
        due = {"open": "begin", "begun": "challenge", "challenged": "finish", "accepted": None, "refused": None}
        for state, action in due.items():
            for name, arguments in messages.items():
                if name == action:
                    continue
                for some in arguments:
                    door = self.door(state)
                    with self.assertRaises(BadTurn) as caught:
                        getattr(door, name)(*some)
                    self.assertEqual(caught.exception.what, state, name)
                    self.assertEqual(door.state, state)

    def test_goes_on_after_a_message_at_another_time(self):
        door = Door(self.question)
        for name, some in [("challenge", (4,)), ("finish", (self.holder.reply(4),))]:
            with self.assertRaises(BadTurn):
                getattr(door, name)(*some)
        door.begin(self.fresh, self.told, self.first)
        other = Holder(self.question, 3, [THREE["old"]], tapes_of(self.question, [THREE["old"]])[2])
        with self.assertRaises(BadTurn):
            door.begin(*other.begin())
        door.challenge(4)
        with self.assertRaises(BadTurn):
            door.challenge(5)
        self.assertIs(door.finish(self.holder.reply(4)), True)

    def refused(self, fresh, told, first):
        door = Door(self.question)
        self.assertIs(door.begin(fresh, told, first), False, (fresh, told))
        self.assertEqual(door.state, "refused")

    def test_numbers_of_fresh_commitments(self):
        self.refused((), self.told, self.first)
        self.refused((self.fresh[0], self.fresh[0]), self.told, self.first)
        question = ask(PAIR, ISSUERS[GROUP.p])
        for many in range(5):
            door = Door(question)
            self.assertIs(door.begin([4] * many, [], ((), ())), many == 2)

    def test_fresh_commitments_are_elements(self):
        for element in range(-24, 60):
            door = Door(self.question)
            self.assertIs(door.begin([element], self.told, self.first), GROUP.is_element(element), element)
        question = ask(PAIR, ISSUERS[GROUP.p])
        for number in [0, 23, -1, 5, 22, 27]:
            for fresh in [[4, number], [number, 4]]:
                self.assertIs(Door(question).begin(fresh, [], ((), ())), False)

    def test_told_numbers(self):
        self.refused(self.fresh, (), self.first)
        self.refused(self.fresh, (3, 3), self.first)
        for number in [-1, 4, 11, 14, -8]:
            self.refused(self.fresh, (number,), self.first)
        for number in range(4):
            self.assertIs(Door(self.question).begin(self.fresh, [number], self.first), True)

    def test_told_numbers_that_contradict_conditions(self):
        for conditions, good in [
                ("tell me age tell me age", [(age, age) for age in range(4)]),
                ("tell me age equal me age 2", [(2,)]),
                ("least me age 2 tell me age", [(2,), (3,)]),
                ("tell me age among me age 0 3", [(0,), (3,)]),
                ("same me age me town tell me age", [(0,), (1,), (2,)]),
                ("tell me town tell me age same me age me town", [(0, 0), (1, 1), (2, 2)]),
                ("equal me age 2 equal me age 1", [])]:
            question = ask(f"{PERSON} {conditions}", ISSUERS[GROUP.p])
            for many in range(4):
                for told in itertools.product(range(5), repeat=many):
                    self.assertIs(Door(question).begin(self.fresh, told, self.first), told in good, (conditions, told))

    def test_challenges(self):
        for number in [-1, 11, 12, -11, 100]:
            door = self.door("begun")
            with self.assertRaises(BadQuestion) as caught:
                door.challenge(number)
            self.assertEqual(caught.exception.what, "challenge")
            self.assertEqual(door.state, "begun")
            door.challenge(10)
            self.assertIs(door.finish(self.holder.reply(10)), True)

    def test_reply_to_another_challenge(self):
        for challenge, other in itertools.product(range(11), repeat=2):
            door = Door(self.question)
            door.begin(*self.holder.begin())
            door.challenge(challenge)
            self.assertIs(door.finish(self.holder.reply(other)), challenge == other)

    def finish(self, question, message, challenge, replied):
        door = Door(question)
        self.assertIs(door.begin(*message), True)
        door.challenge(challenge)
        accepted = door.finish(replied)
        self.assertIs(type(accepted), bool)
        self.assertEqual(door.state, "accepted" if accepted else "refused")
        return accepted

    def test_changed_replies(self):
        for question, secret, picks in all_cases(SMALL):
            holder = Holder(question, secret, picks, tapes_of(question, picks)[1])
            message, replied = holder.begin(), holder.reply(3)
            self.assertTrue(self.finish(question, message, 3, replied))
            for change in [lambda x: (x + 1) % 5, lambda x: (x + 2) % 5, lambda x: x + 5, lambda x: x - 5]:
                for other in changed(replied, change):
                    self.assertFalse(self.finish(question, message, 3, other))

    def test_replies_of_another_form(self):
        for question, secret, picks in all_cases(SMALL):
            holder = Holder(question, secret, picks, tapes_of(question, picks)[1])
            message, replied = holder.begin(), holder.reply(3)
            for other in longer_and_shorter(replied):
                self.assertFalse(self.finish(question, message, 3, other))

    def test_first_moves_of_another_form(self):
        for question, secret, picks in all_cases(SMALL):
            holder = Holder(question, secret, picks, tapes_of(question, picks)[1])
            fresh, told, first = holder.begin()
            for other in longer_and_shorter(first) + changed(first, lambda x: x * 3 % 11):
                self.assertFalse(self.finish(question, (fresh, told, other), 3, holder.reply(3)))

    def test_changed_messages(self):
        for question, secret, picks in all_cases(SMALL):
            holder = Holder(question, secret, picks, tapes_of(question, picks)[1])
            fresh, told, first = holder.begin()
            for other in changed(fresh, lambda x: x * 3 % 11):
                self.assertFalse(self.finish(question, (other, told, first), 3, holder.reply(3)))

    def test_another_told_number(self):
        self.assertFalse(self.finish(self.question, (self.fresh, (2,), self.first), 3, self.holder.reply(3)))

    def test_lists(self):
        """What the door was passed may be lists, and may be changed afterwards."""
        fresh, told = list(self.fresh), list(self.told)
        door = Door(self.question)
        self.assertIs(door.begin(fresh, told, self.first), True)
        self.assertEqual((fresh, told), (list(self.fresh), list(self.told)))
        fresh.clear()
        told[0] = 0
        door.challenge(6)
        self.assertIs(door.finish(self.holder.reply(6)), True)

    def test_another_question(self):
        """A door of another question refuses the same messages, if it begins at all."""
        for conditions in ["tell me age", "tell me age least me town 0", "tell me town least me town 1"]:
            question = ask(f"{PERSON} {conditions}", ISSUERS[GROUP.p])
            self.assertFalse(self.finish(question, (self.fresh, (2,), self.first), 3, self.holder.reply(3)))


class ShownTest(unittest.TestCase):

    def test_openings(self):
        for group in [SMALL, GROUP]:
            for question, secret, picks in all_cases(group):
                expected = ("openings", tuple((pick.row, (pick.randomness, secret, *pick.numbers)) for pick in picks))
                for tape in tapes_of(question, picks):
                    holder = Holder(question, secret, picks, tape)
                    fresh, told, _ = holder.begin()
                    for one, other in [(0, 1), (3, 2), (4, 0), (1, 4)]:
                        pairs = (one, holder.reply(one)), (other, holder.reply(other))
                        found = shown(question, fresh, told, *pairs)
                        self.assertEqual(found, expected)
                        self.assertTrue(only_tuples(found))
                        self.assertEqual(shown(question, list(fresh), list(told), *map(list, pairs)), expected)
                for card, (row, opening) in enumerate(expected[1]):
                    self.assertEqual(commit(group, opening), question.rows[card][row][2])

    def test_all_pairs_of_challenges(self):
        question = ask(CASES[10][0], ISSUERS[GROUP.p])
        secret, picks = CASES[10][1][1]
        holder = Holder(question, secret, picks, tapes_of(question, picks)[2])
        fresh, told, _ = holder.begin()
        for one, other in itertools.permutations(range(11), 2):
            found = shown(question, fresh, told, (one, holder.reply(one)), (other, holder.reply(other)))
            self.assertEqual(found, ("openings", ((2, (3, 3, 1, 1)), (3, (2, 3, 1)))))

    def test_modulo_q(self):
        question = ask(PERSON + " tell me age least me town 1", ISSUERS[GROUP.p])
        pick = Pick(0, 12, (3, 2))
        holder = Holder(question, 24, [pick], tapes_of(question, [pick])[1])
        fresh, told, _ = holder.begin()
        found = shown(question, fresh, told, (3, holder.reply(3)), (9, holder.reply(9)))
        self.assertEqual(found, ("openings", ((0, (1, 2, 3, 2)),)))


class RelationTest(unittest.TestCase):
    """Somebody who knows the logarithms of the bases opens fresh commitments otherwise."""

    def opening(self, group, element, tail):
        """An opening of an element with a tail: secret and values."""
        logs = LOGS[group.p]
        return ((group.log(element) - sum(log * part for log, part in zip(logs[1:], tail))) % group.q, *tail)

    def shown(self, question, told, picks, secret, masks, branches):
        """What replies show whose branches of conditions have the openings that are given."""
        group = question.group
        fresh = [commit(group, [mask, secret, *pick.numbers]) for pick, mask in zip(picks, masks)]
        known = publics(question, told)
        claim = claim_of(question, fresh, known)
        values = {"s": secret}
        for card, pick in enumerate(picks):
            values[f"f{card}"] = masks[card]
            values.update((f"v{card}{field}", number) for field, number in enumerate(pick.numbers))
        choices = [(pick.row, ((mask - pick.randomness,), ())) for pick, mask in zip(picks, masks)]
        for card, field, index, tail in branches:
            opening = self.opening(group, fresh[card], tail)
            choices.append((index, (opening[:2 + field] + opening[3 + field:], ())))
        witness = (tuple(values[name] for name in claim.statement.unknowns), tuple(choices))
        tape = tape_of(claim, [(3 * at + 2) % group.q for at in range(tape_size(claim))])
        first = first_move(group, claim, witness, tape)
        replies = []
        for challenge in [1, 4]:
            replied = answer(group, claim, witness, tape, challenge)
            door = Door(question)
            self.assertIs(door.begin(fresh, told, first), True)
            door.challenge(challenge)
            self.assertIs(door.finish(replied), True)
            replies.append((challenge, replied))
        found = shown(question, tuple(fresh), tuple(told), *replies)
        self.assertEqual(shown(question, fresh, told, *reversed(replies)), found)
        return found, [(mask, secret, *pick.numbers) for pick, mask in zip(picks, masks)], fresh

    def relation(self, group, opening, fresh, tail):
        """The relation of a fresh commitment's opening and the one with a tail."""
        other = self.opening(group, fresh, tail)
        self.assertEqual(commit(group, other), fresh)
        difference = tuple((one - two) % group.q for one, two in zip(opening, other))
        self.assertTrue(is_relation(group, difference))
        return "relation", difference

    def test_one_condition(self):
        for group in [SMALL, GROUP]:
            question = ask(PERSON + " least me age 1", ISSUERS[group.p])
            # The values open the row, but the age is none that the condition lets.
            city = ask("card me person from city least me age 1", ISSUERS[group.p])
            pick = Pick(1, 0, (0, 0))
            for asked, secret, given in [(question, 2, TWO["old"]), (city, 3, pick)]:
                for index, others in itertools.product(range(3), [(2, 2), (0, 0), (3, 1)]):
                    tail = (others[0], index + 1, others[1])
                    found, openings, fresh = self.shown(asked, [], [given], secret, [3], [(0, 0, index, tail)])
                    if tail == (secret, *given.numbers):
                        self.assertEqual(found[0], "openings")
                    else:
                        self.assertEqual(found, self.relation(group, openings[0], fresh[0], tail))

    def test_known_values(self):
        for group in [SMALL, GROUP]:
            question = ask(PERSON + " tell me age among me town 1 2", ISSUERS[group.p])
            for tail in [(2, 3, 1), (2, 1, 2), (2, 0, 1), (0, 3, 2), (1, 1, 1)]:
                found, openings, fresh = self.shown(
                    question, [3], [TWO["old"]], 2, [3], [(0, 1, tail[2] - 1, tail)])
                self.assertEqual(found, self.relation(group, openings[0], fresh[0], tail))

    def test_places_of_fields(self):
        """The number of the condition stands where its field is, among the others in their order."""
        for field, word in enumerate(["zone", "price", "kind"]):
            question = ask(f"{PASS} least me {word} 0", ISSUERS[GROUP.p])
            for tail in [(2, 1, 4, 2), (2, 1, 3, 2), (2, 0, 4, 2), (2, 1, 4, 1), (7, 0, 1, 2)]:
                found, openings, fresh = self.shown(
                    question, [], [TWO_PASS], 2, [4], [(0, field, tail[1 + field], tail)])
                if tail == (2, 1, 4, 2):
                    self.assertEqual(found, ("openings", ((0, (1, 2, 1, 4, 2)),)))
                else:
                    self.assertEqual(found, self.relation(GROUP, openings[0], fresh[0], tail))

    def test_first_relation(self):
        for group in [SMALL, GROUP]:
            question = ask(PERSON + " least me age 2 among me town 0 2", ISSUERS[group.p])
            good = (2, 3, 2)
            for one, other in itertools.product([good, (1, 3, 2), (2, 2, 0), (0, 2, 2)], [good, (3, 3, 0), (2, 1, 2)]):
                branches = [(0, 0, one[1] - 2, one), (0, 1, other[2] // 2, other)]
                found, openings, fresh = self.shown(question, [], [TWO["old"]], 2, [4], branches)
                if one != good:
                    self.assertEqual(found, self.relation(group, openings[0], fresh[0], one))
                elif other != good:
                    self.assertEqual(found, self.relation(group, openings[0], fresh[0], other))
                else:
                    self.assertEqual(found, ("openings", ((0, (1, 2, 3, 2)),)))

    def test_order_is_that_of_conditions_and_not_of_cards(self):
        for group in [SMALL, GROUP]:
            question = ask(PAIR + " least it level 1 least me age 1 among it level 0 1", ISSUERS[group.p])
            picks = [TWO["even"], Pick(0, 1, (1,))]
            good, club = (2, 1, 1), (2, 1)
            for first, second, third in itertools.product([club, (0, 2), (3, 1)], [good, (2, 2, 1)], [club, (0, 0)]):
                branches = [(1, 0, first[1] - 1, first), (0, 0, second[1] - 1, second), (1, 0, third[1], third)]
                found, openings, fresh = self.shown(question, [], picks, 2, [4, 3], branches)
                if first != club:
                    self.assertEqual(found, self.relation(group, openings[1], fresh[1], first))
                elif second != good:
                    self.assertEqual(found, self.relation(group, openings[0], fresh[0], second))
                elif third != club:
                    self.assertEqual(found, self.relation(group, openings[1], fresh[1], third))
                else:
                    self.assertEqual(found, ("openings", ((3, (2, 2, 1, 1)), (0, (1, 2, 1)))))

    def test_values_that_are_no_values_of_the_field(self):
        """Two fitting replies show openings modulo q, whatever was put into the statement."""
        group = GROUP
        question = ask(PERSON, ISSUERS[group.p])
        fresh = [commit(group, [5, 9, 10, 8])]
        claim = claim_of(question, fresh, {})
        row = question.rows[0][1][2]
        witness = ((9, 5, 10, 8), ((1, ((group.log(fresh[0] * pow(row, -1, 23) % 23),), ())),))
        tape = tape_of(claim, [(3 * at + 2) % 11 for at in range(tape_size(claim))])
        pairs = [(challenge, answer(group, claim, witness, tape, challenge)) for challenge in [6, 2]]
        kind, ((found, opening),) = shown(question, fresh, [], *pairs)
        self.assertEqual((kind, found, opening[1:]), ("openings", 1, (9, 10, 8)))
        self.assertEqual(commit(group, opening), row)


class OtherTapeTest(unittest.TestCase):

    def test_own_tape(self):
        for group in [SMALL, GROUP]:
            for question, secret, picks in all_cases(group):
                for tape in tapes_of(question, picks):
                    for challenge in range(0, group.q, 2):
                        view = view_of(question, secret, picks, tape, challenge)
                        found = other_tape(question, view, secret, picks)
                        self.assertEqual(found, tape)
                        self.assertIs(type(found), list)

    def test_tapes_of_others(self):
        for group in [SMALL, GROUP]:
            for text, holders in cases_of(group):
                question = ask(text, ISSUERS[group.p])
                for (secret, picks), (other_secret, other_picks) in itertools.product(holders, repeat=2):
                    tape = tapes_of(question, picks)[1]
                    for challenge in range(group.q):
                        view = view_of(question, secret, picks, tape, challenge)
                        found = other_tape(question, view, other_secret, other_picks)
                        self.assertEqual(len(found), tape_count(question, other_picks))
                        self.assertTrue(all(type(number) is int and 0 <= number < group.q for number in found))
                        self.assertEqual(view_of(question, other_secret, other_picks, found, challenge), view)

    def test_no_other_tape(self):
        for text, holders in CASES:
            question = ask(text, ISSUERS[SMALL.p])
            (secret, picks), (other_secret, other_picks) = holders[0], holders[-1]
            view = view_of(question, secret, picks, tapes_of(question, picks)[1], 3)
            found = other_tape(question, view, other_secret, other_picks)
            for at, more in itertools.product(range(len(found)), range(1, 5)):
                tape = found[:at] + [(found[at] + more) % 5] + found[at + 1:]
                self.assertNotEqual(view_of(question, other_secret, other_picks, tape, 3), view)

    def test_only_one_of_all_tapes(self):
        """All tapes of another holder, for a question that has few of them."""
        question = ask("card me member from town", ISSUERS[SMALL.p])
        count = tape_count(question, [Pick(0, 2, ())])
        self.assertEqual(count, 6)
        for challenge in [0, 2]:
            view = view_of(question, 3, [Pick(0, 2, ())], [1, 2, 3, 4, 0, 2], challenge)
            found = [list(tape) for tape in itertools.product(range(5), repeat=count)
                     if view_of(question, 2, [Pick(1, 3, ())], tape, challenge) == view]
            self.assertEqual(found, [other_tape(question, view, 2, [Pick(1, 3, ())])])

    def test_views_that_nobody_gave(self):
        """A fitting view may come from simulating; also for it there is exactly one tape."""
        for text, holders in CASES:
            question = ask(text, ISSUERS[SMALL.p])
            told = told_of(question, holders[0][1])
            fresh = tuple([9, 4, 1][:len(question.policy.cards)])
            claim = claim_of(question, fresh, publics(question, told))
            made = tape_of(claim, [(2 * at + 3) % 5 for at in range(tape_size(claim))])
            for challenge in range(5):
                view = (fresh, told, *simulate(SMALL, claim, challenge, made))
                view = (*view[:3], challenge, view[3])
                for secret, picks in holders:
                    tape = other_tape(question, view, secret, picks)
                    self.assertEqual(view_of(question, secret, picks, tape, challenge), view)

    def bad(self, text, numbers, secret, pick, other_secret, other):
        question = ask(text, ISSUERS[GROUP.p])
        view = view_of(question, secret, [pick], tapes_of(question, [pick])[1], 6)
        self.assertEqual(view[1], numbers)
        with self.assertRaises(BadOpening):
            other_tape(question, view, other_secret, [other])

    def test_other_told_numbers(self):
        self.bad(PERSON + " tell me town", (2,), 2, TWO["old"], 3, THREE["old"])
        self.bad(PERSON + " tell me age tell me town", (3, 2), 2, TWO["old"], 3, THREE["old"])
        self.bad(PERSON + " tell me age tell me town", (3, 1), 3, THREE["old"], 3, THREE["even"])
        self.bad(PERSON + " tell me age", (3,), 2, TWO["old"], 2, Pick(0, 1, (2, 2)))
        # Numbers that are the same modulo q are told otherwise, too.
        self.bad(PERSON + " tell me age", (3,), 2, TWO["old"], 2, Pick(0, 1, (14, 2)))

    def test_conditions_that_are_not_satisfied(self):
        self.bad(PERSON + " equal me town 2", (), 2, TWO["old"], 3, THREE["old"])
        self.bad(PERSON + " least me age 2", (), 2, TWO["old"], 3, THREE["even"])
        self.bad(PERSON + " among me town 0 2", (), 2, TWO["old"], 3, THREE["old"])
        self.bad(PERSON + " same me age me town", (), 3, THREE["even"], 3, THREE["old"])
        self.bad(PERSON + " tell me age least me town 2", (3,), 2, TWO["old"], 3, THREE["old"])

    def test_lists_and_arguments(self):
        question = ask(CASES[10][0], ISSUERS[SMALL.p])
        (secret, picks), (other_secret, other_picks) = CASES[10][1]
        view = view_of(question, secret, picks, tapes_of(question, picks)[2], 4)
        found = other_tape(question, view, other_secret, tuple(other_picks))
        given = (list(view[0]), list(view[1]), *view[2:])
        self.assertEqual(other_tape(question, given, other_secret, list(other_picks)), found)
        self.assertEqual(given, (list(view[0]), list(view[1]), *view[2:]))


class RowsOfTheQuestionTest(unittest.TestCase):

    def test_a_question_made_by_hand(self):
        """Lists in a question do not matter, and the rows are those of the question."""
        made = ask(BOTH + " least me age 1", ISSUERS[GROUP.p])
        question = Question(GROUP, list(KINDS), made.policy, listed(made.rows))
        tape = tapes_of(question, [TWO["even"]])[1]
        view = view_of(question, 2, [TWO["even"]], tape, 9)
        self.assertEqual(view, view_of(made, 2, [TWO["even"]], tape, 9))

    def test_revoked_rows_are_not_asked_for(self):
        issuers = issuers_of(GROUP)
        grant(issuers[0], "person", 6, 4, [2, 0], 3)
        issuers[0].revoke(0, 2)
        before, later = ask(PERSON, issuers, 1), ask(PERSON, issuers, 3)
        self.assertEqual([row[1] for row in before.rows[0]], [0, 1, 4])
        self.assertEqual([row[1] for row in later.rows[0]], [1, 4, 7])
        # The answer to the earlier question is no answer to the later one.
        holder = Holder(before, 2, [TWO["old"]], tapes_of(before, [TWO["old"]])[1])
        for question, accepted in [(before, True), (later, False)]:
            door = Door(question)
            self.assertIs(door.begin(*holder.begin()), True)
            door.challenge(5)
            self.assertIs(door.finish(holder.reply(5)), accepted)


if __name__ == "__main__":
    unittest.main()
