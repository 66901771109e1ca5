"""Tests of vouchdoor.claim: claims, their answers and what these show (points [6] to [12])."""

import inspect
import itertools
import unittest

from tests.helpers import changed, longer_and_shorter
from vouchdoor import claim as module
from vouchdoor.claim import (Claim, answer, extract, first_move, fits, satisfied, simulate, tape_of,
                             tape_of_view, tape_size)
from vouchdoor.group import Group
from vouchdoor.statement import Statement, reply, simulated

GROUP = Group(23, 11, [2, 3, 4])
SMALL = Group(7, 3, [2, 4])


def leaf(name, element, base=2, choices=()):
    """The claim that an element is a power of a base."""
    return Claim(Statement([name], [(element, [(base, name)])]), choices)


# No value satisfies it.
NEVER = Claim(Statement(["n"], [(2, [(2, "n")]), (2, [(4, "n")])]), [])
NOTHING = Claim(Statement([], []), [])
PAIR = Claim(Statement(["x", "y"], [(4, [(2, "x"), (3, "y")])]), [])
SINGLE = leaf("x", 9, choices=[[leaf("a", 8)]])
TWO = leaf("x", 9, choices=[[leaf("a", 8), leaf("b", 6)]])
THREE = leaf("x", 9, choices=[[NEVER, leaf("a", 8), PAIR]])
ONLY = Claim(Statement([], []), [[NEVER, leaf("a", 8), leaf("b", 6), NOTHING]])
BOTH = Claim(PAIR.statement, [[leaf("a", 8), NEVER], [NEVER, leaf("b", 6)]])
INNER = leaf("i", 18, choices=[[leaf("j", 13), PAIR], [leaf("k", 3, 3)]])
DEEP = Claim(PAIR.statement, [[leaf("a", 8), INNER, NEVER], [INNER, leaf("b", 6)]])

W9 = (5,)
A8, B6, PAIR_OPEN, J13, K3 = ((3,), ()), ((9,), ()), ((5, 1), ()), ((7,), ()), ((1,), ())
INNER_0 = ((6,), ((0, J13), (0, K3)))
INNER_1 = ((6,), ((1, PAIR_OPEN), (0, K3)))

# Each claim with witnesses that satisfy it; together they choose every branch that is true.
CASES = [
    (NOTHING, [((), ())]),
    (PAIR, [PAIR_OPEN, ((0, 3), ()), ((2, 0), ())]),
    (SINGLE, [(W9, ((0, A8),))]),
    (TWO, [(W9, ((0, A8),)), (W9, ((1, B6),))]),
    (THREE, [(W9, ((1, A8),)), (W9, ((2, PAIR_OPEN),))]),
    (ONLY, [((), ((1, A8),)), ((), ((2, B6),)), ((), ((3, ((), ())),))]),
    (BOTH, [((5, 1), ((0, A8), (1, B6)))]),
    (INNER, [INNER_0, INNER_1]),
    (DEEP, [((5, 1), ((0, A8), (0, INNER_1))), ((5, 1), ((1, INNER_0), (1, B6))),
            ((2, 0), ((1, INNER_1), (0, INNER_0)))]),
]

SMALL_TWO = Claim(Statement(["s"], [(4, [(2, "s")])]), [[leaf("d", 2), leaf("d", 4, 4)]])
SMALL_CASES = [
    (SMALL_TWO, [((2,), ((0, ((1,), ())),)), ((2,), ((1, ((1,), ())),))]),
    (Claim(Statement([], []), [[leaf("d", 2), leaf("e", 1), leaf("d", 4)]]),
     [((), ((0, ((1,), ())),)), ((), ((1, ((0,), ())),)), ((), ((2, ((2,), ())),))]),
    (Claim(Statement([], []), [[SMALL_TWO, leaf("d", 2)]]),
     [((), ((0, ((2,), ((0, ((1,), ())),))),)), ((), ((0, ((2,), ((1, ((1,), ())),))),)),
      ((), ((1, ((1,), ())),))]),
]


def tapes_of(group, claim):
    """Some tapes of a claim, as different as a few can be."""
    q, size = group.q, tape_size(claim)
    lists = [[0] * size, [q - 1] * size, [(3 * at + 1) % q for at in range(size)],
             [(7 * at * at + 5) % q for at in range(size)]]
    return [tape_of(claim, numbers) for numbers in lists]


def all_tapes(group, claim):
    """All tapes of a claim."""
    return [tape_of(claim, numbers) for numbers in itertools.product(range(group.q), repeat=tape_size(claim))]


def numbers_of(tree):
    """All numbers of a nested tuple, in order."""
    if not isinstance(tree, tuple):
        return [tree]
    return [number for inner in tree for number in numbers_of(inner)]


def only_tuples(tree):
    """Whether a nested thing consists of tuples and integers."""
    if isinstance(tree, tuple):
        return all(only_tuples(inner) for inner in tree)
    return type(tree) is int


def views(group, claim, witnesses, challenges):
    """The first move, a challenge and the reply, of each witness with some tapes."""
    for witness in witnesses:
        for tape in tapes_of(group, claim):
            first = first_move(group, claim, witness, tape)
            for challenge in challenges:
                yield first, challenge, answer(group, claim, witness, tape, challenge)


def simulating_tape(claim, replied):
    """The tape that simulates a reply, read off the reply by point [8]."""
    replies, answers = replied
    parts = []
    for branches, pairs in zip(claim.choices, answers):
        shares = tuple(challenge for challenge, _ in pairs)[:-1]
        parts.append((shares, tuple(simulating_tape(branch, pair[1]) for branch, pair in zip(branches, pairs))))
    return replies, tuple(parts)


class ClaimTest(unittest.TestCase):

    def test_fields(self):
        made = Claim(PAIR.statement, ((PAIR, SINGLE), (NEVER,)))
        self.assertEqual(made.statement, PAIR.statement)
        self.assertEqual(made.choices, ((PAIR, SINGLE), (NEVER,)))
        self.assertEqual(NOTHING.choices, ())

    def test_lists_are_kept_as_tuples(self):
        for choices in [[[PAIR, SINGLE], [NEVER]], [(PAIR, SINGLE), (NEVER,)], ([PAIR, SINGLE], [NEVER])]:
            made = Claim(PAIR.statement, choices)
            # A tuple is never equal to a list, so this asks for tuples at both depths.
            self.assertEqual(made.choices, ((PAIR, SINGLE), (NEVER,)))

    def test_lists_may_change_afterwards(self):
        branches = [PAIR, SINGLE]
        choices = [branches]
        made = Claim(PAIR.statement, choices)
        branches.append(NEVER)
        branches[0] = NEVER
        choices.append([PAIR])
        self.assertEqual(made.choices, ((PAIR, SINGLE),))

    def test_equal(self):
        statement = Statement(("x", "y"), ((4, ((2, "x"), (3, "y"))),))
        self.assertIs(Claim(statement, ((PAIR, SINGLE), (leaf("z", 2),))) ==
                      Claim(PAIR.statement, [[PAIR, SINGLE], [leaf("z", 2)]]), True)
        self.assertIs(Claim(statement, []) != Claim(PAIR.statement, ()), False)

    def test_unequal(self):
        one = Claim(PAIR.statement, [[PAIR, SINGLE], [NEVER]])
        others = [
            Claim(SINGLE.statement, [[PAIR, SINGLE], [NEVER]]),
            Claim(PAIR.statement, [[SINGLE, PAIR], [NEVER]]),
            Claim(PAIR.statement, [[NEVER], [PAIR, SINGLE]]),
            Claim(PAIR.statement, [[PAIR, SINGLE, NEVER]]),
            Claim(PAIR.statement, [[PAIR, SINGLE]]),
            Claim(PAIR.statement, [[PAIR, SINGLE], [NEVER], [NEVER]]),
            Claim(PAIR.statement, [[PAIR, SINGLE], [NEVER, NEVER]]),
            Claim(PAIR.statement, [[PAIR, TWO], [NEVER]]),
            Claim(PAIR.statement, []),
        ]
        for other in others:
            self.assertIs(one == other, False, other.choices)
            self.assertIs(one != other, True, other.choices)

    def test_unequal_to_other_things(self):
        for other in [None, 0, (PAIR.statement, ()), PAIR.statement]:
            self.assertIs(PAIR == other, False)


class SatisfiedTest(unittest.TestCase):

    def test_witnesses_that_satisfy(self):
        for group, cases in [(GROUP, CASES), (SMALL, SMALL_CASES)]:
            for claim, witnesses in cases:
                for witness in witnesses:
                    self.assertIs(satisfied(group, claim, witness), True, witness)

    def test_one_value_changed(self):
        for claim, witnesses in CASES[2:]:
            for witness in witnesses:
                values, picks = witness
                for wrong in changed(values, lambda value: value + 1):
                    self.assertIs(satisfied(GROUP, claim, (wrong, picks)), False, (wrong, picks))
                for at, (chosen, inner) in enumerate(picks):
                    for wrong in self.with_one_value_changed(inner):
                        wrong_picks = picks[:at] + ((chosen, wrong),) + picks[at + 1:]
                        self.assertIs(satisfied(GROUP, claim, (values, wrong_picks)), False, wrong_picks)

    def with_one_value_changed(self, witness):
        values, picks = witness
        found = [(wrong, picks) for wrong in changed(values, lambda value: (value + 4) % 11)]
        for at, (chosen, inner) in enumerate(picks):
            for wrong in self.with_one_value_changed(inner):
                found.append((values, picks[:at] + ((chosen, wrong),) + picks[at + 1:]))
        return found

    def test_another_branch(self):
        # With its own witness a branch that is true satisfies, and another one does not.
        self.assertIs(satisfied(GROUP, THREE, (W9, ((1, A8),))), True)
        self.assertIs(satisfied(GROUP, THREE, (W9, ((2, PAIR_OPEN),))), True)
        self.assertIs(satisfied(GROUP, THREE, (W9, ((2, A8),))), False)
        self.assertIs(satisfied(GROUP, THREE, (W9, ((1, PAIR_OPEN),))), False)
        for value in range(11):
            self.assertIs(satisfied(GROUP, THREE, (W9, ((0, ((value,), ())),))), False)
        self.assertIs(satisfied(GROUP, TWO, (W9, ((1, A8),))), False)
        self.assertIs(satisfied(GROUP, TWO, (W9, ((0, B6),))), False)

    def test_one_of_two_choices_is_wrong(self):
        self.assertIs(satisfied(GROUP, BOTH, ((5, 1), ((0, A8), (1, B6)))), True)
        self.assertIs(satisfied(GROUP, BOTH, ((5, 1), ((0, A8), (1, A8)))), False)
        self.assertIs(satisfied(GROUP, BOTH, ((5, 1), ((0, B6), (1, B6)))), False)
        self.assertIs(satisfied(GROUP, BOTH, ((5, 1), ((0, A8), (0, B6)))), False)
        self.assertIs(satisfied(GROUP, BOTH, ((5, 2), ((0, A8), (1, B6)))), False)

    def test_index_of_no_branch(self):
        for chosen in [-1, -2, -3, 2, 3, 100]:
            self.assertIs(satisfied(GROUP, TWO, (W9, ((chosen, A8),))), False, chosen)
            self.assertIs(satisfied(GROUP, TWO, (W9, ((chosen, B6),))), False, chosen)

    def test_too_many_and_too_few(self):
        for witness in [(W9, ()), (W9, ((0, A8), (0, A8))), ((5, 0), ((0, A8),)), ((), ((0, A8),)),
                        (W9, ((0, ((3, 0), ())),)), (W9, ((0, ((), ())),)), (W9, ((0, ((3,), ((0, A8),))),))]:
            self.assertIs(satisfied(GROUP, TWO, witness), False, witness)

    def test_values_count_modulo_q(self):
        self.assertIs(satisfied(GROUP, TWO, ((-6,), ((0, ((14,), ())),))), True)


class TapeTest(unittest.TestCase):

    def test_sizes(self):
        expected = [(NOTHING, 0), (PAIR, 2), (NEVER, 1), (SINGLE, 2), (TWO, 4), (THREE, 7), (ONLY, 6), (BOTH, 8),
                    (INNER, 6), (DEEP, 20)]
        for claim, size in expected:
            self.assertEqual(tape_size(claim), size)

    def test_order(self):
        expected = [
            (NOTHING, ((), ())),
            (PAIR, ((0, 1), ())),
            (SINGLE, ((0,), (((), (((1,), ()),)),))),
            (TWO, ((0,), (((1,), (((2,), ()), ((3,), ()))),))),
            (THREE, ((0,), (((1, 2), (((3,), ()), ((4,), ()), ((5, 6), ()))),))),
            (ONLY, ((), (((0, 1, 2), (((3,), ()), ((4,), ()), ((5,), ()), ((), ()))),))),
            (BOTH, ((0, 1), (((2,), (((3,), ()), ((4,), ()))), ((5,), (((6,), ()), ((7,), ())))))),
            (INNER, ((0,), (((1,), (((2,), ()), ((3, 4), ()))), ((), (((5,), ()),))))),
            (DEEP, ((0, 1), (
                ((2, 3), (((4,), ()),
                          ((5,), (((6,), (((7,), ()), ((8, 9), ()))), ((), (((10,), ()),)))),
                          ((11,), ()))),
                ((12,), (((13,), (((14,), (((15,), ()), ((16, 17), ()))), ((), (((18,), ()),)))),
                         ((19,), ())))))),
        ]
        for claim, tape in expected:
            self.assertEqual(tape_of(claim, list(range(tape_size(claim)))), tape)

    def test_numbers_of_the_tape_in_order(self):
        for claim, _ in CASES:
            numbers = [10 * at + 3 for at in range(tape_size(claim))]
            self.assertEqual(numbers_of(tape_of(claim, numbers)), numbers)

    def test_tuples_at_every_depth(self):
        for claim, _ in CASES:
            numbers = list(range(tape_size(claim)))
            tape = tape_of(claim, numbers)
            self.assertTrue(only_tuples(tape))
            self.assertEqual(tape_of(claim, tuple(numbers)), tape)
            self.assertEqual(numbers, list(range(tape_size(claim))))


class SimulateTest(unittest.TestCase):

    def test_statement(self):
        for numbers in itertools.product([0, 3, 10], repeat=2):
            for challenge in range(11):
                first, replied = simulate(GROUP, PAIR, challenge, (numbers, ()))
                self.assertEqual(replied, (numbers, ()))
                self.assertEqual(first, (simulated(GROUP, PAIR.statement, challenge, numbers), ()))

    def test_by_its_definition(self):
        for claim, _ in CASES:
            for tape in tapes_of(GROUP, claim):
                for challenge in range(11):
                    first, replied = simulate(GROUP, claim, challenge, tape)
                    self.check(claim, challenge, tape, first, replied)

    def check(self, claim, challenge, tape, first, replied):
        self.assertEqual(replied[0], tape[0])
        self.assertEqual(first[0], simulated(GROUP, claim.statement, challenge, tape[0]))
        self.assertEqual((len(first[1]), len(replied[1])), (len(claim.choices), len(claim.choices)))
        for branches, (shares, tapes), moves, pairs in zip(claim.choices, tape[1], first[1], replied[1]):
            challenges = [pair[0] for pair in pairs]
            self.assertEqual(tuple(challenges[:-1]), shares)
            self.assertEqual(challenges[-1], (challenge - sum(shares)) % 11)
            self.assertEqual((len(moves), len(pairs)), (len(branches), len(branches)))
            for branch, inner, move, (part, inner_reply) in zip(branches, tapes, moves, pairs):
                self.check(branch, part, inner, move, inner_reply)

    def test_fits(self):
        for claim, _ in CASES + [(NEVER, []), (leaf("x", 9, choices=[[NEVER], [NEVER, NEVER]]), [])]:
            for tape in tapes_of(GROUP, claim):
                for challenge in range(11):
                    first, replied = simulate(GROUP, claim, challenge, tape)
                    self.assertIs(fits(GROUP, claim, first, challenge, replied), True)
                    self.assertTrue(only_tuples((first, replied)))

    def test_fits_for_all_tapes_of_a_small_group(self):
        for claim, _ in SMALL_CASES[:2]:
            for tape in all_tapes(SMALL, claim):
                for challenge in range(3):
                    first, replied = simulate(SMALL, claim, challenge, tape)
                    self.assertIs(fits(SMALL, claim, first, challenge, replied), True)
                    self.assertEqual(simulating_tape(claim, replied), tape)

    def test_returns_a_pair(self):
        made = simulate(GROUP, DEEP, 3, tapes_of(GROUP, DEEP)[2])
        self.assertIs(type(made), tuple)
        self.assertEqual(len(made), 2)


class AnswerTest(unittest.TestCase):

    def test_statement(self):
        for challenge in range(11):
            witness, tape = ((5, 1), ()), ((7, 10), ())
            self.assertEqual(first_move(GROUP, PAIR, witness, tape),
                             (simulated(GROUP, PAIR.statement, 0, (7, 10)), ()))
            self.assertEqual(answer(GROUP, PAIR, witness, tape, challenge),
                             (reply(GROUP, (5, 1), (7, 10), challenge), ()))

    def test_by_its_definition(self):
        for claim, witnesses in CASES:
            for witness in witnesses:
                for tape in tapes_of(GROUP, claim):
                    first = first_move(GROUP, claim, witness, tape)
                    for challenge in range(11):
                        replied = answer(GROUP, claim, witness, tape, challenge)
                        self.check(claim, witness, challenge, tape, first, replied)

    def check(self, claim, witness, challenge, tape, first, replied):
        self.assertEqual(replied[0], reply(GROUP, witness[0], tape[0], challenge))
        self.assertEqual(first[0], simulated(GROUP, claim.statement, 0, tape[0]))
        self.assertEqual((len(first[1]), len(replied[1])), (len(claim.choices), len(claim.choices)))
        for at, branches in enumerate(claim.choices):
            (chosen, inner), (shares, tapes) = witness[1][at], tape[1][at]
            challenges = [pair[0] for pair in replied[1][at]]
            self.assertEqual(tuple(challenges[:chosen] + challenges[chosen + 1:]), shares)
            self.assertEqual(sum(challenges) % 11, challenge)
            for index, branch in enumerate(branches):
                move, (part, inner_reply) = first[1][at][index], replied[1][at][index]
                self.assertTrue(0 <= part < 11)
                if index == chosen:
                    self.check(branch, inner, part, tapes[index], move, inner_reply)
                else:
                    self.assertEqual((move, inner_reply), simulate(GROUP, branch, part, tapes[index]))

    def test_fits_for_every_challenge_and_true_branch(self):
        for claim, witnesses in CASES:
            for first, challenge, replied in views(GROUP, claim, witnesses, range(11)):
                self.assertIs(fits(GROUP, claim, first, challenge, replied), True, (first, challenge, replied))
                self.assertTrue(only_tuples((first, replied)))

    def test_fits_for_all_tapes_of_a_small_group(self):
        for claim, witnesses in SMALL_CASES[:2]:
            for witness, tape in itertools.product(witnesses, all_tapes(SMALL, claim)):
                first = first_move(SMALL, claim, witness, tape)
                for challenge in range(3):
                    replied = answer(SMALL, claim, witness, tape, challenge)
                    self.assertIs(fits(SMALL, claim, first, challenge, replied), True)

    def test_first_branch_middle_branch_and_last_branch(self):
        claim = Claim(Statement([], []), [[leaf("d", 8)] * 3])
        tape = tape_of(claim, [4, 9, 1, 2, 3])
        expected = {0: (7, 4, 9), 1: (4, 7, 9), 2: (4, 9, 7)}
        for chosen, challenges in expected.items():
            witness = ((), ((chosen, A8),))
            replied = answer(GROUP, claim, witness, tape, 9)
            self.assertEqual(tuple(pair[0] for pair in replied[1][0]), challenges)
            self.assertIs(fits(GROUP, claim, first_move(GROUP, claim, witness, tape), 9, replied), True)

    def test_wrong_witness_does_not_fit(self):
        tape = tape_of(TWO, [1, 2, 3, 4])
        for witness in [((6,), ((0, A8),)), (W9, ((0, B6),)), (W9, ((1, A8),))]:
            first = first_move(GROUP, TWO, witness, tape)
            fitting = [challenge for challenge in range(11)
                       if fits(GROUP, TWO, first, challenge, answer(GROUP, TWO, witness, tape, challenge))]
            self.assertLessEqual(len(fitting), 1, witness)


class FitsTest(unittest.TestCase):

    def some_views(self):
        for claim, witnesses in CASES:
            for first, challenge, replied in views(GROUP, claim, witnesses, [0, 1, 7, 10]):
                yield claim, first, challenge, replied

    def check_no(self, claim, first, challenge, replied):
        self.assertIs(fits(GROUP, claim, first, challenge, replied), False, (first, challenge, replied))

    def test_another_challenge(self):
        for claim, first, challenge, replied in self.some_views():
            for other in range(11):
                if other != challenge and claim != NOTHING:
                    self.check_no(claim, first, other, replied)

    def test_challenge_out_of_range(self):
        for claim, first, challenge, replied in self.some_views():
            for other in [challenge - 11, challenge + 11]:
                self.check_no(claim, first, other, replied)

    def test_one_number_of_the_reply_changed(self):
        for claim, first, challenge, replied in self.some_views():
            for change in [1, 5, 10]:
                for wrong in changed(replied, lambda number: (number + change) % 11):
                    self.check_no(claim, first, challenge, wrong)

    def test_number_right_modulo_q_only(self):
        for claim, first, challenge, replied in self.some_views():
            for change in [11, -11, 11 * 10 ** 20]:
                for wrong in changed(replied, lambda number: number + change):
                    self.check_no(claim, first, challenge, wrong)

    def test_number_just_out_of_range(self):
        # x stands in no equation, so only the range can be wrong.
        claim = Claim(Statement(["x"], []), [])
        for number in range(11):
            self.assertIs(fits(GROUP, claim, ((), ()), 3, ((number,), ())), True)
        for number in [-1, 11, -11, 12, 10 ** 20]:
            self.check_no(claim, ((), ()), 3, ((number,), ()))

    def test_challenges_of_branches_out_of_range(self):
        # The branches have no equations, so only the challenges can be wrong.
        claim = Claim(Statement([], []), [[NOTHING, NOTHING]])
        first = ((), ((((), ()), ((), ())),))
        for one, other in itertools.product(range(-11, 23), repeat=2):
            replied = ((), (((one, ((), ())), (other, ((), ()))),))
            expected = 0 <= one < 11 and 0 <= other < 11 and (one + other) % 11 == 4
            self.assertIs(fits(GROUP, claim, first, 4, replied), expected, (one, other))

    def test_one_element_of_the_first_move_changed(self):
        for claim, first, challenge, replied in self.some_views():
            for change in [lambda number: number * 2 % 23, lambda number: -number % 23, lambda number: number + 23,
                           lambda number: number - 23, lambda number: 0]:
                for wrong in changed(first, change):
                    self.check_no(claim, wrong, challenge, replied)

    def test_one_too_many_and_one_too_few(self):
        for claim, first, challenge, replied in self.some_views():
            for wrong in longer_and_shorter(first):
                self.check_no(claim, wrong, challenge, replied)
            for wrong in longer_and_shorter(replied):
                self.check_no(claim, first, challenge, wrong)

    def test_branch_too_few_in_both(self):
        # What is left has the right sum, and each of it fits.
        first, replied = simulate(GROUP, TWO, 5, tape_of(TWO, [3, 5, 1, 2]))
        self.assertEqual(replied[1][0][1][0], 0)
        short_first = (first[0], (first[1][0][:1],))
        short_reply = (replied[0], (replied[1][0][:1],))
        self.assertIs(fits(GROUP, TWO, first, 5, replied), True)
        self.check_no(TWO, short_first, 5, short_reply)
        self.check_no(TWO, (first[0], ()), 5, (replied[0], ()))

    def test_branch_too_many_in_both(self):
        first, replied = simulate(GROUP, SINGLE, 5, tape_of(SINGLE, [3, 4]))
        more_first, more_reply = simulate(GROUP, leaf("a", 8), 0, ((1,), ()))
        self.check_no(SINGLE, (first[0], (first[1][0] + (more_first,),)), 5,
                      (replied[0], (replied[1][0] + ((0, more_reply),),)))
        self.check_no(SINGLE, (first[0], first[1] * 2), 5, (replied[0], replied[1] * 2))

    def test_another_claim(self):
        for claim, first, challenge, replied in self.some_views():
            for other, _ in CASES:
                if other != claim:
                    self.check_no(other, first, challenge, replied)

    def test_branches_swapped(self):
        first, replied = simulate(GROUP, TWO, 5, tape_of(TWO, [3, 4, 1, 2]))
        self.check_no(TWO, (first[0], (first[1][0][::-1],)), 5, (replied[0], (replied[1][0][::-1],)))

    def test_all_replies_of_a_small_group(self):
        # Exactly those replies fit that a tape simulates.
        first, challenge = ((1,), ((((2,), ()), ((4,), ())),)), 2
        fitting = []
        for s, one, d, other, e in itertools.product(range(3), repeat=5):
            replied = ((s,), (((one, ((d,), ())), (other, ((e,), ()))),))
            if fits(SMALL, SMALL_TWO, first, challenge, replied):
                fitting.append(replied)
        simulations = []
        for tape in all_tapes(SMALL, SMALL_TWO):
            made, replied = simulate(SMALL, SMALL_TWO, challenge, tape)
            if made == first:
                simulations.append(replied)
        self.assertEqual(sorted(fitting), sorted(simulations))
        self.assertGreater(len(fitting), 0)


class EmptyChoiceTest(unittest.TestCase):
    """A choice without branches is beyond what point [6] allows; it raises no error."""

    def test_nothing_satisfies(self):
        claim = Claim(PAIR.statement, [[]])
        for chosen in [-1, 0, 1]:
            self.assertIs(satisfied(GROUP, claim, ((5, 1), ((chosen, A8),))), False)

    def test_tape_and_simulation(self):
        claim = Claim(PAIR.statement, [[], [leaf("a", 8)]])
        self.assertEqual(tape_size(claim), 3)
        tape = tape_of(claim, [7, 8, 9])
        self.assertEqual(tape, ((7, 8), (((), ()), ((), (((9,), ()),)))))
        for challenge in range(11):
            first, replied = simulate(GROUP, claim, challenge, tape)
            # The sum of no challenges is 0.
            self.assertIs(fits(GROUP, claim, first, challenge, replied), challenge == 0)


class ExtractTest(unittest.TestCase):

    def check(self, claim, first, one, other):
        self.assertIs(fits(GROUP, claim, first, *one), True)
        self.assertIs(fits(GROUP, claim, first, *other), True)
        witness = extract(GROUP, claim, one, other)
        self.assertTrue(only_tuples(witness))
        self.assertIs(satisfied(GROUP, claim, witness), True, witness)
        self.check_branches(witness, one[1], other[1])
        return witness

    def check_branches(self, witness, one, other):
        for (chosen, inner), pairs, other_pairs in zip(witness[1], one[1], other[1]):
            for at in range(chosen):
                self.assertEqual(pairs[at][0], other_pairs[at][0])
            self.assertNotEqual(pairs[chosen][0], other_pairs[chosen][0])
            self.check_branches(inner, pairs[chosen][1], other_pairs[chosen][1])

    def test_one_witness_comes_back(self):
        for claim, witnesses in CASES:
            for witness, tape in itertools.product(witnesses, tapes_of(GROUP, claim)):
                first = first_move(GROUP, claim, witness, tape)
                for one, other in [(0, 1), (1, 0), (3, 10), (9, 2), (10, 0)]:
                    pairs = [(c, answer(GROUP, claim, witness, tape, c)) for c in [one, other]]
                    self.assertEqual(self.check(claim, first, *pairs), witness)

    def test_two_witnesses(self):
        for claim, witnesses in CASES:
            for one, other in itertools.product(witnesses, repeat=2):
                for tape in tapes_of(GROUP, claim):
                    first = first_move(GROUP, claim, one, tape)
                    self.check_two(claim, first, one, other, tape)

    def check_two(self, claim, first, one, other, tape):
        for at, same in [(3, 3), (3, 8), (0, 10)]:
            view = answer(GROUP, claim, one, tape, same)
            other_tape = tape_of_view(GROUP, claim, other, same, view)
            self.assertEqual(first_move(GROUP, claim, other, other_tape), first)
            pair = (at, answer(GROUP, claim, one, tape, at))
            for challenge in [1, 7]:
                other_pair = (challenge, answer(GROUP, claim, other, other_tape, challenge))
                self.check(claim, first, pair, other_pair)
                self.check(claim, first, other_pair, pair)

    def test_first_branch_with_different_challenges(self):
        # Both branches are answered with different challenges: the first one is taken.
        witnesses = CASES[3][1]
        tape = tape_of(TWO, [1, 2, 3, 4])
        other_tape = tape_of_view(GROUP, TWO, witnesses[1], 8, answer(GROUP, TWO, witnesses[0], tape, 8))
        one = (3, answer(GROUP, TWO, witnesses[0], tape, 3))
        other = (5, answer(GROUP, TWO, witnesses[1], other_tape, 5))
        for at in [0, 1]:
            self.assertNotEqual(one[1][1][0][at][0], other[1][1][0][at][0])
        self.assertEqual(extract(GROUP, TWO, one, other), witnesses[0])
        # With equal challenges at the first branch, the second one is taken.
        last = (9, answer(GROUP, TWO, witnesses[1], other_tape, 9))
        self.assertEqual(other[1][1][0][0], last[1][1][0][0])
        self.assertEqual(extract(GROUP, TWO, other, last), witnesses[1])

    def test_all_replies_of_a_small_group(self):
        first = first_move(SMALL, SMALL_TWO, SMALL_CASES[0][1][0], tape_of(SMALL_TWO, [1, 2, 0, 2]))
        fitting = []
        for challenge, tape in itertools.product(range(3), all_tapes(SMALL, SMALL_TWO)):
            made, replied = simulate(SMALL, SMALL_TWO, challenge, tape)
            if made == first:
                fitting.append((challenge, replied))
        for one, other in itertools.permutations(fitting, 2):
            if one[0] != other[0]:
                self.assertIs(satisfied(SMALL, SMALL_TWO, extract(SMALL, SMALL_TWO, one, other)), True)


class TapeOfViewTest(unittest.TestCase):

    def test_tape_of_the_witness_itself_comes_back(self):
        for claim, witnesses in CASES:
            for witness, tape in itertools.product(witnesses, tapes_of(GROUP, claim)):
                for challenge in range(11):
                    replied = answer(GROUP, claim, witness, tape, challenge)
                    found = tape_of_view(GROUP, claim, witness, challenge, replied)
                    self.assertEqual(found, tape)
                    self.assertTrue(only_tuples(found))

    def test_another_witness_gives_the_same(self):
        for claim, witnesses in CASES:
            for other in witnesses:
                for first, challenge, replied in views(GROUP, claim, witnesses, range(11)):
                    found = tape_of_view(GROUP, claim, other, challenge, replied)
                    self.assertEqual(first_move(GROUP, claim, other, found), first)
                    self.assertEqual(answer(GROUP, claim, other, found, challenge), replied)
                    self.assertTrue(all(0 <= number < 11 for number in numbers_of(found)))

    def test_simulated_view(self):
        for claim, witnesses in CASES:
            for tape, witness in itertools.product(tapes_of(GROUP, claim), witnesses):
                for challenge in range(11):
                    first, replied = simulate(GROUP, claim, challenge, tape)
                    found = tape_of_view(GROUP, claim, witness, challenge, replied)
                    self.assertEqual(first_move(GROUP, claim, witness, found), first)
                    self.assertEqual(answer(GROUP, claim, witness, found, challenge), replied)

    def test_values_that_are_not_reduced(self):
        witness = ((16,), ((0, ((-8,), ())),))
        tape = tape_of(TWO, [1, 2, 3, 4])
        for challenge in range(11):
            replied = answer(GROUP, TWO, witness, tape, challenge)
            self.assertEqual(tape_of_view(GROUP, TWO, witness, challenge, replied), tape)

    def test_exactly_one_tape(self):
        for claim, witnesses in SMALL_CASES:
            tapes = all_tapes(SMALL, claim)
            for challenge in [0, 2]:
                first, replied = simulate(SMALL, claim, challenge, tapes[len(tapes) * 5 // 7])
                for witness in witnesses:
                    found = [tape for tape in tapes if answer(SMALL, claim, witness, tape, challenge) == replied
                             and first_move(SMALL, claim, witness, tape) == first]
                    self.assertEqual(found, [tape_of_view(SMALL, claim, witness, challenge, replied)])


class PlaceTest(unittest.TestCase):

    def test_names_and_arguments(self):
        expected = {
            "Claim": ["statement", "choices"],
            "satisfied": ["group", "claim", "witness"],
            "tape_size": ["claim"],
            "tape_of": ["claim", "numbers"],
            "simulate": ["group", "claim", "challenge", "tape"],
            "first_move": ["group", "claim", "witness", "tape"],
            "answer": ["group", "claim", "witness", "tape", "challenge"],
            "fits": ["group", "claim", "first", "challenge", "replied"],
            "extract": ["group", "claim", "one", "other"],
            "tape_of_view": ["group", "claim", "witness", "challenge", "replied"],
        }
        for name, arguments in expected.items():
            part = getattr(module, name)
            self.assertEqual(part.__module__, "vouchdoor.claim")
            self.assertEqual(list(inspect.signature(part).parameters), arguments)
        self.assertIn("__eq__", vars(Claim))


if __name__ == "__main__":
    unittest.main()
