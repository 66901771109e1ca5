"""Tests of vouchdoor.statement: statements (point [4]) and showing values (point [5])."""

import inspect
import itertools
import unittest

from vouchdoor import statement as module
from vouchdoor.group import Group
from vouchdoor.statement import Statement, extracted, holds, reply, simulated

GROUP = Group(23, 11, [2, 3, 4])
SMALL = Group(7, 3, [2, 4])
ELEMENTS = [1, 2, 3, 4, 6, 8, 9, 12, 13, 16, 18]


def direct(group, statement, exponents):
    """For each equation the product of its bases, one factor after the other."""
    products = []
    for _, factors in statement.equations:
        product = 1
        for base, unknown in factors:
            product = product * pow(base, exponents[statement.unknowns.index(unknown)] % group.q, group.p) % group.p
        products.append(product)
    return tuple(products)


def true_statement(group, unknowns, factors, values):
    """The statement with these factors that is true for these values."""
    open_one = Statement(unknowns, [(1, part) for part in factors])
    return Statement(unknowns, list(zip(direct(group, open_one, values), factors)))


# Unknowns, factors of each equation, and values that make it true.
CASES = [
    (["x"], [[(2, "x")]], [5]),
    (["x"], [[(2, "x")]], [0]),
    (["x", "y"], [[(2, "x"), (3, "y")]], [5, 1]),
    (["y", "x"], [[(2, "x"), (3, "y")]], [5, 1]),
    (["x", "y"], [[(2, "x"), (3, "y")], [(13, "y")], []], [10, 7]),
    (["x"], [[(2, "x"), (3, "x")]], [4]),
    (["x"], [[(2, "x"), (2, "x")]], [4]),
    (["r", "s", "t"], [[(18, "t"), (16, "r")], [(9, "s"), (9, "r")]], [3, 0, 9]),
    ([], [[]], []),
    ([], [], []),
    (["x"], [], [6]),
]


def cases():
    return [(true_statement(GROUP, *case), case[2]) for case in CASES]


class StatementTest(unittest.TestCase):

    def test_fields(self):
        made = Statement(("x", "y"), ((4, ((2, "x"), (3, "y"))), (1, ())))
        self.assertEqual(made.unknowns, ("x", "y"))
        self.assertEqual(made.equations, ((4, ((2, "x"), (3, "y"))), (1, ())))

    def test_fields_are_tuples_also_of_lists(self):
        made = Statement(["x", "y"], [[4, [[2, "x"], (3, "y")]], (1, [])])
        self.assertEqual(made.unknowns, ("x", "y"))
        # A tuple is never equal to a list, so this asks for tuples at every depth.
        self.assertEqual(made.equations, ((4, ((2, "x"), (3, "y"))), (1, ())))

    def test_empty(self):
        made = Statement([], [])
        self.assertEqual((made.unknowns, made.equations), ((), ()))

    def test_lists_may_change_afterwards(self):
        unknowns = ["x", "y"]
        factors = [(2, "x"), [3, "y"]]
        equations = [(4, factors)]
        made = Statement(unknowns, equations)
        self.assertEqual((unknowns, equations), (["x", "y"], [(4, [(2, "x"), [3, "y"]])]))
        unknowns[0] = "z"
        unknowns.append("w")
        factors[1][0] = 9
        factors.pop(0)
        equations.append((1, []))
        self.assertEqual(made, Statement(["x", "y"], [(4, [(2, "x"), (3, "y")])]))
        self.assertIs(holds(GROUP, made, [5, 1]), True)

    def test_equal(self):
        one = Statement(["x", "y"], [(4, [(2, "x"), (3, "y")])])
        same = Statement(("x", "y"), ((4, ((2, "x"), (3, "y"))),))
        self.assertIs(one == same, True)
        self.assertIs(one != same, False)
        self.assertIs(Statement([], []) == Statement((), ()), True)

    def test_unequal(self):
        equations = [(4, [(2, "x"), (3, "y")]), (2, [(2, "x")])]
        one = Statement(["x", "y"], equations)
        others = [
            Statement(["x", "y", "z"], equations),
            Statement(["x", "z"], equations),
            Statement(["y", "x"], equations),
            Statement(["x", "y"], equations[::-1]),
            Statement(["x", "y"], equations[:1]),
            Statement(["x", "y"], []),
            Statement(["x", "y"], equations + [(1, [])]),
            Statement(["x", "y"], [(6, equations[0][1]), equations[1]]),
            Statement(["x", "y"], [(4, [(3, "y"), (2, "x")]), equations[1]]),
            Statement(["x", "y"], [(4, [(2, "y"), (3, "x")]), equations[1]]),
            Statement(["x", "y"], [(4, [(2, "x"), (9, "y")]), equations[1]]),
        ]
        for other in others:
            self.assertIs(one == other, False, other.equations)
            self.assertIs(one != other, True, other.equations)

    def test_unequal_to_other_things(self):
        made = Statement(["x"], [])
        for other in [None, 0, "x", ("x", ()), (("x",), ())]:
            self.assertIs(made == other, False)


class HoldsTest(unittest.TestCase):

    def test_values_that_satisfy_all_equations(self):
        for made, values in cases():
            self.assertIs(holds(GROUP, made, values), True, made.equations)
            self.assertIs(holds(GROUP, made, tuple(values)), True, made.equations)

    def test_values_count_modulo_q(self):
        for made, values in cases():
            self.assertIs(holds(GROUP, made, [value - 11 for value in values]), True, made.equations)
            self.assertIs(holds(GROUP, made, [value + 22 for value in values]), True, made.equations)

    def test_one_value_changed(self):
        for made, values in cases():
            for at in range(len(values) if made.equations else 0):
                for change in range(1, 11):
                    wrong = list(values)
                    wrong[at] = (wrong[at] + change) % 11
                    self.assertIs(holds(GROUP, made, wrong), False, (made.equations, wrong))

    def test_all_values_of_a_small_group(self):
        made = Statement(["x", "y", "z"], [(2, [(2, "x"), (4, "y")]), (4, [(4, "z"), (2, "y")])])
        for values in itertools.product(range(-3, 4), repeat=3):
            expected = direct(SMALL, made, values) == (2, 4)
            self.assertIs(holds(SMALL, made, list(values)), expected, values)

    def test_one_of_several_equations_is_wrong(self):
        right = [(9, [(2, "x")]), (4, [(2, "x"), (3, "y")]), (3, [(3, "y")])]
        self.assertIs(holds(GROUP, Statement(["x", "y"], right), [5, 1]), True)
        for at in range(3):
            for element in ELEMENTS:
                equations = list(right)
                equations[at] = (element, right[at][1])
                expected = element == right[at][0]
                self.assertIs(holds(GROUP, Statement(["x", "y"], equations), [5, 1]), expected, (at, element))

    def test_no_unknowns_and_no_equations(self):
        self.assertIs(holds(GROUP, Statement([], []), []), True)
        self.assertIs(holds(GROUP, Statement([], []), ()), True)
        for value in range(11):
            self.assertIs(holds(GROUP, Statement(["x"], []), [value]), True)

    def test_equation_without_factors(self):
        for element in ELEMENTS:
            self.assertIs(holds(GROUP, Statement([], [(element, [])]), []), element == 1, element)
            self.assertIs(holds(GROUP, Statement(["x"], [(element, [])]), [3]), element == 1, element)

    def test_one_unknown_twice_in_one_equation(self):
        made = Statement(["x"], [(13, [(2, "x"), (3, "x")])])
        self.assertEqual([value for value in range(11) if holds(GROUP, made, [value])], [2])
        twice = Statement(["x"], [(3, [(2, "x"), (2, "x")])])
        self.assertEqual([value for value in range(11) if holds(GROUP, twice, [value])], [4])
        never = Statement(["x"], [(3, [(2, "x"), (12, "x")])])
        self.assertEqual([value for value in range(11) if holds(GROUP, never, [value])], [])

    def test_bases_that_are_none_of_the_group(self):
        made = Statement(["x", "y"], [(8, [(13, "x"), (18, "y")])])
        expected = [(x, y) for x in range(11) for y in range(11) if pow(13, x, 23) * pow(18, y, 23) % 23 == 8]
        self.assertEqual(len(expected), 11)
        found = [(x, y) for x in range(11) for y in range(11) if holds(GROUP, made, [x, y])]
        self.assertEqual(found, expected)
        self.assertIs(holds(GROUP, Statement(["x"], [(1, [(1, "x")])]), [7]), True)
        self.assertIs(holds(GROUP, Statement(["x"], [(2, [(1, "x")])]), [7]), False)

    def test_too_many_and_too_few_values(self):
        for made, values in cases():
            self.assertIs(holds(GROUP, made, list(values) + [0]), False)
            if values:
                self.assertIs(holds(GROUP, made, values[:-1]), False)

    def test_nothing_modified(self):
        made = Statement(["x", "y"], [(4, [(2, "x"), (3, "y")])])
        values = [16, -10]
        self.assertIs(holds(GROUP, made, values), True)
        self.assertEqual(values, [16, -10])


class ReplyTest(unittest.TestCase):

    def test_by_its_definition(self):
        for values in itertools.product([0, 1, 7, 10], repeat=2):
            for tape in itertools.product([0, 1, 4, 10], repeat=2):
                for challenge in range(11):
                    expected = tuple((number + challenge * value) % 11 for number, value in zip(tape, values))
                    found = reply(GROUP, list(values), list(tape), challenge)
                    self.assertEqual(found, expected)
                    self.assertEqual(reply(GROUP, values, tape, challenge), expected)

    def test_example(self):
        self.assertEqual(reply(GROUP, [5, 1], [7, 10], 3), (0, 2))

    def test_challenge_0_gives_the_tape(self):
        self.assertEqual(reply(GROUP, [5, 1], [7, 10], 0), (7, 10))
        self.assertIs(type(reply(GROUP, [5, 1], [7, 10], 0)), tuple)

    def test_none(self):
        self.assertEqual(reply(GROUP, [], [], 3), ())

    def test_values_count_modulo_q(self):
        self.assertEqual(reply(GROUP, [-6, 12 + 11 * 10 ** 20], [7, 10], 3), (0, 2))

    def test_nothing_modified(self):
        values, tape = [5, 1], [7, 10]
        reply(GROUP, values, tape, 3)
        self.assertEqual((values, tape), ([5, 1], [7, 10]))


class SimulatedTest(unittest.TestCase):

    def test_challenge_0_gives_the_products(self):
        for made, values in cases():
            for tape in [values, [10] * len(values), [0] * len(values)]:
                found = simulated(GROUP, made, 0, tape)
                self.assertEqual(found, direct(GROUP, made, tape))
                self.assertIs(type(found), tuple)
                self.assertEqual(simulated(GROUP, made, 0, tuple(tape)), found)

    def test_reply_fits_to_the_first_move_of_its_tape(self):
        for made, values in cases():
            for tape in [[3, 9, 5], [0, 0, 0], [10, 1, 10]]:
                first = direct(GROUP, made, tape)
                for challenge in range(11):
                    replies = reply(GROUP, values, tape[:len(values)], challenge)
                    self.assertEqual(simulated(GROUP, made, challenge, replies), first)

    def test_reply_fits_for_all_tapes_of_a_small_group(self):
        for values in itertools.product(range(3), repeat=2):
            made = true_statement(SMALL, ["x", "y"], [[(2, "x"), (4, "y")], [(4, "x")], []], values)
            for tape in itertools.product(range(3), repeat=2):
                for challenge in range(3):
                    replies = reply(SMALL, values, tape, challenge)
                    self.assertEqual(simulated(SMALL, made, challenge, replies), direct(SMALL, made, tape))

    def test_reply_of_wrong_values_does_not_fit(self):
        made = Statement(["x"], [(9, [(2, "x")])])
        for value in [0, 1, 4, 6, 10]:
            for challenge in range(1, 11):
                replies = reply(GROUP, [value], [7], challenge)
                self.assertNotEqual(simulated(GROUP, made, challenge, replies), direct(GROUP, made, [7]))

    def test_drawn_replies_fit(self):
        # Also where no values satisfy the statement.
        equations = [(13, [(2, "x"), (3, "y")]), (18, [(2, "x")]), (6, []), (1, [(9, "y"), (9, "y")])]
        made = Statement(["x", "y"], equations)
        for replies in itertools.product([0, 1, 6, 10], repeat=2):
            for challenge in range(11):
                found = simulated(GROUP, made, challenge, list(replies))
                products = direct(GROUP, made, replies)
                self.assertEqual(len(found), 4)
                for move, product, (element, _) in zip(found, products, equations):
                    self.assertEqual(move * pow(element, challenge, 23) % 23, product)
                    self.assertTrue(GROUP.is_element(move))

    def test_example(self):
        made = Statement(["x"], [(9, [(2, "x")])])
        self.assertEqual(simulated(GROUP, made, 1, [5]), (1,))
        self.assertEqual(simulated(GROUP, made, 1, [6]), (2,))
        self.assertEqual(simulated(GROUP, made, 2, [0]), (2,))

    def test_none(self):
        self.assertEqual(simulated(GROUP, Statement([], []), 4, []), ())
        self.assertEqual(simulated(GROUP, Statement(["x"], []), 4, [3]), ())

    def test_nothing_modified(self):
        made = Statement(["x", "y"], [(4, [(2, "x"), (3, "y")])])
        replies = [5, 10]
        simulated(GROUP, made, 3, replies)
        self.assertEqual(replies, [5, 10])
        self.assertEqual(made, Statement(["x", "y"], [(4, [(2, "x"), (3, "y")])]))


class ExtractedTest(unittest.TestCase):

    def test_values_come_back(self):
        values, tape = [5, 0, 10], [7, 10, 0]
        for one, other in itertools.permutations(range(11), 2):
            first = (one, reply(GROUP, values, tape, one))
            second = (other, reply(GROUP, values, tape, other))
            found = extracted(GROUP, first, second)
            self.assertEqual(found, (5, 0, 10), (one, other))
            self.assertIs(type(found), tuple)

    def test_values_come_back_modulo_q(self):
        values, tape = [-6, 33, 21 + 11 * 10 ** 20], (7, 10, 0)
        first = (0, reply(GROUP, values, tape, 0))
        second = (9, reply(GROUP, values, tape, 9))
        self.assertEqual(extracted(GROUP, first, second), (5, 0, 10))
        self.assertEqual(extracted(GROUP, second, first), (5, 0, 10))

    def test_lists(self):
        self.assertEqual(extracted(GROUP, (0, [7, 10]), (3, [0, 2])), (5, 1))
        self.assertEqual(extracted(GROUP, [3, (0, 2)], [0, (7, 10)]), (5, 1))

    def test_replies_that_fit_show_values_that_satisfy(self):
        made = Statement(["x", "y"], [(2, [(2, "x"), (4, "y")])])
        pairs = list(itertools.product(range(3), itertools.product(range(3), repeat=2)))
        met = 0
        for one, other in itertools.product(pairs, repeat=2):
            same = simulated(SMALL, made, *one) == simulated(SMALL, made, *other)
            if one[0] != other[0] and same:
                met += 1
                self.assertIs(holds(SMALL, made, extracted(SMALL, one, other)), True, (one, other))
        self.assertGreater(met, 100)

    def test_large_group(self):
        group = Group(999959, 499979, [4, 9])
        values, tape = [123456, 499978], [1, 2]
        pairs = [(challenge, reply(group, values, tape, challenge)) for challenge in [0, 1, 499978]]
        for one, other in itertools.permutations(pairs, 2):
            self.assertEqual(extracted(group, one, other), (123456, 499978))

    def test_none(self):
        self.assertEqual(extracted(GROUP, (1, ()), (2, ())), ())

    def test_nothing_modified(self):
        one, other = (0, [7, 10]), (3, [0, 2])
        extracted(GROUP, one, other)
        self.assertEqual((one, other), ((0, [7, 10]), (3, [0, 2])))


class PlaceTest(unittest.TestCase):

    def test_names_and_arguments(self):
        expected = {
            "holds": ["group", "statement", "values"],
            "reply": ["group", "values", "tape", "challenge"],
            "simulated": ["group", "statement", "challenge", "replies"],
            "extracted": ["group", "one", "other"],
            "Statement": ["unknowns", "equations"],
        }
        for name, arguments in expected.items():
            part = getattr(module, name)
            self.assertEqual(part.__module__, "vouchdoor.statement")
            self.assertEqual(list(inspect.signature(part).parameters), arguments)
        self.assertIn("__eq__", vars(Statement))


if __name__ == "__main__":
    unittest.main()
