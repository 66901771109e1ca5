"""Tests of vouchdoor.group: groups (point [2]) and commitments (point [3])."""

import itertools
import unittest

from vouchdoor.errors import BadGroup, BadOpening
from vouchdoor.group import Group, commit, is_relation, relation

# (p, q) of small groups, with all of their elements but 1.
SMALL = [(7, 3), (11, 5), (13, 3), (23, 11), (31, 5), (31, 3), (43, 7), (89, 11)]


def roots(p, q):
    """All numbers from 1 to p - 1 whose q-th power is 1 modulo p."""
    return [number for number in range(1, p) if pow(number, q, p) == 1]


def small_group(p, q):
    return Group(p, q, roots(p, q)[1:13])


def squares(p, many):
    """The squares of the first numbers from 2 on, as bases modulo p."""
    return [number * number % p for number in range(2, 2 + many)]


def direct(group, exponents):
    """A commitment by its definition, one factor after the other."""
    result = 1
    for base, exponent in zip(group.bases, exponents):
        for _ in range(exponent % group.q):
            result = result * base % group.p
    return result


class ValidGroupTest(unittest.TestCase):

    def test_fields(self):
        group = Group(23, 11, [2, 3, 4])
        self.assertEqual((group.p, group.q, group.bases), (23, 11, (2, 3, 4)))
        self.assertIs(type(group.bases), tuple)

    def test_order_of_bases_is_kept(self):
        self.assertEqual(Group(23, 11, [18, 2, 9]).bases, (18, 2, 9))

    def test_bases_as_a_tuple(self):
        self.assertEqual(Group(23, 11, (2, 3, 4)).bases, (2, 3, 4))

    def test_smallest_p_with_two_bases(self):
        group = Group(7, 3, [4, 2])
        self.assertEqual((group.p, group.q, group.bases), (7, 3, (4, 2)))

    def test_p_near_the_limit(self):
        for many in [2, 12]:
            group = Group(999959, 499979, squares(999959, many))
            self.assertEqual(len(group.bases), many)
        for q in [79, 6329]:
            bases = [pow(3, 999982 // q * k, 999983) for k in range(1, 13)]
            self.assertEqual(Group(999983, q, bases).bases, tuple(bases))

    def test_every_number_of_bases(self):
        for many in range(2, 13):
            self.assertEqual(Group(47, 23, squares(47, many)).bases, tuple(squares(47, many)))

    def test_all_elements_but_1_as_bases(self):
        for p, q in SMALL:
            self.assertEqual(small_group(p, q).bases, tuple(roots(p, q)[1:]))

    def test_smallest_and_largest_base(self):
        # p - 1 itself has the order 2, and for q = 2 there are no two bases.
        self.assertEqual(roots(31, 5)[-1], 16)
        self.assertEqual(Group(31, 5, [16, 2]).bases, (16, 2))
        self.assertEqual(roots(83, 41)[-1], 81)
        self.assertEqual(Group(83, 41, [81, 3]).bases, (81, 3))

    def test_list_of_bases_may_change_afterwards(self):
        bases = [2, 3, 4]
        group = Group(23, 11, bases)
        self.assertEqual(bases, [2, 3, 4])
        bases[0] = 5
        bases.append(6)
        self.assertEqual(group.bases, (2, 3, 4))
        self.assertEqual(commit(group, [5, 1]), 4)
        self.assertEqual(group.log(4), 2)


class BadGroupTest(unittest.TestCase):

    def check(self, p, q, bases, what):
        with self.assertRaises(BadGroup) as caught:
            Group(p, q, bases)
        self.assertEqual(caught.exception.what, what, (p, q, bases))
        self.assertIs(type(caught.exception.what), type(what), (p, q, bases))

    def test_p_is_no_prime(self):
        # Everything but p itself is as it should be.
        self.check(341, 5, [4, 16], "p")
        self.check(15, 2, [4, 11], "p")
        self.check(21, 2, [8, 13], "p")
        self.check(1000000, 3, [2, 3], "p")
        self.check(999999, 2, [2, 3], "p")

    def test_p_is_too_small(self):
        for p in [2, 1, 0, -1, -7, -23]:
            self.check(p, 3, [2, 4], "p")
            self.check(p, 2, [1, 1], "p")

    def test_p_is_too_large(self):
        self.assertEqual(roots(1000003, 3), [1, 499501, 500501])
        self.check(1000003, 3, [499501, 500501], "p")
        self.check(10 ** 40 + 1, 3, [2, 3], "p")

    def test_smallest_p(self):
        # 3 and 2 are right, but there is only one number that could be a base.
        self.check(3, 2, [2, 2], 1)
        self.check(3, 2, [2], "bases")
        self.check(5, 2, [4, 4], 1)

    def test_q_is_no_prime(self):
        self.check(13, 6, [3, 4], "q")
        self.check(13, 4, [5, 8], "q")
        self.check(13, 12, [2, 3], "q")
        self.check(23, 22, [2, 3], "q")
        self.check(37, 9, [7, 9], "q")

    def test_q_is_too_small(self):
        for q in [1, 0, -1, -2, -11]:
            self.check(23, q, [2, 3], "q")
            self.check(23, q, [1, 1], "q")

    def test_q_does_not_divide(self):
        for q in [3, 5, 7, 13, 19]:
            self.check(23, q, [2, 3], "q")

    def test_q_is_too_large(self):
        for q in [23, 29, 47, 10 ** 40, 2 ** 127 - 1]:
            self.check(23, q, [2, 3], "q")

    def test_too_few_bases(self):
        self.check(23, 11, [], "bases")
        self.check(23, 11, [2], "bases")
        self.check(999959, 499979, [4], "bases")

    def test_too_many_bases(self):
        self.check(999959, 499979, squares(999959, 13), "bases")
        self.check(47, 23, squares(47, 13), "bases")
        self.check(47, 23, squares(47, 20), "bases")

    def check_base(self, wrong):
        """Puts a wrong base at every place among right ones modulo 23."""
        for at in range(4):
            bases = [2, 3, 4]
            bases.insert(at, wrong)
            self.check(23, 11, bases, at)

    def test_base_is_1(self):
        self.check_base(1)

    def test_base_is_p_or_0(self):
        self.check_base(23)
        self.check_base(0)
        self.check_base(46)

    def test_base_is_negative(self):
        # These are 18 and 1 modulo 23.
        self.check_base(-5)
        self.check_base(-22)

    def test_base_is_beyond_p(self):
        # These are 6, 18 and 1 modulo 23.
        self.check_base(29)
        self.check_base(41)
        self.check_base(24)

    def test_base_has_another_order(self):
        for base in range(1, 23):
            if base not in roots(23, 11):
                self.check_base(base)
        self.check(31, 5, [2, 5], 1)
        self.check(31, 3, [2, 5], 0)

    def test_two_equal_bases(self):
        self.check(23, 11, [2, 2], 1)
        self.check(23, 11, [2, 3, 2], 2)
        self.check(23, 11, [2, 3, 3], 2)
        self.check(23, 11, [2, 3, 4, 6, 3, 8], 4)
        self.check(47, 23, squares(47, 11) + [4], 11)
        self.check(23, 11, [2, 2, 2], 1)
        self.check(23, 11, [2, 3, 3, 2], 2)

    def test_first_wrong_part_of_several(self):
        self.check(22, 4, [1], "p")
        self.check(22, 3, [1, 1], "p")
        self.check(1000003, 4, [2, 2], "p")
        self.check(23, 4, [2], "q")
        self.check(23, 4, squares(23, 13), "q")
        self.check(23, 22, [1, 1], "q")
        self.check(23, 11, [1], "bases")
        self.check(23, 11, [2, 2] * 7, "bases")
        self.check(23, 11, [5] * 13, "bases")

    def test_first_wrong_base_of_several(self):
        self.check(23, 11, [1, 5], 0)
        self.check(23, 11, [2, 5, 1], 1)
        self.check(23, 11, [5, 5], 0)
        self.check(23, 11, [2, 3, 2, 5], 2)
        self.check(23, 11, [2, 5, 2], 1)
        self.check(23, 11, [2, 3, 23, 2], 2)
        self.check(23, 11, [2, 1, 1, 2], 1)

    def test_bases_as_a_tuple(self):
        self.check(23, 11, (2, 3, 2), 2)
        self.check(23, 11, (2,), "bases")

    def test_list_of_bases_is_not_modified(self):
        bases = [2, 5, 3]
        self.check(23, 11, bases, 1)
        self.assertEqual(bases, [2, 5, 3])


class EqualGroupTest(unittest.TestCase):

    def check_differ(self, one, other):
        self.assertFalse(one == other)
        self.assertTrue(one != other)

    def test_equal(self):
        one, other = Group(23, 11, [2, 3, 4]), Group(23, 11, (2, 3, 4))
        self.assertTrue(one == other)
        self.assertFalse(one != other)
        self.assertTrue(one == one)

    def test_another_p(self):
        # 2 and 4 have the order 11 modulo 23 and modulo 89.
        self.check_differ(Group(23, 11, [2, 4]), Group(89, 11, [2, 4]))

    def test_another_p_and_q(self):
        self.check_differ(Group(7, 3, [2, 4]), Group(31, 5, [2, 4]))
        self.check_differ(Group(31, 3, [5, 25]), Group(31, 5, [2, 4]))

    def test_other_bases(self):
        group = Group(23, 11, [2, 3, 4])
        for bases in [[2, 3], [2, 3, 4, 6], [2, 4, 3], [2, 3, 6], [6, 3, 4]]:
            self.check_differ(group, Group(23, 11, bases))

    def test_something_else(self):
        group = Group(23, 11, [2, 3])
        for other in [None, 23, "group", (23, 11, (2, 3)), [23, 11, [2, 3]]]:
            self.check_differ(group, other)


class IsElementTest(unittest.TestCase):

    def test_inside_and_outside_the_range(self):
        for p, q in SMALL:
            group = small_group(p, q)
            inside = roots(p, q)
            for number in range(-3 * p, 3 * p + 1):
                self.assertIs(group.is_element(number), number in inside, (p, q, number))

    def test_edges(self):
        group = Group(23, 11, [2, 3])
        for number in [0, -1, -22, -5, 22, 23, 24, 25, 46, 5]:
            self.assertIs(group.is_element(number), False, number)
        for number in [1, 2, 3, 18]:
            self.assertIs(group.is_element(number), True, number)

    def test_large_group(self):
        group = Group(999959, 499979, [4, 9])
        self.assertIs(group.is_element(16), True)
        self.assertIs(group.is_element(999958), False)
        self.assertIs(group.is_element(999959 + 16), False)


class RaisedTest(unittest.TestCase):

    def test_all_elements_of_small_groups(self):
        for p, q in SMALL:
            group = small_group(p, q)
            for element in roots(p, q):
                expected = 1
                for exponent in range(3 * q):
                    self.assertEqual(group.raised(element, exponent), expected, (p, q, element, exponent))
                    self.assertEqual(group.raised(element, exponent - 4 * q), expected, (p, q, element, exponent))
                    expected = expected * element % p

    def test_exponent_0_and_minus_1(self):
        group = Group(23, 11, [2, 3])
        for element in roots(23, 11):
            self.assertEqual(group.raised(element, 0), 1)
            self.assertEqual(group.raised(element, 11), 1)
            self.assertEqual(group.raised(element, -11), 1)
            self.assertEqual(group.raised(element, -1) * element % 23, 1)

    def test_examples(self):
        group = Group(23, 11, [2, 3])
        self.assertEqual(group.raised(2, 5), 9)
        self.assertEqual(group.raised(2, -1), 12)
        self.assertEqual(group.raised(2, 11 * 10 ** 30 + 5), 9)
        self.assertEqual(group.raised(2, -11 * 10 ** 30 - 6), 9)

    def test_large_group(self):
        group = Group(999959, 499979, [4, 9])
        self.assertEqual(group.raised(4, 499979), 1)
        self.assertEqual(group.raised(4, 499978) * 4 % 999959, 1)
        self.assertEqual(group.raised(4, 123456), pow(4, 123456, 999959))


class ProductTest(unittest.TestCase):

    def test_none(self):
        for p, q in SMALL:
            self.assertEqual(small_group(p, q).product([]), 1)

    def test_one(self):
        group = Group(23, 11, [2, 3])
        for element in roots(23, 11):
            for exponent in range(-12, 24):
                self.assertEqual(group.product([(element, exponent)]), pow(element, exponent % 11, 23))

    def test_several(self):
        group = Group(23, 11, [2, 3])
        self.assertEqual(group.product([(2, 5), (3, 1)]), 4)
        self.assertEqual(group.product([(2, 5), (3, 1), (4, -1)]), 1)
        self.assertEqual(group.product([(18, 2), (18, -2), (9, 12)]), 9)
        self.assertEqual(group.product([(2, 1)] * 14), 8)
        self.assertEqual(group.product([(13, 0), (16, 11), (6, -22)]), 1)

    def test_elements_that_are_no_bases(self):
        group = Group(89, 11, [2, 4])
        for one, other in itertools.product(roots(89, 11), repeat=2):
            expected = pow(one, 3, 89) * pow(other, 9, 89) % 89
            self.assertEqual(group.product([(one, 3), (other, -2)]), expected)

    def test_tuple_of_pairs_and_nothing_modified(self):
        group = Group(23, 11, [2, 3])
        pairs = [(2, 5), (3, -10)]
        self.assertEqual(group.product(pairs), 4)
        self.assertEqual(pairs, [(2, 5), (3, -10)])
        self.assertEqual(group.product(tuple(pairs)), 4)


class LogTest(unittest.TestCase):

    def test_every_element_of_small_groups(self):
        for p, q in SMALL:
            for first in roots(p, q)[1:]:
                second = pow(first, 2, p)
                group = Group(p, q, [first, second])
                for exponent in range(q):
                    self.assertEqual(group.log(pow(first, exponent, p)), exponent, (p, q, first))

    def test_edges(self):
        group = Group(23, 11, [3, 2])
        self.assertEqual(group.log(1), 0)
        self.assertEqual(group.log(3), 1)
        self.assertEqual(group.log(2), 7)
        self.assertEqual(group.log(8), 10)

    def test_large_group(self):
        group = Group(999959, 499979, [4, 9])
        for exponent in [0, 1, 123456, 499978]:
            self.assertEqual(group.log(pow(4, exponent, 999959)), exponent)


class CommitTest(unittest.TestCase):

    def test_example_of_the_document(self):
        self.assertEqual(commit(Group(23, 11, [2, 3, 4]), [5, 1]), 4)

    def test_none(self):
        for p, q in SMALL:
            self.assertEqual(commit(small_group(p, q), []), 1)

    def test_all_short_openings(self):
        group = Group(23, 11, [6, 3, 2])
        for many in range(4):
            for exponents in itertools.product([0, 1, 4, 10], repeat=many):
                self.assertEqual(commit(group, list(exponents)), direct(group, exponents), exponents)

    def test_each_base_by_itself(self):
        group = Group(999959, 499979, squares(999959, 12))
        for at, base in enumerate(group.bases):
            self.assertEqual(commit(group, [0] * at + [1]), base)
            self.assertEqual(commit(group, [0] * at + [2] + [0] * (11 - at)), base * base % 999959)

    def test_negative_and_large_exponents(self):
        group = Group(23, 11, [6, 3, 2])
        for exponents in itertools.product([-23, -11, -1, 0, 11, 12, 10 ** 20], repeat=3):
            self.assertEqual(commit(group, exponents), direct(group, exponents), exponents)
        self.assertEqual(commit(group, [-1]), 4)
        self.assertEqual(commit(group, [10]), 4)

    def test_nothing_modified(self):
        group = Group(23, 11, [2, 3, 4])
        exponents = [5, -10]
        commit(group, exponents)
        self.assertEqual(exponents, [5, -10])
        self.assertEqual(group.bases, (2, 3, 4))


class RelationTest(unittest.TestCase):

    def setUp(self):
        self.group = Group(23, 11, [2, 3, 4])

    def check_none(self, one, other):
        for first, second in [(one, other), (other, one)]:
            with self.assertRaises(BadOpening):
                relation(self.group, first, second)

    def test_differences_of_the_first_less_the_second(self):
        self.assertEqual(relation(self.group, [2, 0, 0], [0, 0, 1]), (2, 0, 10))
        self.assertEqual(relation(self.group, [0, 0, 1], [2, 0, 0]), (9, 0, 1))

    def test_modulo_q(self):
        self.assertEqual(relation(self.group, [-20, 7, 33], [11, -4, -21]), (2, 0, 10))
        self.assertEqual(relation(self.group, [2 + 11 * 10 ** 20, 5, 0], [0, 5, 1]), (2, 0, 10))

    def test_short_openings(self):
        self.assertEqual(relation(self.group, [5, 1], [2, 0]), (3, 1))
        self.assertEqual(relation(self.group, [2, 0], [5, 1]), (8, 10))

    def test_openings_with_one_difference_in_their_numbers_only(self):
        for one in itertools.product(range(11), repeat=2):
            for other in itertools.product(range(11), repeat=2):
                same = direct(self.group, one) == direct(self.group, other)
                if same and one != other:
                    shown = relation(self.group, one, other)
                    self.assertIs(type(shown), tuple)
                    self.assertEqual(shown, tuple((a - b) % 11 for a, b in zip(one, other)))
                    self.assertEqual(direct(self.group, shown), 1)
                else:
                    self.check_none(list(one), list(other))

    def test_the_same_modulo_q(self):
        self.check_none([5, 1], [5, 1])
        self.check_none([5, 1], [16, -10])
        self.check_none([0, 0, 0], [11, -11, 22])
        self.check_none([], [])

    def test_other_commitments(self):
        self.check_none([5, 1], [5, 2])
        self.check_none([2, 0, 0], [0, 0, 2])
        self.check_none([1], [2])

    def test_another_number_of_exponents(self):
        self.check_none([2], [0, 0, 1])
        self.check_none([2], [2, 0])
        self.check_none([], [0])
        self.check_none([2, 0], [0, 0, 1])
        self.check_none([5, 1], [5, 1, 0])
        self.check_none([5, 1, 0], [2, 0])

    def test_nothing_modified(self):
        one, other = [2, -11, 0], [0, 0, 12]
        relation(self.group, one, other)
        self.assertEqual((one, other), ([2, -11, 0], [0, 0, 12]))

    def test_tuples(self):
        self.assertEqual(relation(self.group, (2, 0, 0), (0, 0, 1)), (2, 0, 10))


class IsRelationTest(unittest.TestCase):

    def setUp(self):
        self.group = Group(23, 11, [2, 3, 4])

    def test_all_exponents_of_a_small_group(self):
        for many in range(4):
            for exponents in itertools.product(range(11), repeat=many):
                expected = any(exponents) and direct(self.group, exponents) == 1
                self.assertIs(is_relation(self.group, exponents), bool(expected), exponents)

    def test_all_exponents_0_modulo_q(self):
        for exponents in [[], [0], [0, 0], [0, 0, 0], [11], [-11, 22], [11, 0, -33]]:
            self.assertIs(is_relation(self.group, exponents), False, exponents)

    def test_negative_and_large_exponents(self):
        self.assertIs(is_relation(self.group, [2, 0, -1]), True)
        self.assertIs(is_relation(self.group, [-2, 0, 1]), True)
        self.assertIs(is_relation(self.group, [13, 11, 10]), True)
        self.assertIs(is_relation(self.group, [13, 11, 11]), False)
        self.assertIs(is_relation(self.group, [2, 0, 1]), False)

    def test_short_lists(self):
        self.assertIs(is_relation(self.group, [3, 1]), True)
        self.assertIs(is_relation(self.group, [3, 2]), False)
        self.assertIs(is_relation(self.group, [1]), False)

    def test_nothing_modified(self):
        exponents = [13, -11, 21]
        self.assertIs(is_relation(self.group, exponents), True)
        self.assertEqual(exponents, [13, -11, 21])


class PlaceTest(unittest.TestCase):

    def test_defined_in_their_module(self):
        for part in [Group, commit, relation, is_relation]:
            self.assertEqual(part.__module__, "vouchdoor.group")

    def test_methods_are_defined_in_the_class(self):
        for name in ["__eq__", "is_element", "raised", "product", "log"]:
            self.assertIn(name, vars(Group))


if __name__ == "__main__":
    unittest.main()
