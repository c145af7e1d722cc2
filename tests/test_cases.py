"""[13], [14]: cases, and why they are enough."""

import unittest
from itertools import permutations

from heirorders.cases import case_of, cases, is_case, order_of, paid_in, pairs
from heirorders.errors import InvalidCase, InvalidOrder
from heirorders.families import Family
from heirorders.orders import is_order, paid
from heirorders.wills import Will
from tests.reference import SMALL, all_orders, case_in, final, matter, open_cases
from tests.samples import NINE, TEXT, odd_values

FAMILY = Family.read(TEXT)

CASES = ((("ann", "bob"), ("ann", "cid")), (("ann", "bob"), ("cid", "ann")),
         (("bob", "ann"), ("ann", "cid")), (("bob", "ann"), ("cid", "ann")))


def crowd(wills, facts=()):
    """Return a family of dead people with wills of these texts."""
    return Family([(name, 1) for name in wills], [(name, Will.read(wills[name])) for name in wills], facts)


class Pairs(unittest.TestCase):

    def test_example(self):
        self.assertEqual(pairs(FAMILY), (("ann", "bob"), ("ann", "cid")))

    def test_none(self):
        self.assertEqual(pairs(Family([("ann", 1)])), ())
        self.assertEqual(pairs(Family.read("person a 1\nperson b 1\nperson x 1\nwill a 1 x\nwill b 1")), ())

    def test_only_dead_people(self):
        self.assertEqual(pairs(Family.read("person a 1\nperson b 1\nperson x 1\nwill b 1 x+a\nwill a 1 x")), (("a", "b"),))

    def test_named_by_the_later_or_the_earlier_name_or_both(self):
        self.assertEqual(pairs(crowd({"a": "1 b", "b": "1"})), (("a", "b"),))
        self.assertEqual(pairs(crowd({"a": "1", "b": "1 a"})), (("a", "b"),))
        self.assertEqual(pairs(crowd({"b": "1 a", "a": "1 b | 2 b > b"})), (("a", "b"),))

    def test_named_in_a_later_group_or_share(self):
        family = crowd({"d": "1", "c": "1", "b": "1", "a": "1 c > d | 2 | 1 c > b"})
        self.assertEqual(pairs(family), (("a", "b"), ("a", "c"), ("a", "d")))

    def test_facts_do_not_count(self):
        family = crowd({"a": "1 b", "b": "1", "c": "1"}, [("a", "c"), ("b", "c"), ("b", "a")])
        self.assertEqual(pairs(family), (("a", "b"),))

    def test_small_families(self):
        for family in SMALL:
            self.assertEqual(pairs(family), matter(family))


class Cases(unittest.TestCase):

    def test_example(self):
        self.assertEqual(cases(FAMILY), CASES)

    def test_no_pairs(self):
        self.assertEqual(cases(Family([("ann", 1)])), ((),))
        self.assertEqual(cases(crowd({"a": "1", "b": "1"}, [("a", "b")])), ((),))

    def test_no_ring(self):
        family = crowd({"a": "1 b", "b": "1 c", "c": "1 a"})
        self.assertEqual(cases(family), (
            (("a", "b"), ("a", "c"), ("b", "c")), (("a", "b"), ("a", "c"), ("c", "b")),
            (("a", "b"), ("c", "a"), ("c", "b")), (("b", "a"), ("a", "c"), ("b", "c")),
            (("b", "a"), ("c", "a"), ("b", "c")), (("b", "a"), ("c", "a"), ("c", "b"))))

    def test_fact_about_a_pair(self):
        self.assertEqual(cases(FAMILY.with_fact("bob", "ann")), CASES[2:])
        self.assertEqual(cases(FAMILY.with_fact("ann", "cid")), (CASES[0], CASES[2]))

    def test_facts_shut_a_case_through_a_third_person(self):
        wills = {"a": "1 b", "b": "1", "c": "1"}
        self.assertEqual(cases(crowd(wills, [("a", "c"), ("c", "b")])), ((("a", "b"),),))
        self.assertEqual(cases(crowd(wills, [("b", "c"), ("c", "a")])), ((("b", "a"),),))
        self.assertEqual(cases(crowd(wills, [("b", "c"), ("a", "c")])), ((("a", "b"),), (("b", "a"),)))

    def test_fact_shuts_a_case_together_with_other_directions(self):
        # The fact says that bob died before cid, and neither of them names the other one.
        self.assertEqual(cases(FAMILY.with_fact("bob", "cid")), (CASES[0], CASES[2], CASES[3]))
        self.assertEqual(cases(FAMILY.with_fact("cid", "bob")), (CASES[0], CASES[1], CASES[3]))

    def test_facts_through_a_chain(self):
        wills = {name: "1" for name in "bcdef"}
        family = crowd({"a": "1 f", **wills}, [("e", "f"), ("c", "d"), ("a", "b"), ("d", "e"), ("b", "c")])
        self.assertEqual(cases(family), ((("a", "f"),),))

    def test_all_orders_of_small_families(self):
        for family in SMALL:
            expected = {case_in(family, order) for order in all_orders(family)}
            self.assertEqual(cases(family), tuple(sorted(expected)), str(family))
            self.assertEqual(cases(family), open_cases(family), str(family))

    def test_nine_dead_people(self):
        for family in NINE:
            self.assertEqual((len(family.dead), len(pairs(family))), (9, 8))
            self.assertEqual(cases(family), open_cases(family))
            for order in (family.dead, family.dead[::-1], family.dead[3:] + family.dead[:3]):
                if is_order(family, order):
                    self.assertIn(case_of(family, order), cases(family))

    def test_number_of_cases_of_nine_dead_people(self):
        self.assertEqual([len(cases(family)) for family in NINE], [256, 256, 144, 4])


class CaseOf(unittest.TestCase):

    def test_example(self):
        self.assertEqual(case_of(FAMILY, ["cid", "ann", "bob"]), (("ann", "bob"), ("cid", "ann")))

    def test_no_pairs(self):
        self.assertEqual(case_of(Family([("ann", 1)]), ()), ())
        self.assertEqual(case_of(crowd({"a": "1", "b": "1"}), ["b", "a"]), ())

    def test_all_orders_of_small_families(self):
        for family in SMALL:
            for order in all_orders(family):
                self.assertEqual(case_of(family, order), case_in(family, order))
                self.assertEqual(case_of(family, list(order)), case_in(family, order))

    def test_no_order(self):
        for value, at in ((None, 0), (["ann", "bob"], 2), (["ann", "dan"], 1), (("bob", "ann", "bob"), 2)):
            with self.assertRaises(InvalidOrder) as caught:
                case_of(FAMILY, value)
            self.assertEqual(caught.exception.at, at)
        with self.assertRaises(InvalidOrder) as caught:
            case_of(FAMILY.with_fact("bob", "cid"), ("ann", "cid", "bob"))
        self.assertEqual(caught.exception.at, 1)


class IsCase(unittest.TestCase):

    def refused(self, family, value):
        self.assertIs(is_case(family, value), False)
        for function in (order_of, paid_in):
            with self.assertRaises(InvalidCase):
                function(family, value)

    def test_cases(self):
        for case in CASES:
            self.assertIs(is_case(FAMILY, case), True)

    def test_no_pairs(self):
        family = Family([("ann", 1)])
        self.assertIs(is_case(family, ()), True)
        for value in ([], None, ((),), (("ann", "bob"),), ""):
            self.refused(family, value)
        self.refused(FAMILY, ())

    def test_lists(self):
        for case in CASES:
            self.refused(FAMILY, list(case))
            self.refused(FAMILY, tuple(list(way) for way in case))
            self.refused(FAMILY, (case[0], list(case[1])))
            self.refused(FAMILY, (list(case[0]), case[1]))

    def test_wrong_pairs(self):
        for value in ((("ann", "bob"),), (("ann", "bob"), ("ann", "bob")), (("ann", "cid"), ("ann", "bob")),
                      (("ann", "bob"), ("ann", "cid"), ("bob", "cid")), (("ann", "bob"), ("bob", "cid")),
                      (("ann", "bob"), ("ann", "dan")), (("ann", "bob"), ("ann", "ann")), (("ann", "bob"), ("ann",)),
                      (("ann", "bob"), ("ann", "cid", "cid")), ("annbob", "anncid"), ("ann", "bob"), ("ab", "ac"),
                      (("ann", "bob"), ("ann", "cid"), ("ann", "cid")), (("ann", "bob"), ())):
            self.refused(FAMILY, value)

    def test_rings(self):
        family = crowd({"a": "1 b", "b": "1 c", "c": "1 a"})
        self.refused(family, (("a", "b"), ("c", "a"), ("b", "c")))
        self.refused(family, (("b", "a"), ("a", "c"), ("c", "b")))

    def test_facts(self):
        family = FAMILY.with_fact("bob", "cid")
        self.assertEqual([is_case(family, case) for case in CASES], [True, False, True, True])
        self.refused(family, CASES[1])
        self.refused(FAMILY.with_fact("ann", "bob"), CASES[2])

    def test_any_value_at_all(self):
        for value in odd_values():
            self.refused(FAMILY, value)
            self.refused(FAMILY, (value, ("ann", "cid")))
            self.refused(FAMILY, (("ann", "bob"), value))
            self.refused(FAMILY, (("ann", "bob"), ("ann", value)))
            self.refused(FAMILY, (("ann", "bob"), ("ann", "cid"), value))

    def test_cases_of_another_family(self):
        for case in cases(FAMILY):
            self.refused(crowd({"ann": "1 bob", "bob": "1", "cid": "1"}), case)

    def test_small_families(self):
        for family in SMALL:
            right = open_cases(family)
            for case in right:
                self.assertIs(is_case(family, case), True)
                for at, (first, then) in enumerate(case):
                    turned = case[:at] + ((then, first),) + case[at + 1:]
                    self.assertIs(is_case(family, turned), turned in right)


class OrderOf(unittest.TestCase):

    def test_example(self):
        self.assertEqual(order_of(FAMILY, (("bob", "ann"), ("ann", "cid"))), ("bob", "ann", "cid"))

    def test_any_order_with_the_case_is_right(self):
        for family in SMALL + NINE:
            for case in open_cases(family):
                order = order_of(family, case)
                self.assertIs(type(order), tuple)
                self.assertIs(is_order(family, order), True)
                self.assertEqual(case_in(family, order), case)

    def test_no_pairs(self):
        self.assertEqual(order_of(Family([("ann", 1)]), ()), ())
        self.assertEqual(order_of(crowd({"a": "1", "b": "1"}, [("b", "a")]), ()), ("b", "a"))

    def test_invalid_case_is_the_error(self):
        for function in (order_of, paid_in):
            with self.assertRaises(InvalidCase) as caught:
                function(FAMILY, ["ann"])
            self.assertIs(type(caught.exception), InvalidCase)


class PaidIn(unittest.TestCase):

    def test_example(self):
        self.assertEqual(paid_in(FAMILY, (("bob", "ann"), ("ann", "cid"))),
                         (("dan", (12, 1)), ("eve", (6, 1)), ("crown", (0, 1))))

    def test_all_orders_of_small_families(self):
        for family in SMALL:
            for order in all_orders(family):
                self.assertEqual(paid_in(family, case_in(family, order)), final(family, order))

    def test_orders_with_the_same_case_pay_the_same(self):
        family = Family.read(TEXT + "\nwill dan 1 bob")
        for order in permutations(family.dead):
            self.assertEqual(paid_in(family, case_of(family, order)), paid(family, order))

    def test_nine_dead_people(self):
        for family in NINE:
            for case in cases(family)[::7]:
                self.assertEqual(paid_in(family, case), final(family, order_of(family, case)))


class ByName(unittest.TestCase):

    def test_arguments_by_name(self):
        self.assertEqual(pairs(family=FAMILY), pairs(FAMILY))
        self.assertEqual(cases(family=FAMILY), CASES)
        self.assertEqual(case_of(order=["ann", "bob", "cid"], family=FAMILY), CASES[0])
        self.assertIs(is_case(value=CASES[3], family=FAMILY), True)
        self.assertEqual(order_of(case=CASES[2], family=FAMILY), ("bob", "ann", "cid"))
        self.assertEqual(paid_in(case=CASES[1], family=FAMILY), paid(FAMILY, ("cid", "ann", "bob")))


if __name__ == "__main__":
    unittest.main()
