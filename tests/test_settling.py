"""[18]: further facts that settle an amount, and what the paid amounts tell about the order."""

import unittest
from fractions import Fraction
from itertools import combinations

from heirorders.cases import cases, paid_in, pairs
from heirorders.deciding import settled
from heirorders.errors import InvalidFamily, NoName
from heirorders.families import Family
from heirorders.settling import cases_for, settlers, sure_facts
from tests.reference import SMALL, all_orders, all_paid, case_in, matter, pair, paid_in_cases
from tests.samples import NINE, TEXT, odd_values

FAMILY = Family.read(TEXT)

AB, BA, AC, CA = ("ann", "bob"), ("bob", "ann"), ("ann", "cid"), ("cid", "ann")


# Families with the cases of all their orders, one by one, and what is paid in them.
SMALL_PAID = [(family, [(case_in(family, order), paid) for order, paid in zip(all_orders(family), all_paid(family))])
              for family in SMALL]

# Families with all their cases and what is paid in them.
NINE_PAID = [(family, list(paid_in_cases(family).items())) for family in NINE]


def names_of(family):
    return family.living + ("crown",)


def settles(told, name, facts):
    """Tell whether the facts leave orders, and the name is paid the same in all of them."""
    return len({paid[name] for case, paid in told if all(fact in case for fact in facts)}) == 1


def least_sets(family, test):
    """Return the least sets of at most two facts for which the test holds."""
    ways = sorted([*matter(family), *[(b, a) for a, b in matter(family)]])
    found = []
    for size in range(3):
        for facts in combinations(ways, size):
            if not any(set(known) < set(facts) for known in found) and test(facts):
                found.append(facts)
    return tuple(found)


class Settlers(unittest.TestCase):

    def test_examples(self):
        self.assertEqual(settlers(FAMILY, "dan"), ((AB,), (AC, BA), (BA, CA)))
        self.assertEqual(settlers(FAMILY, "eve"), ((AB,), (AC, BA), (BA, CA)))

    def test_settled_anyway(self):
        self.assertEqual(settlers(FAMILY, "crown"), ((),))
        self.assertEqual(settlers(FAMILY.with_fact("ann", "bob"), "dan"), ((),))
        self.assertEqual(settlers(Family([("ann", 1)]), "ann"), ((),))
        self.assertEqual(settlers(Family.read("person a 5\nwill a 1"), "crown"), ((),))

    def test_one_of_two_is_enough(self):
        # What cid does only counts if bob died before ann, so AB is enough, and no set holds it and another fact.
        for found in (settlers(FAMILY, "dan"), settlers(FAMILY, "eve")):
            self.assertEqual([facts for facts in found if AB in facts], [(AB,)])
        family = Family.read("person a 6\nperson b 0\nperson c 0\nperson x 0\n"
                             "will a 1 b > x\nwill b 1\nwill c 1 a")
        self.assertEqual(settlers(family, "x"), ((("a", "b"),), (("b", "a"),)))

    def test_facts_that_leave_no_order(self):
        self.assertEqual(settlers(FAMILY.with_fact("bob", "ann"), "dan"), ((AC,), (CA,)))
        # With bob before cid, cid before ann leaves the case in which bob died first.
        self.assertEqual(settlers(FAMILY.with_fact("bob", "cid"), "dan"), ((AB,), (CA,), (AC, BA)))
        family = Family.read("person a 6\nperson b 5\nperson c 3\nperson x 0\nperson y 0\n"
                             "will a 1 b > x\nwill b 1 c > x\nwill c 1 a > y")
        for facts in settlers(family, "y"):
            added = family
            for first, then in facts:
                added = added.with_fact(first, then)
            self.assertIn("y", settled(added))
        with self.assertRaises(InvalidFamily):
            family.with_fact("a", "b").with_fact("b", "a")

    def test_given_facts_are_in_no_set(self):
        for family in (FAMILY.with_fact("bob", "ann"), FAMILY.with_fact("cid", "ann")):
            for facts in settlers(family, "dan"):
                self.assertNotIn(family.facts[0], facts)

    def test_none(self):
        # Each of three pairs counts on its own.
        lines = [f"person {name} {amount}" for name, amount in zip("abcdefx", (1, 2, 4, 0, 0, 0, 0))]
        lines += [f"will {a} 1 {b} > x" for a, b in zip("abc", "def")] + [f"will {name} 1" for name in "def"]
        family = Family.read("\n".join(lines))
        self.assertEqual(settlers(family, "x"), ())
        self.assertEqual(len(settlers(family.with_own("a", 0), "x")), 4)

    def test_sets_are_tuples(self):
        for facts in settlers(FAMILY, "dan"):
            self.assertIs(type(facts), tuple)
            self.assertEqual(facts, tuple(sorted(facts)))
            self.assertEqual({type(fact) for fact in facts}, {tuple})

    def test_all_orders_of_small_families(self):
        for family, told in SMALL_PAID:
            for name in names_of(family):
                expected = least_sets(family, lambda facts: settles(told, name, facts))
                self.assertEqual(settlers(family, name), expected, (str(family), name))

    def test_all_cases_of_nine_dead_people(self):
        for family, told in NINE_PAID:
            for name in names_of(family)[:2]:
                expected = least_sets(family, lambda facts: settles(told, name, facts))
                self.assertEqual(settlers(family, name), expected, (str(family), name))

    def test_with_the_facts_the_amount_is_settled(self):
        for family in NINE[:2]:
            for name in names_of(family):
                for facts in settlers(family, name):
                    added = Family(family.people, family.wills, family.facts + facts)
                    self.assertIn(name, settled(added))

    def test_wrong_names(self):
        for value in odd_values("crown") + ["ann", "bob", "cid", "zoe", ["dan"], ("dan",), ("crown",), [["eve"]]]:
            with self.assertRaises(NoName) as caught:
                settlers(FAMILY, value)
            self.assertIs(caught.exception.name, value)


class CasesFor(unittest.TestCase):

    def test_examples(self):
        self.assertEqual(len(cases_for(FAMILY, [("dan", 0)])), 2)
        self.assertEqual(cases_for(FAMILY, [("dan", 0)]), ((AB, AC), (AB, CA)))
        self.assertEqual(cases_for(FAMILY, [("eve", 6)]), ((BA, AC),))

    def test_no_amounts(self):
        for amounts in ([], ()):
            self.assertEqual(cases_for(FAMILY, amounts), cases(FAMILY))
            self.assertEqual(cases_for(Family([("ann", 1)]), amounts), ((),))

    def test_no_cases(self):
        for amount in (1, -18, 17, 19, (36, 1), (18, 2), (1, 18), 10 ** 20 - 1, (1, 10 ** 20 - 1)):
            self.assertEqual(cases_for(FAMILY, [("dan", amount)]), ())
        self.assertEqual(cases_for(FAMILY, [("crown", 1)]), ())

    def test_several_names(self):
        self.assertEqual(cases_for(FAMILY, [("dan", 12), ("eve", 6), ("crown", 0)]), ((BA, AC),))
        self.assertEqual(cases_for(FAMILY, [("dan", 12), ("eve", 0)]), ())
        self.assertEqual(cases_for(FAMILY, [("eve", 0), ("dan", 18)]), ((BA, CA),))

    def test_name_twice(self):
        self.assertEqual(cases_for(FAMILY, [("dan", 12), ("dan", (24, 2))]), ((BA, AC),))
        self.assertEqual(cases_for(FAMILY, [("dan", 12), ("dan", 18)]), ())
        self.assertEqual(cases_for(FAMILY, [("dan", 12), ("eve", 6), ("dan", 0)]), ())
        self.assertEqual(cases_for(FAMILY, [("dan", 0), ("eve", 6), ("dan", 12)]), ())

    def test_integers_and_pairs(self):
        for amount in (12, (12, 1), (24, 2), (120, 10), (12 * 10 ** 18, 10 ** 18)):
            self.assertEqual(cases_for(FAMILY, [("dan", amount)]), ((BA, AC),))
        for amount in (0, (0, 1), (0, 7)):
            self.assertEqual(len(cases_for(FAMILY, (("dan", amount),))), 2)
        halves = Family.read("person a 1\nperson b 0\nperson x 0\nwill a 1 b+x\nwill b 1")
        for amount in ((1, 2), (2, 4), (50, 100)):
            self.assertEqual(cases_for(halves, [("x", amount)]), ((("a", "b"),),))
        self.assertEqual(cases_for(halves, [("x", (2, 2))]), ((("b", "a"),),))

    def test_ascending(self):
        for family in NINE:
            found = cases_for(family, [])
            self.assertEqual(found, tuple(sorted(found)))

    def test_all_cases(self):
        for family, told in [(family, list(paid_in_cases(family).items())) for family in SMALL] + NINE_PAID:
            for _, paid in told[::23]:
                for names in (family.living[:1], ("crown",), names_of(family)):
                    amounts = [(name, pair(paid[name])) for name in names]
                    expected = tuple(case for case, other in told if all(other[name] == paid[name] for name in names))
                    self.assertEqual(cases_for(family, amounts), expected)
                    self.assertEqual(cases_for(family, tuple(amounts * 2)), expected)

    def test_wrong_names(self):
        for value in odd_values("crown") + ["ann", "zoe", ("dan",), ["dan"]]:
            for amounts in ([(value, 1)], ((value, (1, 2)),), [("dan", 3), (value, 1)], [("dan", 12), (value, 0), ("x", 1)]):
                for function in (cases_for, sure_facts):
                    with self.assertRaises(NoName) as caught:
                        function(FAMILY, amounts)
                    self.assertIs(caught.exception.name, value)

    def test_first_wrong_name(self):
        for amounts, name in (([("ann", 1), ("bob", 2)], "ann"), ([("dan", 99), ("zoe", 1), ("ann", 1)], "zoe")):
            with self.assertRaises(NoName) as caught:
                cases_for(FAMILY, amounts)
            self.assertEqual(caught.exception.name, name)

    def test_amounts_stay_as_they_were(self):
        amounts = [("eve", (12, 2)), ("dan", 12)]
        cases_for(FAMILY, amounts)
        sure_facts(FAMILY, amounts)
        self.assertEqual(amounts, [("eve", (12, 2)), ("dan", 12)])


class SureFacts(unittest.TestCase):

    def test_examples(self):
        self.assertEqual(sure_facts(FAMILY, [("dan", 0)]), (AB,))
        self.assertEqual(sure_facts(FAMILY, [("eve", 6)]), (AC, BA))

    def test_no_such_cases(self):
        self.assertEqual(sure_facts(FAMILY, [("dan", 1)]), ())
        self.assertEqual(sure_facts(FAMILY.with_fact("ann", "bob"), [("dan", 12)]), ())

    def test_no_amounts(self):
        self.assertEqual(sure_facts(FAMILY, []), ())
        self.assertEqual(sure_facts(FAMILY.with_fact("bob", "ann"), ()), (BA,))
        both = FAMILY.with_fact("bob", "cid").with_fact("cid", "ann")
        self.assertEqual(sure_facts(both, ()), (BA, CA))
        # A fact about people whose order does not matter is none of these directions, but may leave no choice.
        self.assertEqual(sure_facts(FAMILY.with_fact("bob", "cid"), ()), ())
        self.assertEqual(sure_facts(FAMILY.with_fact("bob", "cid"), [("dan", 18)]), (BA, CA))
        self.assertEqual(sure_facts(Family([("ann", 1)]), []), ())

    def test_ascending(self):
        family = Family.read("person a 1\nperson b 0\nperson c 0\nperson x 0\n"
                             "will a 1 b | 1 c\nwill b 1\nwill c 1\nfirst c a\nfirst a b")
        self.assertEqual(sure_facts(family, ()), (("a", "b"), ("c", "a")))
        family = family.with_own("x", 1)
        self.assertEqual(sure_facts(Family(family.people, family.wills, [("b", "a"), ("a", "c")]), ()),
                         (("a", "c"), ("b", "a")))

    def test_all_orders_of_small_families(self):
        for family, told in SMALL_PAID:
            ways = [*matter(family), *[(b, a) for a, b in matter(family)]]
            for name in names_of(family):
                for amount in sorted({paid[name] for _, paid in told}) + [Fraction(-1)]:
                    left = [case for case, paid in told if paid[name] == amount]
                    expected = sorted(way for way in ways if left and all(way in case for case in left))
                    self.assertEqual(sure_facts(family, [(name, pair(amount))]), tuple(expected))

    def test_nine_dead_people(self):
        for family in NINE:
            for case in cases(family)[::50]:
                amounts = paid_in(family, case)
                left = cases_for(family, amounts)
                self.assertIn(case, left)
                expected = sorted(way for way in case if all(way in other for other in left))
                self.assertEqual(sure_facts(family, amounts), tuple(expected))
        self.assertEqual(len(pairs(NINE[3])), 8)
        # By the facts c died before f, f before e, and e before d.
        self.assertEqual(sure_facts(NINE[3], ()),
                         (("a", "b"), ("b", "c"), ("c", "d"), ("e", "d"), ("f", "e"), ("g", "h")))


class ByName(unittest.TestCase):

    def test_arguments_by_name(self):
        self.assertEqual(settlers(name="dan", family=FAMILY), settlers(FAMILY, "dan"))
        self.assertEqual(cases_for(amounts=[("dan", 0)], family=FAMILY), cases_for(FAMILY, [("dan", 0)]))
        self.assertEqual(sure_facts(amounts=(("dan", 0),), family=FAMILY), (AB,))


if __name__ == "__main__":
    unittest.main()
