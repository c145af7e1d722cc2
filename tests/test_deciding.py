"""[15], [16]: what holds in all orders."""

import unittest
from fractions import Fraction

from heirorders.deciding import flips, greatest, greatest_order, idle, least, least_order, possibly, settled, surely
from heirorders.errors import NoName
from heirorders.families import Family
from heirorders.orders import is_order
from tests.reference import SMALL, all_orders, all_paid, final, matter, pair, paid_in_cases
from tests.samples import NINE, TEXT, odd_values

FAMILY = Family.read(TEXT)

WITH_NAME = (least, greatest, least_order, greatest_order, flips)


# By all orders where there are few of them, by all cases where there are many.
SMALL_PAID = [(family, all_paid(family)) for family in SMALL]
NINE_PAID = [(family, list(paid_in_cases(family).values())) for family in NINE]


def names_of(family):
    """Return the living and the crown, ascending."""
    return sorted(family.living + ("crown",))


def row_of_nine():
    """Return a family of nine who leave all to the next one in the row, or to y if that one is dead."""
    lines = [f"person {name} 1" for name in "abcdefghi"] + ["person x 0", "person y 0"]
    lines += [f"will {a} 1 {b} > y" for a, b in zip("abcdefghi", "bcdefghix")]
    return Family.read("\n".join(lines))


class Names(unittest.TestCase):

    def refused(self, family, value):
        for function in WITH_NAME:
            with self.assertRaises(NoName) as caught:
                function(family, value)
            self.assertIs(caught.exception.name, value)

    def test_living_and_crown(self):
        for name in ("dan", "eve", "crown"):
            for function in WITH_NAME:
                function(FAMILY, name)

    def test_dead_people(self):
        for name in FAMILY.dead:
            self.refused(FAMILY, name)

    def test_strangers(self):
        for name in ("zoe", "an", "d", "", "Crown", "crow", "crown ", "dan eve", "DAN"):
            self.refused(FAMILY, name)

    def test_any_value_at_all(self):
        for value in odd_values("crown"):
            self.refused(FAMILY, value)
        for value in (["dan"], ("dan",), ["crown"], [["eve"]], FAMILY.living, ("eve", "crown")):
            self.refused(FAMILY, value)

    def test_nobody_living(self):
        family = Family.read("person a 5\nwill a 1")
        self.refused(family, "a")
        self.assertEqual((least(family, "crown"), greatest(family, "crown")), ((5, 1), (5, 1)))


class LeastAndGreatest(unittest.TestCase):

    def test_examples(self):
        self.assertEqual((least(FAMILY, "eve"), greatest(FAMILY, "dan")), ((0, 1), (18, 1)))
        self.assertEqual((least(FAMILY, "dan"), greatest(FAMILY, "eve")), ((0, 1), (18, 1)))
        self.assertEqual((least(FAMILY, "crown"), greatest(FAMILY, "crown")), ((0, 1), (0, 1)))

    def test_facts(self):
        family = FAMILY.with_fact("ann", "cid")
        self.assertEqual((least(family, "eve"), greatest(family, "dan")), ((6, 1), (12, 1)))

    def test_fractions(self):
        # 5/2 is greater than 7/3, although its upper number is smaller.
        family = Family.read("person a 70\nperson b 0\nperson c 0\nperson x 0\nperson y 0\n"
                             "will a 1 b > c > y\nwill b 1 x | 27\nwill c 1 x | 29")
        self.assertEqual((least(family, "x"), greatest(family, "x")), ((0, 1), (5, 2)))
        self.assertEqual(least(family.with_fact("a", "b"), "x"), (5, 2))
        self.assertEqual(greatest(family.with_fact("b", "a"), "x"), (7, 3))
        both = family.with_fact("a", "c")
        self.assertEqual((least(both, "x"), greatest(both, "x")), ((7, 3), (5, 2)))

    def test_what_somebody_owned_counts(self):
        family = FAMILY.with_own("dan", 100)
        self.assertEqual((least(family, "dan"), greatest(family, "dan")), ((100, 1), (118, 1)))

    def test_nobody_dead(self):
        family = Family([("ann", 4), ("bob", 0)])
        for name, amount in (("ann", 4), ("bob", 0), ("crown", 0)):
            self.assertEqual((least(family, name), greatest(family, name)), ((amount, 1), (amount, 1)))
            self.assertEqual((least_order(family, name), greatest_order(family, name)), ((), ()))

    def test_all_orders(self):
        for family, found in SMALL_PAID + NINE_PAID:
            for name in names_of(family):
                self.assertEqual(least(family, name), pair(min(told[name] for told in found)), (str(family), name))
                self.assertEqual(greatest(family, name), pair(max(told[name] for told in found)), (str(family), name))

    def test_the_orders_pay_what_is_told(self):
        for family in SMALL + NINE:
            for name in names_of(family):
                for order, amount in ((least_order(family, name), least(family, name)),
                                      (greatest_order(family, name), greatest(family, name))):
                    self.assertIs(type(order), tuple)
                    self.assertIs(is_order(family, order), True)
                    self.assertEqual(dict(final(family, order))[name], amount)

    def test_row_of_nine(self):
        family = row_of_nine()
        self.assertEqual((least(family, "x"), greatest(family, "x")), ((1, 1), (9, 1)))
        self.assertEqual((least(family, "y"), greatest(family, "y")), ((0, 1), (8, 1)))
        self.assertEqual(greatest_order(family, "x"), tuple("abcdefghi"))
        self.assertEqual(least_order(family, "y"), tuple("abcdefghi"))


class Sets(unittest.TestCase):

    def test_examples(self):
        self.assertEqual(settled(FAMILY), ("crown",))
        self.assertEqual(surely(FAMILY), ())
        self.assertEqual(surely(FAMILY.with_fact("ann", "cid")), ("eve",))

    def test_possibly(self):
        self.assertEqual(possibly(FAMILY), ("dan", "eve"))
        self.assertEqual(possibly(FAMILY.with_fact("ann", "cid").with_fact("ann", "bob")), ("eve",))

    def test_crown_stands_among_the_names(self):
        family = Family.read("person zoe 1\nperson ann 2\nperson b 3\nperson dan 0\nwill b 1")
        self.assertEqual(settled(family), ("ann", "crown", "dan", "zoe"))
        self.assertEqual(surely(family), ("ann", "crown", "zoe"))
        self.assertEqual(possibly(family), ("ann", "crown", "zoe"))

    def test_what_somebody_owned_counts(self):
        family = FAMILY.with_own("dan", 1)
        self.assertEqual((surely(family), possibly(family)), (("dan",), ("dan", "eve")))

    def test_settled_without_anything(self):
        family = FAMILY.with_own("ann", 0).with_own("cid", 0)
        self.assertEqual((settled(family), surely(family), possibly(family)), (("crown", "dan", "eve"), (), ()))

    def test_same_amount_on_different_ways(self):
        family = Family.read("person a 6\nperson b 0\nperson x 0\nwill a 1 b > x\nwill b 1 x")
        self.assertEqual((settled(family), surely(family)), (("crown", "x"), ("x",)))

    def test_facts_settle(self):
        self.assertEqual(settled(FAMILY.with_fact("ann", "bob")), ("crown", "dan", "eve"))
        self.assertEqual(settled(FAMILY.with_fact("bob", "ann")), ("crown",))

    def test_all_orders(self):
        for family, found in SMALL_PAID + NINE_PAID:
            amounts = {name: [told[name] for told in found] for name in names_of(family)}
            self.assertEqual(settled(family), tuple(name for name in amounts if len(set(amounts[name])) == 1))
            self.assertEqual(surely(family), tuple(name for name in amounts if min(amounts[name]) > 0))
            self.assertEqual(possibly(family), tuple(name for name in amounts if max(amounts[name]) > 0))


class Flips(unittest.TestCase):

    def test_example(self):
        self.assertEqual(flips(FAMILY, "dan"), ((("ann", "bob"), (18, 1)), (("ann", "cid"), (6, 1))))

    def test_none(self):
        self.assertEqual(flips(FAMILY, "crown"), ())
        self.assertEqual(flips(Family([("ann", 1)]), "ann"), ())

    def test_facts(self):
        self.assertEqual(flips(FAMILY.with_fact("ann", "bob"), "dan"), ())
        self.assertEqual(flips(FAMILY.with_fact("bob", "ann"), "dan"), ((("ann", "cid"), (6, 1)),))
        self.assertEqual(flips(FAMILY.with_fact("cid", "ann"), "dan"), ((("ann", "bob"), (18, 1)),))

    def test_fractions(self):
        family = Family.read("person a 7\nperson b 0\nperson x 0\nwill a 1 b+x | 2\nwill b 1")
        self.assertEqual(flips(family, "x"), ((("a", "b"), (7, 6)),))
        self.assertEqual(flips(family, "crown"), ((("a", "b"), (7, 6)),))

    def test_pair_that_changes_nothing_for_a_name(self):
        family = Family.read("person a 6\nperson b 0\nperson c 0\nperson x 0\nperson y 0\n"
                             "will a 1 b > c\nwill b 1 x\nwill c 1 y")
        self.assertEqual(flips(family, "x"), ((("a", "b"), (6, 1)),))
        self.assertEqual(flips(family, "y"), ((("a", "b"), (6, 1)), (("a", "c"), (6, 1))))
        self.assertEqual(flips(family.with_fact("a", "b"), "y"), ())

    def test_turned_pairs_that_make_a_ring_do_not_count(self):
        # With the facts, c before a makes b die before a, and b before a makes c die before d.
        family = Family.read("person a 6\nperson b 0\nperson c 0\nperson x 0\n"
                             "will a 1 c > x\nwill b 1 a\nwill c 1\nfirst b c")
        self.assertEqual(flips(family, "x"), ((("a", "c"), (6, 1)),))
        family = Family.read("person a 6\nperson b 5\nperson c 0\nperson d 0\nperson x 0\n"
                             "will a 1 b > x\nwill b 1\nwill c 1 d > x\nwill d 1\nfirst a d\nfirst c b")
        self.assertEqual(flips(family, "x"), ((("a", "b"), (6, 1)),))

    def test_all_cases(self):
        for family in SMALL + NINE:
            found = paid_in_cases(family)
            neighbours = [(case, other, at) for case in found for at, (first, then) in enumerate(case)
                          for other in [case[:at] + ((then, first),) + case[at + 1:]] if other in found]
            for name in names_of(family):
                gaps = [Fraction(0)] * len(matter(family))
                for case, other, at in neighbours:
                    gaps[at] = max(gaps[at], found[case][name] - found[other][name])
                expected = tuple((each, pair(gap)) for each, gap in zip(matter(family), gaps) if gap > 0)
                self.assertEqual(flips(family, name), expected, (str(family), name))

    def test_row_of_nine(self):
        expected = tuple(((a, b), (at, 1)) for at, (a, b) in enumerate(zip("abcdefgh", "bcdefghi"), 1))
        self.assertEqual(flips(row_of_nine(), "x"), expected)
        self.assertEqual(flips(row_of_nine(), "y"), expected)


def never_first(family):
    """Return the triples of [16] by all orders."""
    found = {(name, share, group) for name, will in family.wills for share, (_, groups) in enumerate(will.shares)
             for group in range(len(groups))}
    for order in all_orders(family):
        for at, name in enumerate(order):
            alive = set(family.living) | set(order[at + 1:])
            for share, (_, groups) in enumerate(family.will_of(name).shares):
                reached = [group for group, names in enumerate(groups) if alive & set(names)]
                found -= {(name, share, group) for group in reached[:1]}
    return tuple(sorted(found))


class Idle(unittest.TestCase):

    def test_example(self):
        self.assertEqual(idle(FAMILY), ())

    def test_behind_the_living(self):
        family = Family.read("person a 0\nperson b 0\nperson x 0\nperson y 0\n"
                             "will b 1 | 2 a > x > y > a\nwill a 1 y | 1 b+x > b > y")
        self.assertEqual(idle(family), (("a", 1, 1), ("a", 1, 2), ("b", 1, 2), ("b", 1, 3)))

    def test_facts(self):
        self.assertEqual(idle(FAMILY.with_fact("bob", "ann")), (("ann", 0, 0),))
        self.assertEqual(idle(FAMILY.with_fact("ann", "bob")), (("ann", 0, 1),))
        self.assertEqual(idle(FAMILY.with_fact("ann", "bob").with_fact("cid", "ann")), (("ann", 0, 1), ("cid", 0, 1)))
        self.assertEqual(idle(FAMILY.with_fact("bob", "cid").with_fact("ann", "bob")), (("ann", 0, 1), ("cid", 0, 0)))

    def test_same_group_again(self):
        family = Family.read("person a 0\nperson b 0\nwill a 1 b > b\nwill b 1 a")
        self.assertEqual(idle(family), (("a", 0, 1),))

    def test_who_owned_nothing_counts(self):
        family = Family.read("person a 0\nperson b 0\nperson x 0\nwill a 1 b > x\nwill b 1 x")
        self.assertEqual(idle(family), ())

    def test_none(self):
        self.assertEqual(idle(Family([("ann", 1)])), ())
        self.assertEqual(idle(Family.read("person a 1\nwill a 1 | 2")), ())

    def test_all_orders_of_small_families(self):
        for family in SMALL:
            self.assertEqual(idle(family), never_first(family), str(family))

    def test_nine_dead_people(self):
        self.assertEqual(idle(row_of_nine()), (("i", 0, 1),))
        facts = row_of_nine().with_fact("a", "c").with_fact("c", "b").with_fact("h", "a").with_fact("b", "i")
        self.assertEqual(idle(facts), (("a", 0, 1), ("b", 0, 0), ("h", 0, 1), ("i", 0, 1)))


class ByName(unittest.TestCase):

    def test_arguments_by_name(self):
        for function in WITH_NAME:
            self.assertEqual(function(name="dan", family=FAMILY), function(FAMILY, "dan"))
        for function in (settled, surely, possibly, idle):
            self.assertEqual(function(family=FAMILY), function(FAMILY))


if __name__ == "__main__":
    unittest.main()
