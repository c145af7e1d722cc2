"""[11], [12]: orders, and what is paid in them."""

import unittest
from itertools import permutations

from heirorders.cases import case_of
from heirorders.errors import InvalidOrder
from heirorders.families import Family
from heirorders.orders import at_once, is_order, paid, steps
from heirorders.wills import Will
from tests.reference import SMALL, all_orders, final, follow, pair
from tests.samples import TEXT, nested, odd_values

FAMILY = Family.read(TEXT)

RIGHT = [kind(order) for order in permutations(("ann", "bob", "cid")) for kind in (list, tuple)]


class Orders(unittest.TestCase):

    def refused(self, family, value, at):
        """Check the index that every function tells of a value that is no order."""
        self.assertIs(is_order(family, value), False)
        for function in (paid, steps, case_of):
            with self.assertRaises(InvalidOrder) as caught:
                function(family, value)
            self.assertEqual((caught.exception.at, type(caught.exception.at)), (at, int), value)

    def test_orders(self):
        for order in RIGHT:
            self.assertIs(is_order(FAMILY, order), True)

    def test_all_sequences_of_small_families(self):
        for family in SMALL:
            right = all_orders(family)
            self.assertGreater(len(right), 0)
            for order in permutations(family.dead):
                self.assertIs(is_order(family, order), order in right)
                self.assertIs(is_order(family, list(order)), order in right)

    def test_nobody_dead(self):
        family = Family([("ann", 1)])
        for order in ((), []):
            self.assertIs(is_order(family, order), True)
        self.refused(family, ("ann",), 0)
        self.refused(family, ["bob"], 0)

    def test_no_sequence(self):
        for value in (None, 0, 1, -1, True, False, "ann", "", "annbobcid", FAMILY, Will.read("1"), InvalidOrder(3)):
            self.refused(FAMILY, value, 0)
        self.refused(Family([("ann", 1)]), None, 0)
        self.refused(Family([("ann", 1)]), "", 0)

    def test_no_dead_person(self):
        self.refused(FAMILY, ["dan", "ann", "bob", "cid"], 0)
        self.refused(FAMILY, ["ann", "dan", "bob"], 1)
        self.refused(FAMILY, ("ann", "bob", "eve"), 2)
        self.refused(FAMILY, ("ann", "bob", "cid", "dan"), 3)
        self.refused(FAMILY, ("ann", "bob", "zoe"), 2)
        self.refused(FAMILY, ["crown", "ann"], 0)
        self.refused(FAMILY, ["ann", "crown"], 1)
        self.refused(FAMILY, ["ann", ["bob"], "cid"], 1)
        self.refused(FAMILY, [["ann", "bob", "cid"]], 0)
        self.refused(FAMILY, [("ann",), ("bob",), ("cid",)], 0)

    def test_second_time(self):
        self.refused(FAMILY, ["ann", "ann", "bob"], 1)
        self.refused(FAMILY, ["ann", "bob", "ann"], 2)
        self.refused(FAMILY, ("ann", "bob", "cid", "ann"), 3)
        self.refused(FAMILY, ("ann", "bob", "cid", "cid", "cid"), 3)
        self.refused(FAMILY, ("ann", "bob", "bob", "dan"), 2)

    def test_facts(self):
        family = FAMILY.with_fact("cid", "ann")
        self.assertIs(is_order(family, ["cid", "ann", "bob"]), True)
        self.assertIs(is_order(family, ["bob", "cid", "ann"]), True)
        self.refused(family, ["ann", "cid", "bob"], 0)
        self.refused(family, ("ann", "bob", "cid"), 0)
        self.refused(family, ("bob", "ann", "cid"), 1)
        self.refused(family, ["bob", "ann"], 1)
        self.refused(family, ["bob", "cid"], 2)
        self.refused(family, ["ann"], 0)

    def test_facts_of_several(self):
        family = FAMILY.with_fact("cid", "bob").with_fact("bob", "ann").with_fact("cid", "bob")
        self.assertIs(is_order(family, ("cid", "bob", "ann")), True)
        self.refused(family, ("cid", "ann", "bob"), 1)
        self.refused(family, ("bob", "cid", "ann"), 0)
        self.refused(family, ("ann", "cid", "bob"), 0)
        two = FAMILY.with_fact("ann", "cid").with_fact("bob", "cid")
        self.refused(two, ("ann", "cid", "bob"), 1)
        self.refused(two, ("bob", "cid", "ann"), 1)
        self.refused(two, ("bob", "ann"), 2)

    def test_too_short(self):
        self.refused(FAMILY, [], 0)
        self.refused(FAMILY, (), 0)
        self.refused(FAMILY, ["bob"], 1)
        self.refused(FAMILY, ("cid", "ann"), 2)

    def test_first_fault_is_told(self):
        family = FAMILY.with_fact("bob", "cid")
        self.refused(family, ["cid", "cid", "dan"], 0)
        self.refused(family, ["ann", "ann", "cid"], 1)
        self.refused(family, ["ann", "dan", "cid", None], 1)
        self.refused(family, ["bob", "cid", "bob", None], 2)
        self.refused(family, ["bob", "cid", None, "bob"], 2)

    def test_any_value_at_all(self):
        for value in odd_values(*RIGHT):
            self.assertIs(is_order(FAMILY, value), False)
            with self.assertRaises(InvalidOrder):
                paid(FAMILY, value)
        for value in odd_values("cid"):
            self.refused(FAMILY, ("ann", "bob", value), 2)
            self.refused(FAMILY, [value, "ann", "bob", "cid"], 0)
            self.refused(FAMILY, ["ann", "bob", "cid", value], 3)

    def test_nested(self):
        for kind in (list, tuple):
            for depth in range(1, 8):
                self.refused(FAMILY, nested(["ann", "bob", "cid"], depth, kind), 0)
                self.refused(FAMILY, ["ann", nested("bob", depth, kind), "cid"], 1)

    def test_arguments_by_name(self):
        self.assertIs(is_order(value=["ann", "bob", "cid"], family=FAMILY), True)
        self.assertEqual(paid(order=["cid", "ann", "bob"], family=FAMILY), paid(FAMILY, ("cid", "ann", "bob")))


class Paid(unittest.TestCase):

    def told(self, text, order):
        return dict(paid(Family.read(text.replace("; ", "\n")), order.split()))

    def test_examples(self):
        self.assertEqual(paid(FAMILY, ["cid", "ann", "bob"]), (("dan", (0, 1)), ("eve", (18, 1)), ("crown", (0, 1))))
        self.assertEqual(paid(FAMILY, ["bob", "cid", "ann"]), (("dan", (18, 1)), ("eve", (0, 1)), ("crown", (0, 1))))

    def test_nobody_dead(self):
        self.assertEqual(paid(Family([("eve", 3), ("ann", 0)]), ()),
                         (("ann", (0, 1)), ("eve", (3, 1)), ("crown", (0, 1))))

    def test_nobody_living(self):
        family = Family.read("person a 5\nperson b 1\nwill a 1 b\nwill b 1 a")
        self.assertEqual(paid(family, ("a", "b")), (("crown", (6, 1)),))
        self.assertEqual(paid(family, ("b", "a")), (("crown", (6, 1)),))

    def test_ascending_and_crown_last(self):
        family = Family.read("person z 1\nperson d 4\nperson a 2\nperson x 0\nwill x 1 z+a")
        self.assertEqual(paid(family, ["x"]), (("a", (2, 1)), ("d", (4, 1)), ("z", (1, 1)), ("crown", (0, 1))))

    def test_later_groups(self):
        text = "person a 6; person b 0; person c 0; person x 0; person y 0; will a 1 b > c > x+y; will b 1 x; will c 1 y"
        self.assertEqual(self.told(text, "a b c"), {"x": (6, 1), "y": (0, 1), "crown": (0, 1)})
        self.assertEqual(self.told(text, "b a c"), {"x": (0, 1), "y": (6, 1), "crown": (0, 1)})
        self.assertEqual(self.told(text, "b c a"), {"x": (3, 1), "y": (3, 1), "crown": (0, 1)})

    def test_crown(self):
        text = "person a 7; person b 0; person x 1; will a 2 b | 1; will b 1 x | 1 a"
        self.assertEqual(self.told(text, "a b"), {"x": (10, 3), "crown": (14, 3)})
        self.assertEqual(self.told(text, "b a"), {"x": (1, 1), "crown": (7, 1)})

    def test_part_of_a_group_is_alive(self):
        text = "person a 12; person b 0; person x 0; person y 0; will a 1 b+x+y; will b 1 y"
        self.assertEqual(self.told(text, "a b"), {"x": (4, 1), "y": (8, 1), "crown": (0, 1)})
        self.assertEqual(self.told(text, "b a"), {"x": (6, 1), "y": (6, 1), "crown": (0, 1)})

    def test_dead_heir_does_not_get_anything_later(self):
        text = "person a 12; person b 5; person x 0; will a 1 b > x; will b 1"
        self.assertEqual(self.told(text, "b a"), {"x": (12, 1), "crown": (5, 1)})
        self.assertEqual(self.told(text, "a b"), {"x": (0, 1), "crown": (17, 1)})

    def test_who_owned_nothing_passes_on_what_was_inherited(self):
        text = "person a 9; person b 0; person c 0; person x 0; will a 1 b; will b 1 c; will c 1 x"
        self.assertEqual(self.told(text, "a b c"), {"x": (9, 1), "crown": (0, 1)})
        self.assertEqual(self.told(text, "b c a"), {"x": (0, 1), "crown": (9, 1)})
        self.assertEqual(self.told(text, "a c b"), {"x": (0, 1), "crown": (9, 1)})

    def test_lowest_terms(self):
        text = "person a 10; person x 0; person y 0; person z 0; will a 2 x | 4 y | 9 x+y+z"
        self.assertEqual(self.told(text, "a"), {"x": (10, 3), "y": (14, 3), "z": (2, 1), "crown": (0, 1)})

    def test_all_orders_of_small_families(self):
        for family in SMALL:
            for order in all_orders(family):
                self.assertEqual(paid(family, order), final(family, order), (str(family), order))

    def test_lists_and_tuples(self):
        for family in SMALL:
            order = all_orders(family)[-1]
            self.assertEqual(paid(family, list(order)), paid(family, order))
            self.assertEqual(steps(family, list(order)), steps(family, order))

    def test_great_amounts_and_many_dead(self):
        names = "abcdefghi"
        lines = [f"person {name} {10 ** 9}" for name in names] + ["person x 0", "person y 0", "person z 0"]
        lines += [f"will {a} 7 {b}+x+y | 8 {b}+y | 9 x+y+z" for a, b in zip(names, names[1:])] + ["will i 1"]
        family = Family.read("\n".join(lines))
        for order in (names, names[::-1], "bdfhacegi"):
            self.assertEqual(paid(family, list(order)), final(family, order))


class Steps(unittest.TestCase):

    def test_example(self):
        self.assertEqual(steps(FAMILY, ["cid", "ann", "bob"]), ((("ann", (6, 1)),), (("bob", (18, 1)),),
                                                                (("eve", (18, 1)),)))

    def test_who_holds_nothing(self):
        self.assertEqual(steps(FAMILY, ["bob", "ann", "cid"]), ((), (("dan", (12, 1)),), (("eve", (6, 1)),)))

    def test_nobody_dead(self):
        self.assertEqual(steps(Family([("ann", 1)]), []), ())

    def test_crown_stands_among_the_names(self):
        family = Family.read("person a 4\nperson b 3\nperson z 0\nwill b 1 z | 1 a | 1\nwill a 1 z | 1")
        self.assertEqual(steps(family, ("b", "a")), ((("a", (1, 1)), ("crown", (1, 1)), ("z", (1, 1))),
                                                     (("crown", (5, 2)), ("z", (5, 2)))))

    def test_several_shares_of_one_heir(self):
        family = Family.read("person a 4\nperson x 0\nperson y 9\nwill a 1 x | 1 x+y | 2 y > x")
        self.assertEqual(steps(family, ["a"]), ((("x", (3, 2)), ("y", (5, 2))),))

    def test_all_orders_of_small_families(self):
        for family in SMALL:
            for order in all_orders(family):
                _, told = follow(family, [[name] for name in order])
                expected = tuple(tuple(sorted((name, pair(part)) for name, part in gifts.items() if part > 0))
                                 for gifts in told)
                self.assertEqual(steps(family, order), expected, (str(family), order))


def all_hours(names):
    """Return all sequences of groups of these names, each name in one of them."""
    if not names:
        return [[]]
    return [hours[:at] + [[names[0]]] + hours[at:] for hours in all_hours(names[1:]) for at in range(len(hours) + 1)] + [
        hours[:at] + [hours[at] + [names[0]]] + hours[at + 1:]
        for hours in all_hours(names[1:]) for at in range(len(hours))]


class AtOnce(unittest.TestCase):

    def test_example(self):
        self.assertEqual(at_once(FAMILY, [["cid"], ["ann", "bob"]]),
                         (("dan", (18, 1)), ("eve", (0, 1)), ("crown", (0, 1))))

    def test_all_in_one_hour(self):
        expected = (("dan", (12, 1)), ("eve", (6, 1)), ("crown", (0, 1)))
        for group in permutations(["ann", "bob", "cid"]):
            self.assertEqual(at_once(FAMILY, [group]), expected)

    def test_nobody_inherits_within_an_hour(self):
        family = Family.read("person a 8\nperson b 4\nperson c 0\nperson x 0\n"
                             "will a 1 b+c > x\nwill b 1 a+x\nwill c 1")
        self.assertEqual(at_once(family, [["a", "b"], ["c"]]), (("x", (4, 1)), ("crown", (8, 1))))
        self.assertEqual(at_once(family, [["a", "b", "c"]]), (("x", (12, 1)), ("crown", (0, 1))))
        self.assertEqual(at_once(family, [["c"], ["b", "a"]]), (("x", (12, 1)), ("crown", (0, 1))))
        self.assertEqual(at_once(family, [["b"], ["c", "a"]]), (("x", (12, 1)), ("crown", (0, 1))))

    def test_several_heirs_of_one_hour(self):
        family = Family.read("person a 8\nperson b 4\nperson c 0\nperson x 0\n"
                             "will a 1 c\nwill b 1 c\nwill c 1 x")
        self.assertEqual(at_once(family, [["a", "b"], ["c"]]), (("x", (12, 1)), ("crown", (0, 1))))

    def test_facts_do_not_matter(self):
        family = FAMILY.with_fact("bob", "ann").with_fact("ann", "cid")
        for hours in all_hours(["ann", "bob", "cid"]):
            self.assertEqual(at_once(family, hours), at_once(FAMILY, hours))
        self.assertEqual(at_once(family, [["cid"], ["ann"], ["bob"]]), paid(FAMILY, ("cid", "ann", "bob")))

    def test_hours_of_one_each(self):
        for family in SMALL:
            for order in all_orders(family):
                self.assertEqual(at_once(family, [[name] for name in order]), paid(family, order))

    def test_nobody_dead(self):
        self.assertEqual(at_once(Family([("ann", 1)]), []), (("ann", (1, 1)), ("crown", (0, 1))))

    def test_all_hours_of_small_families(self):
        self.assertEqual(len(all_hours("abc")), 13)
        for family in SMALL:
            if len(family.dead) < 5:
                for hours in all_hours(family.dead):
                    self.assertEqual(at_once(family, hours), final(family, hours), (str(family), hours))

    def test_lists_and_tuples(self):
        for hours in ([["cid"], ["ann", "bob"]], (("cid",), ("ann", "bob")), [("cid",), ["bob", "ann"]]):
            self.assertEqual(at_once(FAMILY, hours), (("dan", (18, 1)), ("eve", (0, 1)), ("crown", (0, 1))))
        self.assertEqual(at_once(hours=[["ann", "bob"], ["cid"]], family=FAMILY),
                         (("dan", (12, 1)), ("eve", (6, 1)), ("crown", (0, 1))))


if __name__ == "__main__":
    unittest.main()
