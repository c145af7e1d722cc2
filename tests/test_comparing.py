"""[19]: comparing what two families pay."""

import unittest

from heirorders.comparing import alike, parting
from heirorders.errors import Mismatch
from heirorders.families import Family
from heirorders.orders import is_order, paid
from heirorders.wills import Will
from tests.reference import Numbers, all_orders, final, some_family, some_share
from tests.samples import LINES, NINE, TEXT, nine_dead

FAMILY = Family.read(TEXT)

OTHER = Family.read(TEXT.replace("bob > dan", "bob+dan"))


def parts(p, q):
    """Return all orders of both families in which they do not pay the same."""
    both = Family(p.people, p.wills)
    keeping = [order for order in all_orders(both)
               if all(order.index(first) < order.index(then) for first, then in p.facts + q.facts)]
    return [order for order in keeping if final(p, order) != final(q, order)]


def changed(family, seed):
    """Return a family of the same people that differs a little, or in its facts alone."""
    numbers = Numbers(seed)
    wills = list(family.wills)
    facts = family.facts
    if seed % 3 and wills:
        at = numbers.below(len(wills))
        name, will = wills[at]
        shares = list(will.shares)
        others = [other for other in family.names if other != name]
        shares[numbers.below(len(shares))] = some_share(numbers, others)
        wills[at] = (name, Will(shares))
    if seed % 2:
        facts = ()
    return Family(family.people[::-1], wills[::-1], facts)


COUPLES = [(some_family(seed), changed(some_family(seed), seed)) for seed in range(24)]
COUPLES += [(some_family(seed, 3, 2), some_family(seed + 1, 3, 2)) for seed in range(30, 40)]
COUPLES += [(some_family(seed, 5, 2), changed(some_family(seed, 5, 2), seed)) for seed in range(50, 56)]


class Examples(unittest.TestCase):

    def test_examples(self):
        self.assertIs(alike(FAMILY, OTHER), False)
        self.assertIsNotNone(parting(FAMILY, OTHER))
        self.assertIs(alike(FAMILY, FAMILY.with_fact("bob", "ann")), True)
        self.assertIsNone(parting(FAMILY, FAMILY.with_fact("bob", "ann")))

    def test_parting_is_an_order_of_both(self):
        order = parting(FAMILY, OTHER)
        self.assertIs(type(order), tuple)
        self.assertIs(is_order(FAMILY, order), True)
        self.assertNotEqual(paid(FAMILY, order), paid(OTHER, order))
        self.assertLess(order.index("ann"), order.index("bob"))

    def test_itself(self):
        for family in (FAMILY, OTHER, Family([("ann", 1)]), *NINE):
            self.assertIs(alike(family, family), True)
            self.assertIsNone(parting(family, family))


class SamePeople(unittest.TestCase):

    def test_people_and_wills_in_another_order(self):
        family = Family(FAMILY.people[::-1], FAMILY.wills[::-1])
        self.assertNotEqual(family, FAMILY)
        self.assertIs(alike(FAMILY, family), True)
        self.assertIs(alike(OTHER, family), False)

    def test_other_amounts(self):
        for name in ("ann", "bob", "cid", "dan", "eve"):
            other = FAMILY.with_own(name, 7)
            self.assertIs(alike(FAMILY, other), False)
            order = parting(FAMILY, other)
            self.assertIs(is_order(FAMILY, order), True)
            self.assertNotEqual(paid(FAMILY, order), paid(other, order))

    def test_other_amounts_that_go_the_same_way(self):
        family = Family.read("person a 3\nperson b 4\nperson x 0\nwill a 1 x\nwill b 1 x")
        self.assertIs(alike(family, family.with_own("a", 4).with_own("b", 3)), True)
        self.assertIs(alike(family, family.with_own("a", 4)), False)

    def test_amounts_that_differ_in_the_lower_number_alone(self):
        family = Family.read("person a 1\nperson x 0\nperson y 0\nwill a 1 x | 2 y")
        other = Family.read("person a 1\nperson x 0\nperson y 0\nwill a 1 x | 1 y")
        self.assertIs(alike(family, other), False)
        same = Family.read("person a 1\nperson x 0\nperson y 0\nwill a 2 x | 4 y")
        self.assertIs(alike(family, same), True)

    def test_other_words_for_the_same_will(self):
        self.assertIs(alike(FAMILY, Family.read(TEXT.replace("1 bob > dan", "2 bob > bob > dan > eve | 3 bob > dan"))), True)

    def test_nobody_dead(self):
        family = Family([("ann", 1), ("bob", 2)])
        self.assertIs(alike(family, Family([("bob", 2), ("ann", 1)])), True)
        self.assertEqual(parting(family, Family([("bob", 2), ("ann", 2)])), ())

    def test_nobody_living(self):
        family = Family.read("person a 5\nperson b 0\nwill a 1 b\nwill b 1")
        self.assertIs(alike(family, Family.read("person a 5\nperson b 0\nwill a 1\nwill b 1 a")), True)
        self.assertIs(alike(family, Family.read("person a 4\nperson b 0\nwill a 1\nwill b 1 a")), False)


class Facts(unittest.TestCase):

    def test_no_common_order(self):
        first = FAMILY.with_fact("ann", "bob")
        for then in (OTHER.with_fact("bob", "ann"), OTHER.with_fact("bob", "cid").with_fact("cid", "ann")):
            self.assertIs(alike(first, then), True)
            self.assertIs(alike(then, first), True)
            self.assertIsNone(parting(first, then))
        # Nor if nobody names anybody.
        lines = ["person a 1", "person b 1", "person c 1", "will a 1", "will b 1", "will c 1"]
        family = Family.read("\n".join(lines + ["first a b", "first b c"]))
        self.assertIsNone(parting(family, Family.read("\n".join(lines + ["first c a"])).with_own("a", 9)))
        self.assertEqual(parting(family, Family.read("\n".join(lines)).with_own("a", 9)), ("a", "b", "c"))

    def test_facts_that_leave_only_the_same(self):
        # They differ only where ann died before bob.
        for first, then in ((FAMILY.with_fact("bob", "ann"), OTHER), (FAMILY, OTHER.with_fact("bob", "ann"))):
            self.assertIs(alike(first, then), True)
        self.assertIs(alike(FAMILY.with_fact("ann", "bob"), OTHER), False)
        self.assertIs(alike(FAMILY.with_fact("ann", "cid"), OTHER.with_fact("cid", "bob")), False)

    def test_facts_of_both_together(self):
        first, then = FAMILY.with_fact("bob", "cid"), OTHER.with_fact("cid", "ann")
        self.assertIs(alike(first, then), True)
        self.assertIs(alike(FAMILY, then), False)
        self.assertIs(alike(first, OTHER), False)

    def test_parting_keeps_the_facts_of_both(self):
        first, then = FAMILY.with_fact("ann", "cid"), OTHER.with_fact("cid", "bob")
        self.assertEqual(parting(first, then), ("ann", "cid", "bob"))
        self.assertEqual(parting(then, first), ("ann", "cid", "bob"))


class Mismatches(unittest.TestCase):

    def refused(self, p, q):
        for function in (alike, parting):
            for first, then in ((p, q), (q, p)):
                with self.assertRaises(Mismatch) as caught:
                    function(first, then)
                self.assertIs(type(caught.exception), Mismatch)

    def test_other_living_people(self):
        self.refused(FAMILY, Family.read("\n".join(LINES[:5] + ["person fay 0"] + LINES[5:])))
        self.refused(FAMILY, Family.read(TEXT.replace("dan", "fay")))

    def test_other_dead_people(self):
        self.refused(FAMILY, Family.read("\n".join(LINES[:5] + ["person fay 0"] + LINES[5:] + ["will fay 1"])))
        self.refused(FAMILY, Family.read(TEXT.replace("bob", "fay")))

    def test_dead_in_one_and_living_in_the_other(self):
        self.refused(FAMILY, Family.read(TEXT + "\nwill dan 1 eve"))
        self.refused(FAMILY, Family.read("\n".join(LINES[:-1])))
        self.refused(Family([("a", 1)]), Family([("a", 1)], [("a", Will.read("1"))]))

    def test_before_anything_else(self):
        # Without a common order there would be nothing to part them.
        other = Family.read("\n".join(LINES[:5] + ["person fay 0"] + LINES[5:] + ["first bob ann"]))
        self.refused(FAMILY.with_fact("ann", "bob"), other)


class ManyOrders(unittest.TestCase):

    def test_all_orders_of_small_families(self):
        answers = []
        for p, q in COUPLES:
            for first, then in ((p, q), (q, p)):
                expected = parts(first, then)
                found = parting(first, then)
                self.assertIs(alike(first, then), not expected)
                if expected:
                    self.assertIn(found, expected)
                else:
                    self.assertIsNone(found)
                answers.append(bool(expected))
        # The families are of both kinds.
        self.assertGreater(answers.count(True), 10)
        self.assertGreater(answers.count(False), 10)

    def test_nine_dead_people(self):
        for family in NINE:
            same = Family(family.people[::-1], family.wills[::-1], family.facts)
            self.assertIs(alike(family, same), True)
            other = family.with_own("i", family.own("i") + 1)
            order = parting(family, other)
            self.assertNotEqual(final(family, order), final(other, order))

    def test_each_has_pairs_of_its_own(self):
        p = nine_dead({a: b for a, b in zip("abcdefgh", "bcdefghi")})
        q = nine_dead({a: b for a, b in zip("abcdefg", "cdefghi")})
        order = parting(p, q)
        self.assertNotEqual(final(p, order), final(q, order))
        self.assertIs(is_order(p, order), True)
        # Who owns nothing may have any will.
        p = Family([(name, 0) for name in p.names], p.wills)
        q = Family([(name, 0) for name in p.names], q.wills)
        self.assertIs(alike(p, q), True)

    def test_parting_in_one_case_alone(self):
        # All that a owned reaches i if the deaths come by the alphabet.
        lines = [f"person {name} {int(name == 'a')}" for name in "abcdefghi"] + ["person x 0", "person y 0"]
        lines += [f"will {a} 1 {b}" for a, b in zip("abcdefgh", "bcdefghi")]
        p = Family.read("\n".join(lines + ["will i 1 x"]))
        q = Family.read("\n".join(lines + ["will i 1 y"]))
        self.assertEqual(parting(p, q), tuple("abcdefghi"))
        self.assertIsNone(parting(p.with_fact("f", "e"), q))


class ByName(unittest.TestCase):

    def test_arguments_by_name(self):
        self.assertIs(alike(q=OTHER, p=FAMILY), False)
        self.assertEqual(parting(q=OTHER.with_fact("cid", "bob"), p=FAMILY.with_fact("ann", "cid")), ("ann", "cid", "bob"))


if __name__ == "__main__":
    unittest.main()
