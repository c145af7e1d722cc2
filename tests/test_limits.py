"""Families at the limits of [3]: the answers for a chain of nine dead people, by hand, and how much work they take."""

import sys
import unittest
from itertools import product

from heirorders.cases import case_of, cases, is_case, order_of, paid_in, pairs
from heirorders.comparing import alike, parting
from heirorders.deciding import flips, greatest, greatest_order, idle, least, least_order, possibly, settled, surely
from heirorders.errors import InvalidCase, InvalidOrder, NoName
from heirorders.families import Family
from heirorders.orders import is_order, paid
from heirorders.papers import paper, paper_holds
from heirorders.settling import cases_for, settlers, sure_facts
from tests.reference import all_orders, case_in, final
from tests.samples import NINE, TEXT, nine_dead


def chain(dead):
    """Return a family of which each of the dead leaves all to the next one, and the last one to zoe."""
    lines = [f"person {name} {7 + at}" for at, name in enumerate(dead)] + ["person zoe 0"]
    lines += [f"will {name} 1 {heir}" for name, heir in zip(dead, [*dead[1:], "zoe"])]
    return Family.read("\n".join(lines))


NAMES = "abcdefghi"

CHAIN = chain(NAMES)

KNOWN = tuple(zip(NAMES, NAMES[1:]))

CASES = tuple(product(*[(way, way[::-1]) for way in KNOWN]))


def reaches_zoe(family, case):
    """Return what reaches zoe in a case: the estates from which all later ones of the chain died in turn."""
    total = 0
    for at, name in enumerate(family.dead):
        if all(first < then for first, then in case[at:]):
            total += family.own(name)
    return total


TOLD = {case: reaches_zoe(CHAIN, case) for case in CASES}

# What is left at each place of the chain, together with all that comes from before it.
SUMS = (7, 15, 24, 34, 45, 57, 70, 84)


def all_answers(family, name, most):
    """Return what all functions of cases, deciding and papers, and of those built on them, tell of a family."""
    found = cases(family)
    order = order_of(family, found[-1])
    made = paper(family, name, most)
    return (pairs(family), found, order, case_of(family, order), is_case(family, found[0]), is_case(family, found[0][1:]),
            paid_in(family, found[-1]), least(family, name), greatest(family, name), least_order(family, name),
            greatest_order(family, name), settled(family), surely(family), possibly(family), flips(family, name),
            idle(family), made, paper_holds(family, name, most, made), paper_holds(family, name, most, made[1:]),
            paper(family, name, -1), settlers(family, name), cases_for(family, [(name, 7)]), sure_facts(family, []),
            alike(family, family), parting(family, family))


class Chain(unittest.TestCase):

    def test_text(self):
        self.assertEqual(str(CHAIN).split("\n")[:2] + str(CHAIN).split("\n")[-1:],
                         ["person a 7", "person b 8", "will i 1 zoe"])
        self.assertEqual((len(CHAIN.dead), CHAIN.living), (9, ("zoe",)))

    def test_cases(self):
        self.assertEqual(pairs(CHAIN), KNOWN)
        self.assertEqual(cases(CHAIN), CASES)
        self.assertEqual(len(CASES), 256)
        for case in CASES:
            self.assertIs(is_case(CHAIN, case), True)
            order = order_of(CHAIN, case)
            self.assertIs(is_order(CHAIN, order), True)
            self.assertEqual(case_of(CHAIN, order), case)
            self.assertEqual(paid_in(CHAIN, case), (("zoe", (TOLD[case], 1)), ("crown", (99 - TOLD[case], 1))))
        for value in (CASES[0][:7], CASES[0] + CASES[0][:1], list(CASES[0]), CASES[0][::-1], CASES):
            self.assertIs(is_case(CHAIN, value), False)
            self.assertRaises(InvalidCase, order_of, CHAIN, value)
            self.assertRaises(InvalidCase, paid_in, CHAIN, value)
        self.assertRaises(InvalidOrder, case_of, CHAIN, NAMES[:8])

    def test_least_and_greatest(self):
        self.assertEqual((least(CHAIN, "zoe"), greatest(CHAIN, "zoe")), ((15, 1), (99, 1)))
        self.assertEqual((least(CHAIN, "crown"), greatest(CHAIN, "crown")), ((0, 1), (84, 1)))
        self.assertEqual(greatest_order(CHAIN, "zoe"), tuple(NAMES))
        self.assertEqual(least_order(CHAIN, "crown"), tuple(NAMES))
        for order in (least_order(CHAIN, "zoe"), greatest_order(CHAIN, "crown")):
            self.assertIs(is_order(CHAIN, order), True)
            self.assertLess(order.index("i"), order.index("h"))
            self.assertEqual(paid(CHAIN, order), (("zoe", (15, 1)), ("crown", (84, 1))))

    def test_sets(self):
        self.assertEqual((settled(CHAIN), surely(CHAIN), possibly(CHAIN)), ((), ("zoe",), ("crown", "zoe")))

    def test_flips(self):
        expected = tuple((pair, (gap, 1)) for pair, gap in zip(KNOWN, SUMS))
        self.assertEqual(flips(CHAIN, "zoe"), expected)
        self.assertEqual(flips(CHAIN, "crown"), expected)

    def test_idle(self):
        self.assertEqual(idle(CHAIN), ())
        self.assertEqual(idle(CHAIN.with_fact("f", "e").with_fact("a", "b")), (("e", 0, 0),))

    def test_papers(self):
        right = tuple((case, (TOLD[case], 1)) for case in CASES)
        for most in (99, (99, 1), (199, 2), 10 ** 9):
            self.assertEqual(sorted(paper(CHAIN, "zoe", most)), sorted(right))
            self.assertIs(paper_holds(CHAIN, "zoe", most, right), True)
            self.assertIs(paper_holds(CHAIN, "zoe", most, right[128:] + right[127::-1]), True)
        for most in (98, (197, 2), 0, -1):
            self.assertIsNone(paper(CHAIN, "zoe", most))
            self.assertIs(paper_holds(CHAIN, "zoe", most, right), False)
        for value in (right[1:], right + right[:1], right[:-1] + right[:1], list(right),
                      right[:-1] + ((CASES[-1], (16, 1)),), right[:-1] + ((CASES[-1], (30, 2)),),
                      right[:-1] + ((CASES[-1], (15, True)),), right[:-1] + ((list(CASES[-1]), (15, 1)),),
                      right[:-1] + ((CASES[-1][1:], (15, 1)),)):
            self.assertIs(paper_holds(CHAIN, "zoe", 99, value), False)

    def test_wrong_names(self):
        for value in ("a", "i", "y", "", None, True, 7, ["zoe"], ("zoe",), CHAIN):
            for function in (least, greatest, least_order, greatest_order, flips):
                self.assertRaises(NoName, function, CHAIN, value)
            self.assertRaises(NoName, paper, CHAIN, value, 99)
            self.assertRaises(NoName, paper_holds, CHAIN, value, 99, ())

    def test_facts(self):
        family = CHAIN.with_fact("i", "h")
        self.assertEqual(cases(family), tuple(case for case in CASES if case[7] == ("i", "h")))
        self.assertEqual((settled(family), greatest(family, "zoe")), (("crown", "zoe"), (15, 1)))
        family = CHAIN.with_fact("i", "a")
        self.assertEqual(cases(family), CASES[1:])
        self.assertEqual(greatest(family, "zoe"), (92, 1))
        # All that the facts say of the chain follows from others.
        family = CHAIN.with_fact("a", "c").with_fact("c", "b").with_fact("f", "b").with_fact("d", "f")
        self.assertEqual(cases(family), tuple(case for case in CASES if case[0] == ("a", "b") and case[1] == ("c", "b")
                                              and (case[3:5] != (("e", "d"), ("f", "e")))))
        self.assertEqual(greatest(family, "crown"), (84, 1))
        self.assertEqual(least(family, "crown"), (15, 1))

    def test_settling(self):
        self.assertEqual(settlers(CHAIN, "zoe")[0], (("i", "h"),))
        self.assertEqual(settlers(CHAIN, "zoe")[1:], ((("h", "g"), ("h", "i")),))
        self.assertEqual(cases_for(CHAIN, [("zoe", 99)]), CASES[:1])
        self.assertEqual(sure_facts(CHAIN, [("zoe", 92)]), (("b", "a"), *KNOWN[1:]))
        self.assertEqual(len(cases_for(CHAIN, [("crown", (168, 2))])), 128)


class SmallerChain(unittest.TestCase):

    def test_all_orders(self):
        family = chain("abcde")
        told = [(case_in(family, order), dict(final(family, order))) for order in all_orders(family)]
        self.assertEqual(cases(family), tuple(sorted({case for case, _ in told})))
        for case, amounts in told:
            self.assertEqual(dict(paid_in(family, case)), amounts)
            self.assertEqual(amounts["zoe"], (reaches_zoe(family, case), 1))
        for name in ("zoe", "crown"):
            low, high = min(amounts[name] for _, amounts in told), max(amounts[name] for _, amounts in told)
            self.assertEqual((least(family, name), greatest(family, name)), (low, high))
            self.assertEqual(sorted(paper(family, name, high)),
                             sorted({(case, amounts[name]) for case, amounts in told}))
            self.assertEqual(flips(family, name), tuple((pair, (gap, 1)) for pair, gap in zip(pairs(family), SUMS)))
        self.assertEqual((settled(family), surely(family), possibly(family)), ((), ("zoe",), ("crown", "zoe")))


STAR = Family.read("\n".join([f"person {name} 10" for name in NAMES + "xyz"]
                             + ["will e 1 a+b > c+d | 2 f > g+x | 3 h > i > y"]
                             + [f"will {name} 1 x | 2 y+z" for name in "abcdfghi"]))

# Chains whose wills break what they pass on, others in the middle, and wills that name each other.
OTHERS = [*NINE, STAR, nine_dead({a: b for a, b in zip("bcdefghi", "abcdefgh")}),
          nine_dead({a: b for a, b in zip(NAMES, ["b", "ac", "bd", "ce", "df", "eg", "fh", "gi", "h"])}), Family.read(TEXT)]


class AskingAgain(unittest.TestCase):

    def test_same_answers(self):
        before = all_answers(CHAIN, "zoe", 99)
        self.assertEqual(all_answers(CHAIN, "zoe", 99), before)
        for other in OTHERS:
            name = other.living[0]
            told = all_answers(other, name, 10 ** 9)
            self.assertEqual(all_answers(CHAIN, "zoe", 99), before)
            self.assertEqual(all_answers(Family.read(str(other)), name, 10 ** 9), told)
        self.assertEqual(all_answers(chain(NAMES), "zoe", 99), before)

    def test_families_that_differ_a_little(self):
        self.assertEqual(greatest(CHAIN, "zoe"), (99, 1))
        for at, name in enumerate(NAMES):
            self.assertEqual(greatest(CHAIN.with_own(name, 0), "zoe"), (92 - at, 1))
        self.assertEqual(greatest(CHAIN.with_own("zoe", 1), "zoe"), (100, 1))
        self.assertEqual(greatest(CHAIN.with_fact("b", "a"), "zoe"), (92, 1))
        self.assertEqual(greatest(Family.read(str(CHAIN).replace("i 1 zoe", "i 1 zoe | 2")), "zoe"), (33, 1))
        self.assertEqual(greatest(CHAIN, "zoe"), (99, 1))

    def test_names_in_turn(self):
        for family in [CHAIN, *OTHERS]:
            names = family.living + ("crown",)
            first = [(least(family, name), greatest(family, name)) for name in names]
            again = [(least(family, name), greatest(family, name)) for name in names[::-1]]
            self.assertEqual(again[::-1], first)

    def test_all_answers_by_the_cases(self):
        for family in OTHERS:
            told = [dict(paid_in(family, case)) for case in cases(family)]
            for name in family.living + ("crown",):
                made = paper(family, name, 10 ** 9)
                self.assertEqual(made, tuple((case, paid[name]) for case, paid in zip(cases(family), told)))
                self.assertIs(paper_holds(family, name, 10 ** 9, made), True)


class Work(unittest.TestCase):

    def calls(self, function, *arguments):
        """Return how many functions of Python are called, which does not depend on the machine as time does."""
        found = []
        sys.setprofile(lambda frame, event, _: found.append(1) if event == "call" else None)
        try:
            function(*arguments)
        finally:
            sys.setprofile(None)
        return len(found)

    def test_few_calls(self):
        # To follow each case on its own, from its order to what is paid, takes 50,000 calls and more.
        made = paper(CHAIN, "zoe", 99)
        for family, name in ((CHAIN, "zoe"), *[(other, "x") for other in OTHERS[:-1]]):
            for function in (least, greatest, least_order, greatest_order, flips, settlers):
                self.assertLess(self.calls(function, family, name), 9000, (function, str(family)))
            for function in (settled, surely, possibly, idle, cases):
                self.assertLess(self.calls(function, family), 9000, (function, str(family)))
            self.assertLess(self.calls(paper, family, name, 10 ** 9), 9000)
        self.assertLess(self.calls(paper_holds, CHAIN, "zoe", 99, made), 9000)

    def test_union_of_many_pairs(self):
        # Each of the two has eight pairs, so that there are sixteen for both.
        p = nine_dead({"e": "ab", "f": "ac", "g": "bc", "h": "d", "i": "d"})
        q = nine_dead({"a": "gh", "b": "fh", "c": "hi", "d": "ef"})
        p = Family([(name, 0) for name in p.names], p.wills)
        q = Family([(name, 0) for name in q.names], q.wills)
        self.assertEqual(len(set(pairs(p) + pairs(q))), 16)
        self.assertIs(alike(p, q), True)
        order = parting(p.with_own("e", 5), q.with_own("e", 5))
        self.assertNotEqual(final(p.with_own("e", 5), order), final(q.with_own("e", 5), order))


if __name__ == "__main__":
    unittest.main()
