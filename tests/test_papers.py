"""[17]: papers."""

import unittest
from fractions import Fraction

from heirorders.errors import NoName
from heirorders.families import Family
from heirorders.papers import paper, paper_holds
from tests.reference import SMALL, paid_in_cases, pair
from tests.samples import NINE, TEXT, nested, odd_values

FAMILY = Family.read(TEXT)

RIGHT = (((("ann", "bob"), ("ann", "cid")), (0, 1)), ((("ann", "bob"), ("cid", "ann")), (0, 1)),
         ((("bob", "ann"), ("ann", "cid")), (12, 1)), ((("bob", "ann"), ("cid", "ann")), (18, 1)))

HALVES = Family.read("person a 1\nperson b 0\nperson x 0\nwill a 1 b+x\nwill b 1")

HALF_PAPER = (((("a", "b"),), (1, 2)), ((("b", "a"),), (1, 1)))


class Making(unittest.TestCase):

    def test_examples(self):
        self.assertIsNone(paper(FAMILY, "dan", 17))
        self.assertIs(paper_holds(FAMILY, "dan", 18, paper(FAMILY, "dan", 18)), True)
        self.assertIs(paper_holds(FAMILY, "dan", 18, ()), False)

    def test_paper(self):
        for most in (18, 19, (18, 1), (36, 2), (37, 2), 10 ** 20, (180000000001, 10000000000)):
            made = paper(FAMILY, "dan", most)
            self.assertIs(type(made), tuple)
            self.assertEqual(sorted(made), sorted(RIGHT))
            for case, amount in made:
                self.assertEqual([type(part) for part in (case, amount, *case, *amount)],
                                 [tuple, tuple, tuple, tuple, int, int])

    def test_none(self):
        for most in (17, 0, -1, (17, 1), (35, 2), (-18, 1), (179999999999, 10000000000)):
            self.assertIsNone(paper(FAMILY, "dan", most))
        for most in (0, (0, 1), (0, 7)):
            self.assertEqual([amount for _, amount in paper(FAMILY, "crown", most)], [(0, 1)] * 4)
        self.assertIsNone(paper(FAMILY, "crown", -1))
        self.assertIsNone(paper(FAMILY, "crown", (-1, 10 ** 19)))

    def test_fractions(self):
        for most in (1, (1, 1), (3, 3), (11, 10)):
            self.assertEqual(sorted(paper(HALVES, "x", most)), sorted(HALF_PAPER))
        self.assertIsNone(paper(HALVES, "x", (99, 100)))
        first = HALVES.with_fact("a", "b")
        for most in ((1, 2), (2, 4), (2, 3), 1):
            self.assertEqual(paper(first, "x", most), HALF_PAPER[:1])
        for most in (0, (49, 100), (-1, 2), (3, 7)):
            self.assertIsNone(paper(first, "x", most))

    def test_no_pairs(self):
        family = Family([("ann", 3)])
        self.assertEqual(paper(family, "ann", 3), (((), (3, 1)),))
        self.assertIsNone(paper(family, "ann", 2))
        self.assertIs(paper_holds(family, "ann", 3, (((), (3, 1)),)), True)
        for value in ((), ((), (3, 1)), (([], (3, 1)),), [((), (3, 1))], (((), (2, 1)),)):
            self.assertIs(paper_holds(family, "ann", 3, value), False)

    def test_all_cases(self):
        for family in SMALL + NINE:
            found = paid_in_cases(family)
            for name in family.living[:1] + ("crown",):
                greatest = max(told[name] for told in found.values())
                self.assertEqual(sorted(paper(family, name, pair(greatest))),
                                 sorted((case, pair(told[name])) for case, told in found.items()))
                self.assertIsNone(paper(family, name, pair(greatest - Fraction(1, 10 ** 9))))

    def test_no_name(self):
        for value in odd_values("crown") + ["ann", "bob", "cid", "zoe", ["dan"], ("eve",)]:
            for call in (lambda: paper(FAMILY, value, 18), lambda: paper_holds(FAMILY, value, 18, RIGHT),
                         lambda: paper_holds(FAMILY, value, 0, None)):
                with self.assertRaises(NoName) as caught:
                    call()
                self.assertIs(caught.exception.name, value)


class Holding(unittest.TestCase):

    def refused(self, *value):
        for most in (18, (18, 1), (37, 2), 10 ** 9):
            self.assertIs(paper_holds(FAMILY, "dan", most, *value), False)

    def changed(self, at, entry):
        """Return the right paper with another entry."""
        return RIGHT[:at] + (entry,) + RIGHT[at + 1:]

    def test_right(self):
        for most in (18, 19, (18, 1), (36, 2), (37, 2), (54, 3)):
            self.assertIs(paper_holds(FAMILY, "dan", most, RIGHT), True)

    def test_order_of_the_pairs(self):
        self.assertIs(paper_holds(FAMILY, "dan", 18, RIGHT[::-1]), True)
        self.assertIs(paper_holds(FAMILY, "dan", 18, RIGHT[2:] + RIGHT[:2]), True)

    def test_greater_than_most(self):
        for most in (17, 0, -1, (35, 2), (17, 1)):
            self.assertIs(paper_holds(FAMILY, "dan", most, RIGHT), False)

    def test_another_name(self):
        self.assertIs(paper_holds(FAMILY, "eve", 18, RIGHT), False)
        self.assertIs(paper_holds(FAMILY, "crown", 18, RIGHT), False)

    def test_pair_too_few(self):
        for at in range(4):
            self.refused(RIGHT[:at] + RIGHT[at + 1:])
        self.refused(())
        self.refused(RIGHT[:1])

    def test_pair_twice(self):
        for at in range(4):
            self.refused(RIGHT + (RIGHT[at],))
            self.refused(self.changed(at, RIGHT[at - 1]))
        self.refused(RIGHT * 2)

    def test_case_of_no_order(self):
        family = FAMILY.with_fact("ann", "bob")
        self.assertIs(paper_holds(family, "dan", 18, RIGHT[:2]), True)
        self.assertIs(paper_holds(family, "dan", 18, RIGHT), False)
        self.assertIs(paper_holds(family, "dan", 18, RIGHT[1:3]), False)
        self.refused(RIGHT + (((("ann", "bob"), ("bob", "cid")), (0, 1)),))

    def test_another_amount(self):
        for amount in ((11, 1), (13, 1), (0, 1), (-12, 1), (12, 5), (1, 12)):
            self.refused(self.changed(2, (RIGHT[2][0], amount)))
        self.refused(self.changed(0, (RIGHT[0][0], (1, 1))))

    def test_amount_not_in_lowest_terms(self):
        for amount in ((24, 2), (-12, -1), (120, 10)):
            self.refused(self.changed(2, (RIGHT[2][0], amount)))
        self.refused(self.changed(0, (RIGHT[0][0], (0, 2))))

    def test_amount_as_another_value(self):
        for amount in (12, [12, 1], (12,), (12, 1, 1), "12", (("12", 1)), (12, "1"), None, (12, None), ((12, 1),)):
            self.refused(self.changed(2, (RIGHT[2][0], amount)))

    def test_true_and_false_are_no_integers(self):
        self.assertIs(paper_holds(HALVES, "x", 1, HALF_PAPER), True)
        for amount in ((True, 1), (1, True), (True, True)):
            self.assertIs(paper_holds(HALVES, "x", 1, HALF_PAPER[:1] + ((HALF_PAPER[1][0], amount),)), False)
        self.assertIs(paper_holds(HALVES, "x", 1, ((HALF_PAPER[0][0], (True, 2)),) + HALF_PAPER[1:]), False)
        for amount in ((False, 1), (0, True), (False, True)):
            self.refused(self.changed(0, (RIGHT[0][0], amount)))

    def test_lists(self):
        self.refused(list(RIGHT))
        self.refused(self.changed(1, list(RIGHT[1])))
        self.refused(self.changed(1, (list(RIGHT[1][0]), RIGHT[1][1])))
        self.refused(self.changed(1, (RIGHT[1][0], list(RIGHT[1][1]))))
        self.refused(self.changed(1, ((list(RIGHT[1][0][0]), RIGHT[1][0][1]), RIGHT[1][1])))

    def test_no_pairs_of_two(self):
        for entry in ((), RIGHT[0][:1], RIGHT[0] + ((0, 1),), RIGHT[0][::-1], RIGHT[0][0]):
            self.refused(self.changed(0, entry))

    def test_any_value_at_all(self):
        for value in odd_values():
            self.refused(value)
            self.refused(RIGHT + (value,))
            for at in (0, 3):
                case, amount = RIGHT[at]
                self.refused(self.changed(at, value))
                self.refused(self.changed(at, (value, amount)))
                self.refused(self.changed(at, (case, value)))
                self.refused(self.changed(at, ((value, case[1]), amount)))
        for value in odd_values(18):
            self.refused(self.changed(3, (RIGHT[3][0], (value, 1))))
        for value in odd_values(1):
            self.refused(self.changed(3, (RIGHT[3][0], (18, value))))

    def test_nested(self):
        for kind in (list, tuple):
            for depth in range(1, 6):
                self.refused(nested(RIGHT, depth, kind))

    def test_many_entries(self):
        family = NINE[0]
        right = paper(family, "x", 10 ** 9)
        self.assertEqual(len(right), 256)
        self.assertIs(paper_holds(family, "x", 10 ** 9, right), True)
        self.assertIs(paper_holds(family, "x", 10 ** 9, right[::-1]), True)
        for value in ((right * 4)[:800], right[1:], right[1:] + right[1:2], right[:255] + (right[0],)):
            self.assertIs(paper_holds(family, "x", 10 ** 9, value), False)

    def test_arguments_by_name(self):
        self.assertEqual(paper(most=18, name="dan", family=FAMILY), paper(FAMILY, "dan", 18))
        self.assertIs(paper_holds(value=RIGHT, most=(18, 1), name="dan", family=FAMILY), True)


if __name__ == "__main__":
    unittest.main()
