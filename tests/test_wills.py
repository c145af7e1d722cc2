"""[5], [6], [7]: wills."""

import unittest
from fractions import Fraction

from heirorders.errors import InvalidText, InvalidWill
from heirorders.families import Family
from heirorders.wills import Will
from tests.samples import odd_values


class Making(unittest.TestCase):

    def refused(self, shares):
        with self.assertRaises(InvalidWill) as caught:
            Will(shares)
        self.assertEqual(caught.exception.word, "shares", shares)

    def test_shares_are_tuples_with_lots(self):
        will = Will([(2, [["cid", "bob"], ("dan",)]), (1, ())])
        self.assertEqual(will.shares, ((2, (("bob", "cid"), ("dan",))), (1, ())))

    def test_order_of_shares_and_groups_is_kept(self):
        will = Will(((3, (("z",), ("a",))), (1, (("m",),)), (2, [])))
        self.assertEqual(will.shares, ((3, (("z",), ("a",))), (1, (("m",),)), (2, ())))

    def test_equal_shares_are_all_kept(self):
        self.assertEqual(Will([(1, []), (1, [])]).shares, ((1, ()), (1, ())))

    def test_name_in_several_groups(self):
        will = Will([(1, [["a"], ["a", "b"], ["a"]])])
        self.assertEqual(will.shares, ((1, (("a",), ("a", "b"), ("a",))),))

    def test_names(self):
        self.assertEqual(Will([(2, [["cid", "bob"], ["dan"]]), (1, [["bob", "a"]])]).names, ("a", "bob", "cid", "dan"))
        self.assertEqual(Will([(1, [])]).names, ())

    def test_longest_and_shortest_names(self):
        self.assertEqual(Will([(1, [["z", "abcde", "aaaaa"]])]).names, ("aaaaa", "abcde", "z"))

    def test_names_like_crown(self):
        self.assertEqual(Will([(1, [["crow", "crowm", "rown"]])]).names, ("crow", "crowm", "rown"))

    def test_len(self):
        self.assertEqual(len(Will([(1, [])])), 1)
        self.assertEqual(len(Will([(1, [["a"], ["b"]]), (9, []), (1, [])])), 3)

    def test_no_sequence_of_shares(self):
        self.refused([])
        self.refused(())
        for value in (None, 1, True, "1 bob", "", Will([(1, [])]), Family([("a", 1)])):
            self.refused(value)

    def test_no_pair(self):
        for share in ([1, []], (1,), (1, [], []), (), 1, None, "1b", "1", [(1, [])], Will([(1, [])])):
            self.refused([share])
            self.refused(((1, []), share))
            self.refused((share, (1, [])))

    def test_no_weight(self):
        for weight in (0, -1, True, False, None, "1", (1,), [1], [], Will([(1, [])])):
            self.refused([(weight, [])])
            self.refused([(1, [["a"]]), (weight, [["a"]])])

    def test_no_groups(self):
        for groups in (None, 0, 1, True, "a", "", "ab", Will([(1, [["a"]])])):
            self.refused([(1, groups)])

    def test_no_group(self):
        for group in ([], (), "a", "ab", "", None, 1, True, Will([(1, [["a"]])]), ["a", "a"], ("b", "a", "b")):
            self.refused([(1, [group])])
            self.refused([(1, [["a"], group])])
            self.refused([(1, (group, ("a",)))])

    def test_no_name(self):
        names = ["", "crown", "abcdef", "A", "aB", "a1", "a_b", "a b", " a", "a ", "a\n", "a+b", "-", "\u00e4", "\u00df",
                 "\u0430", "1", 1, 0, True, None, ["a"], ("a",), [], Will([(1, [["a"]])])]
        for name in names:
            self.refused([(1, [[name]])])
            self.refused([(1, [["a", name]])])
            self.refused([(1, [(name, "a")])])

    def test_any_value_at_all(self):
        for value in odd_values():
            self.refused(value)
        for value in odd_values((1, [])):
            self.refused([value])
            self.refused(((1, []), value))
        for value in odd_values(1, 10 ** 9):
            self.refused([(value, [["a"]])])
        for value in odd_values([], (), ["ann", "bob"], [("ann",)], [("ann", "bob", "cid")], [["ann", "bob"]]):
            self.refused([(1, value)])
        for value in odd_values(["ann"], ("ann",), ["ann", "bob"], ("ann", "bob", "cid")):
            self.refused([(1, [value])])
        for value in odd_values("zoe"):
            self.refused([(1, [["a", value]])])

    def test_great_weight(self):
        self.assertEqual(Will([(10 ** 9, [])]).shares, ((10 ** 9, ()),))


class Texts(unittest.TestCase):

    def refused(self, text, at):
        with self.assertRaises(InvalidText) as caught:
            Will.read(text)
        self.assertEqual(caught.exception.at, at, text)

    def test_text(self):
        self.assertEqual(str(Will([(2, [["cid", "bob"], ["dan"]]), (1, [])])), "2 bob+cid > dan | 1")
        self.assertEqual(str(Will([(1, [["b", "a"]]), (3, [])])), "1 a+b | 3")
        self.assertEqual(str(Will([(7, [])])), "7")
        self.assertEqual(str(Will([(12, [["a"], ["b"], ["c", "a"]])])), "12 a > b > a+c")

    def test_read(self):
        will = Will.read("2 cid+bob > dan | 1")
        self.assertIsInstance(will, Will)
        self.assertEqual(will.shares, ((2, (("bob", "cid"), ("dan",))), (1, ())))

    def test_read_again(self):
        for text in ("1", "9", "1 a", "1 a+b", "1 a > b", "3 abcde+z > a | 1 | 2 b | 999999", "1 a > a"):
            self.assertEqual(str(Will.read(text)), text)

    def test_names_of_a_group_in_any_order(self):
        self.assertEqual(str(Will.read("1 c+a+b > b+a")), "1 a+b+c > a+b")

    def test_greatest_number(self):
        self.assertEqual(Will.read("999999").shares, ((999999, ()),))
        self.assertEqual(Will.read("100000 a").shares, ((100000, (("a",),)),))
        self.refused("1000000", 0)
        self.refused("1 | 1234567 a", 1)

    def test_bad_weights(self):
        for word in ("", "0", "00", "01", "+1", "-1", "a", "1a", "1.0", "1_0", "0x1", " ", "\u0661", "\u00b2", "1\n"):
            self.refused(word, 0)
            self.refused(word + " a", 0)
            self.refused("1 | " + word, 1)

    def test_bad_spaces(self):
        for text in ("1 ", " 1", "1  a", "1 a ", " 1 a", "1 a > ", "1 > a", "1  > a", "1 a  > b", "1 a >  b", "1 a> b",
                     "1 a >b", "1 a>b", "1 a > > b", "1 a >  > b", "1 a b", "1 a + b", "1 a+ b", "1a", "1\ta", "1\na"):
            self.refused(text, 0)

    def test_bad_groups(self):
        for text in ("1 +", "1 a+", "1 +a", "1 a++b", "1 a+a", "1 a > b+a+b", "1 crown", "1 a+crown", "1 a > crown",
                     "1 abcdef", "1 A", "1 a1", "1 2", "1 >", "1 a,b"):
            self.refused(text, 0)

    def test_number_of_the_first_bad_part(self):
        self.refused("1 a | 0 b | x", 1)
        self.refused("1 a | 2 b | 3 c > c+c | 0", 2)
        self.refused("1 | 1 | 1 | ", 3)
        self.refused("x | y", 0)

    def test_separators(self):
        self.refused("", 0)
        self.refused(" | ", 0)
        self.refused("1 | ", 1)
        self.refused(" | 1", 0)
        self.refused("1| 2", 0)
        self.refused("1 |2", 0)
        self.refused("1|2", 0)
        self.refused("1 |", 0)
        self.refused("1 |  | 2", 1)
        self.refused("1 | | 2", 1)
        self.refused("1 || 2", 0)
        self.refused("1  | 2", 0)
        self.refused("1 |  2", 1)
        self.refused("1 a | b", 1)

    def test_equal(self):
        self.assertTrue(Will([(1, [["b", "a"]])]) == Will.read("1 a+b"))
        self.assertFalse(Will([(1, [["b", "a"]])]) != Will.read("1 a+b"))

    def test_not_equal(self):
        texts = ["1", "2", "1 a", "1 b", "1 a+b", "1 a > b", "1 b > a", "1 a | 1 b", "1 b | 1 a", "1 a | 1", "1 | 1"]
        for text in texts:
            for other in texts:
                self.assertEqual(Will.read(text) == Will.read(other), text == other, (text, other))
                self.assertEqual(Will.read(text) != Will.read(other), text != other, (text, other))


class PayingOut(unittest.TestCase):

    def test_example(self):
        will = Will.read("2 bob+cid > dan | 1 eve")
        self.assertEqual(will.heirs(["cid", "dan"]), (("cid", (2, 3)), ("crown", (1, 3))))
        self.assertEqual(will.heirs(("bob", "cid", "eve")), (("bob", (1, 3)), ("cid", (1, 3)), ("eve", (1, 3))))

    def test_later_groups(self):
        will = Will.read("1 a > b > c+d")
        self.assertEqual(will.heirs(["a", "b", "c", "d"]), (("a", (1, 1)),))
        self.assertEqual(will.heirs(["b", "c", "d"]), (("b", (1, 1)),))
        self.assertEqual(will.heirs(["c", "d"]), (("c", (1, 2)), ("d", (1, 2))))
        self.assertEqual(will.heirs(["d"]), (("d", (1, 1)),))
        self.assertEqual(will.heirs([]), (("crown", (1, 1)),))

    def test_crown(self):
        self.assertEqual(Will.read("3").heirs(["a"]), (("crown", (1, 1)),))
        self.assertEqual(Will.read("1 a | 3").heirs(["a"]), (("a", (1, 4)), ("crown", (3, 4))))
        self.assertEqual(Will.read("1 a | 3 | 2 b").heirs([]), (("crown", (1, 1)),))

    def test_crown_stands_among_the_names(self):
        self.assertEqual(Will.read("1 d | 1 a | 1").heirs(["a", "d"]), (("a", (1, 3)), ("crown", (1, 3)), ("d", (1, 3))))

    def test_ascending(self):
        heirs = Will.read("1 z | 1 y+x | 2 a").heirs(["x", "y", "z", "a"])
        self.assertEqual(heirs, (("a", (1, 2)), ("x", (1, 8)), ("y", (1, 8)), ("z", (1, 4))))

    def test_lowest_terms(self):
        self.assertEqual(Will.read("4 a | 2 b").heirs(["a", "b"]), (("a", (2, 3)), ("b", (1, 3))))
        self.assertEqual(Will.read("2 a+b | 2 c").heirs(["a", "b", "c"]), (("a", (1, 4)), ("b", (1, 4)), ("c", (1, 2))))
        self.assertEqual(Will.read("6 a+b+c | 3").heirs(["c", "a"]), (("a", (1, 3)), ("c", (1, 3)), ("crown", (1, 3))))

    def test_name_in_several_shares(self):
        will = Will.read("1 a+b | 1 b > c | 2 c+b")
        self.assertEqual(will.heirs(["a", "b", "c"]), (("a", (1, 8)), ("b", (5, 8)), ("c", (1, 4))))
        self.assertEqual(will.heirs(["a", "c"]), (("a", (1, 4)), ("c", (3, 4))))
        self.assertEqual(Will.read("1 a | 2 a").heirs(["a"]), (("a", (1, 1)),))
        self.assertEqual(Will.read("1 a+b+c | 1 a+b").heirs(["a", "b", "c"]),
                         (("a", (5, 12)), ("b", (5, 12)), ("c", (1, 6))))

    def test_name_in_several_groups(self):
        will = Will.read("1 a+b > a > c")
        self.assertEqual(will.heirs(["a", "c"]), (("a", (1, 1)),))

    def test_other_names_have_no_effect(self):
        will = Will.read("1 a > b")
        self.assertEqual(will.heirs(["x", "b", "zoe"]), (("b", (1, 1)),))
        self.assertEqual(will.heirs(("x",)), (("crown", (1, 1)),))

    def test_names_that_occur_twice(self):
        will = Will.read("1 a+b | 1 c")
        self.assertEqual(will.heirs(["a", "b", "a", "a", "c", "c"]), (("a", (1, 4)), ("b", (1, 4)), ("c", (1, 2))))

    def test_parts_make_one(self):
        will = Will.read("5 a+b+c > d | 3 b > c+d | 7 e | 1")
        for chosen in range(32):
            alive = [name for at, name in enumerate("abcde") if chosen >> at & 1]
            heirs = will.heirs(alive)
            self.assertEqual(sum(Fraction(above, below) for _, (above, below) in heirs), 1)
            self.assertEqual([name for name, _ in heirs if name not in alive], ["crown"])


if __name__ == "__main__":
    unittest.main()
