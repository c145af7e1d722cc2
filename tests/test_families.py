"""[8], [9], [10]: families, and what section 1 says of them."""

import unittest
from itertools import permutations, product

from heirorders.errors import InvalidFamily, InvalidText, NoName
from heirorders.families import Family
from heirorders.wills import Will
from tests.samples import LINES, TEXT, odd_values

ALL = Will([(1, [])])


def dead_family(names, facts=()):
    """Return a family of dead people who leave all to the crown."""
    return Family([(name, 1) for name in names], [(name, ALL) for name in names], facts)


class Making(unittest.TestCase):

    def refused(self, word, *arguments):
        with self.assertRaises(InvalidFamily) as caught:
            Family(*arguments)
        self.assertEqual(caught.exception.word, word, arguments)

    def test_attributes(self):
        will, other = Will.read("1 bob > dan"), Will.read("1 ann")
        family = Family([("bob", 7), ("ann", 0), ("dan", 3)], [("bob", other), ("ann", will)], [("bob", "ann")])
        self.assertEqual(family.people, (("bob", 7), ("ann", 0), ("dan", 3)))
        self.assertEqual(family.wills, (("bob", other), ("ann", will)))
        self.assertIs(family.wills[1][1], will)
        self.assertEqual(family.facts, (("bob", "ann"),))

    def test_default_values(self):
        family = Family([("ann", 1)])
        self.assertEqual((family.people, family.wills, family.facts), ((("ann", 1),), (), ()))
        family = Family((("ann", 1),), (("ann", ALL),))
        self.assertEqual((family.people, family.wills, family.facts), ((("ann", 1),), (("ann", ALL),), ()))

    def test_names_in_the_order_of_people(self):
        family = Family([("eve", 1), ("ann", 0), ("dan", 2), ("bob", 5)], [("eve", ALL), ("dan", ALL)])
        self.assertEqual(family.names, ("eve", "ann", "dan", "bob"))

    def test_dead_and_living_are_lots(self):
        family = Family([("eve", 1), ("zoe", 0), ("dan", 2), ("bob", 5)], [("eve", ALL), ("dan", ALL)])
        self.assertEqual(family.dead, ("dan", "eve"))
        self.assertEqual(family.living, ("bob", "zoe"))

    def test_all_dead_and_all_living(self):
        family = dead_family(["b", "a"])
        self.assertEqual((family.dead, family.living), (("a", "b"), ()))
        family = Family([("b", 1), ("a", 1)])
        self.assertEqual((family.dead, family.living), ((), ("a", "b")))

    def test_people(self):
        for people in ([], (), None, 0, True, "", "ann", ("ann", 1), Family([("ann", 1)]), ALL, {"ann": 1}):
            self.refused("people", people)

    def test_no_person(self):
        for person in (["ann", 1], ("ann",), ("ann", 1, 1), (), "ab", "a1", None, 1, (1, "ann")):
            self.refused("people", [person])
            self.refused("people", [("bob", 1), person])
            self.refused("people", (person, ("bob", 1)))

    def test_no_amount(self):
        for amount in (-1, True, False, None, "1", (1, 1), [1], (), ALL, Family([("ann", 1)])):
            self.refused("people", [("ann", amount)])
            self.refused("people", [("bob", 1), ("ann", amount)])

    def test_amounts(self):
        family = Family([("ann", 0), ("bob", 10 ** 9)])
        self.assertEqual(family.people, (("ann", 0), ("bob", 10 ** 9)))

    def test_no_name(self):
        for name in ("", "crown", "abcdef", "Ann", "a1", "a b", "ann ", 1, None, True, ("ann",), ["ann"], ALL):
            self.refused("people", [(name, 1)])
            self.refused("people", [("ann", 1), (name, 1)])

    def test_people_with_one_name(self):
        self.refused("people", [("ann", 1), ("ann", 1)])
        self.refused("people", [("ann", 1), ("bob", 2), ("ann", 2)])

    def test_wills(self):
        people = [("ann", 1), ("bob", 2)]
        for wills in (None, 0, True, "", "ann", ("ann", ALL), ALL, [ALL], [("ann",)], [("ann", ALL, ALL)],
                      [["ann", ALL]], [(ALL, "ann")], [("ann", "1")], [("ann", [(1, [])])], [("ann", None)],
                      [("zoe", ALL)], [(None, ALL)], [(["ann"], ALL)], [(ALL, ALL)], [("crown", ALL)]):
            self.refused("wills", people, wills)

    def test_two_wills_of_one_person(self):
        people = [("ann", 1), ("bob", 2)]
        self.refused("wills", people, [("ann", ALL), ("ann", ALL)])
        self.refused("wills", people, [("ann", ALL), ("bob", ALL), ("ann", Will.read("1 bob"))])

    def test_wills_name_only_other_people(self):
        people = [("ann", 1), ("bob", 2), ("cid", 2)]
        self.refused("wills", people, [("ann", Will.read("1 ann"))])
        self.refused("wills", people, [("ann", Will.read("1 bob > cid+ann"))])
        self.refused("wills", people, [("ann", Will.read("1 bob | 1 zoe"))])
        self.refused("wills", people, [("ann", ALL), ("bob", Will.read("1 dan"))])
        wills = [("ann", Will.read("1 bob > cid | 1 bob+cid")), ("bob", Will.read("1 ann"))]
        self.assertEqual(Family(people, wills).wills, tuple(wills))

    def test_facts(self):
        people = [("ann", 1), ("bob", 2), ("cid", 2)]
        wills = [("ann", ALL), ("bob", ALL)]
        for facts in (None, 0, True, "", "ann", ("ann", "bob"), ALL, [["ann", "bob"]], [("ann",)],
                      [("ann", "bob", "ann")], [("ann", "ann")], [("ann", "cid")], [("cid", "ann")], [("ann", "zoe")],
                      [("zoe", "ann")], [("crown", "ann")], [(None, "ann")], [("ann", None)], [("ann", ["bob"])],
                      [(ALL, ALL)], [("ann", "bob"), None], [("ann", "bob"), ("bob", "cid")], "ab"):
            self.refused("facts", people, wills, facts)

    def test_fact_that_occurs_twice(self):
        family = dead_family(["a", "b"], [("a", "b"), ("a", "b")])
        self.assertEqual(family.facts, (("a", "b"), ("a", "b")))

    def test_ring(self):
        people = [(name, 1) for name in "abcde"]
        wills = [(name, ALL) for name in "abcde"]
        self.refused("ring", people, wills, [("a", "b"), ("b", "a")])
        self.refused("ring", people, wills, [("a", "b"), ("b", "c"), ("c", "a")])
        self.refused("ring", people, wills, [("a", "b"), ("b", "c"), ("c", "d"), ("d", "b")])
        self.refused("ring", people, wills, [("d", "e"), ("c", "b"), ("a", "d"), ("e", "a")])
        self.refused("ring", people, wills, [("e", "d"), ("d", "c"), ("c", "b"), ("b", "a"), ("a", "e")])

    def test_facts_without_a_ring(self):
        for facts in ([("a", "b"), ("b", "c"), ("a", "c")], [("e", "d"), ("d", "c"), ("c", "b"), ("b", "a")],
                      [("a", "b"), ("a", "c"), ("b", "d"), ("c", "d"), ("d", "e")], [("b", "a"), ("c", "a")]):
            self.assertEqual(dead_family("abcde", facts).facts, tuple(facts))

    def test_ring_of_all_sets_of_facts(self):
        pairs = list(permutations("abc", 2))
        for chosen in product([False, True], repeat=len(pairs)):
            facts = [pair for pair, taken in zip(pairs, chosen) if taken]
            if any(all(order.index(first) < order.index(then) for first, then in facts)
                   for order in permutations("abc")):
                self.assertEqual(dead_family("abc", facts).facts, tuple(facts))
            else:
                self.refused("ring", [(name, 1) for name in "abc"], [(name, ALL) for name in "abc"], facts)

    def test_order_of_the_errors(self):
        people = [("ann", 1), ("bob", 2)]
        wills = [("ann", ALL), ("bob", ALL)]
        self.refused("people", [], None, None)
        self.refused("people", None, [("ann", None)], [("ann", "ann")])
        self.refused("people", [("ann", 1), ("ann", 1)], wills, [("ann", "bob"), ("bob", "ann")])
        self.refused("wills", people, None, None)
        self.refused("wills", people, [("zoe", ALL)], [("zoe", "ann")])
        self.refused("facts", people, wills, [("ann", "bob"), ("bob", "ann"), ("ann", "ann")])
        self.refused("ring", people, wills, [("ann", "bob"), ("bob", "ann")])

    def test_any_value_at_all(self):
        people = [("ann", 1), ("bob", 2)]
        wills = [("ann", ALL), ("bob", ALL)]
        for value in odd_values():
            self.refused("people", value)
            self.refused("people", [value])
            self.refused("wills", people, [value])
            self.refused("wills", people, [(value, ALL)])
            self.refused("facts", people, wills, [value])
            self.refused("facts", people, wills, [(value, "ann")])
            self.refused("facts", people, wills, [("ann", value)])
        for value in odd_values([], ()):
            self.refused("wills", people, value)
            self.refused("facts", people, wills, value)
        for value in odd_values(0, 1, 10 ** 9):
            self.refused("people", [("ann", value)])
        for value in odd_values("zoe"):
            self.refused("people", [("bob", 1), (value, 1)])
        for value in odd_values():
            if not isinstance(value, Will):
                self.refused("wills", people, [("ann", value)])


class WithFamily(unittest.TestCase):

    def setUp(self):
        self.family = Family.read(TEXT)

    def no_name(self, name, call, *arguments):
        with self.assertRaises(NoName) as caught:
            call(*arguments)
        self.assertIs(caught.exception.name, name)


class Asking(WithFamily):

    def test_own(self):
        self.assertEqual([self.family.own(name) for name in ("ann", "bob", "cid", "dan", "eve")], [12, 0, 6, 0, 0])

    def test_will_of(self):
        self.assertEqual(self.family.will_of("ann"), Will.read("1 bob > dan"))
        self.assertIs(self.family.will_of("cid"), self.family.wills[2][1])

    def test_no_person(self):
        for value in odd_values():
            self.no_name(value, self.family.own, value)

    def test_no_dead_person(self):
        for value in odd_values() + ["dan", "eve"]:
            self.no_name(value, self.family.will_of, value)


class Changing(WithFamily):

    def invalid(self, word, call, *arguments):
        with self.assertRaises(InvalidFamily) as caught:
            call(*arguments)
        self.assertEqual(caught.exception.word, word)

    def test_with_fact(self):
        family = self.family.with_fact("cid", "ann").with_fact("bob", "ann")
        self.assertEqual(family.facts, (("cid", "ann"), ("bob", "ann")))
        self.assertEqual((family.people, family.wills), (self.family.people, self.family.wills))
        self.assertEqual(family.with_fact("cid", "ann").facts, (("cid", "ann"), ("bob", "ann"), ("cid", "ann")))

    def test_with_fact_changes_nothing(self):
        self.family.with_fact("cid", "ann")
        self.assertEqual(self.family.facts, ())
        self.assertEqual(str(self.family), TEXT)

    def test_with_fact_no_name(self):
        for value in odd_values() + ["dan", "eve"]:
            self.no_name(value, self.family.with_fact, value, "ann")
            self.no_name(value, self.family.with_fact, "ann", value)
            self.no_name(value, self.family.with_fact, value, "zoe")
            self.no_name(value, self.family.with_fact, value, value)

    def test_with_fact_first_name_that_is_none(self):
        first, then = ["x"], ["y"]
        self.no_name(first, self.family.with_fact, first, then)
        self.no_name(then, self.family.with_fact, "ann", then)

    def test_with_fact_invalid(self):
        self.invalid("facts", self.family.with_fact, "ann", "ann")
        family = self.family.with_fact("ann", "bob").with_fact("bob", "cid")
        self.invalid("ring", family.with_fact, "cid", "ann")
        self.invalid("ring", family.with_fact, "bob", "ann")
        self.invalid("facts", family.with_fact, "cid", "cid")

    def test_with_own(self):
        family = self.family.with_fact("cid", "ann").with_own("bob", 5)
        self.assertEqual(family.people, (("ann", 12), ("bob", 5), ("cid", 6), ("dan", 0), ("eve", 0)))
        self.assertEqual((family.wills, family.facts), (self.family.wills, (("cid", "ann"),)))
        self.assertEqual(self.family.with_own("eve", 0), self.family)
        self.assertEqual(self.family.with_own("ann", 0).own("ann"), 0)

    def test_with_own_changes_nothing(self):
        self.family.with_own("ann", 1)
        self.assertEqual(str(self.family), TEXT)

    def test_with_own_no_name(self):
        for value in odd_values():
            self.no_name(value, self.family.with_own, value, 1)
            self.no_name(value, self.family.with_own, value, None)

    def test_with_own_invalid(self):
        for value in odd_values(0, 1, 10 ** 9):
            self.invalid("people", self.family.with_own, "ann", value)


class Adding(unittest.TestCase):

    def setUp(self):
        self.left = Family.read("person b 1\nperson a 2\nperson c 0\nwill b 1 a\nwill a 1\nfirst b a")
        self.right = Family.read("person y 3\nperson x 4\nwill y 1 x\nwill x 2 y\nfirst y x\nfirst y x")

    def test_people_wills_and_facts(self):
        both = self.left + self.right
        self.assertIsInstance(both, Family)
        self.assertEqual(both.people, (("b", 1), ("a", 2), ("c", 0), ("y", 3), ("x", 4)))
        self.assertEqual(both.wills, self.left.wills + self.right.wills)
        self.assertEqual(both.facts, (("b", "a"), ("y", "x"), ("y", "x")))

    def test_order(self):
        both = self.right + self.left
        self.assertEqual(both.names, ("y", "x", "b", "a", "c"))
        self.assertEqual([name for name, _ in both.wills], ["y", "x", "b", "a"])
        self.assertEqual(both.facts, (("y", "x"), ("y", "x"), ("b", "a")))

    def test_changes_nothing(self):
        texts = str(self.left), str(self.right)
        self.left + self.right
        self.assertEqual((str(self.left), str(self.right)), texts)

    def test_several(self):
        third = Family([("z", 1)])
        self.assertEqual((self.left + self.right + third).names, ("b", "a", "c", "y", "x", "z"))
        self.assertEqual((self.left + self.right) + third, self.left + (self.right + third))

    def test_common_names(self):
        for other in (self.left, Family([("z", 1), ("c", 0)]), dead_family("xa"), dead_family("b")):
            for pair in ((self.left, other), (other, self.left)):
                with self.assertRaises(InvalidFamily) as caught:
                    pair[0] + pair[1]
                self.assertEqual(caught.exception.word, "people")

    def test_no_family(self):
        for value in odd_values():
            if not isinstance(value, Family):
                with self.assertRaises(TypeError):
                    self.left + value
                with self.assertRaises(TypeError):
                    value + self.left


class Texts(unittest.TestCase):

    def refused(self, text, at):
        with self.assertRaises(InvalidText) as caught:
            Family.read(text)
        self.assertEqual(caught.exception.at, at, text)

    def invalid(self, text, word):
        with self.assertRaises(InvalidFamily) as caught:
            Family.read(text)
        self.assertEqual(caught.exception.word, word, text)

    def test_text(self):
        family = Family([("bob", 7), ("ann", 0), ("dan", 10 ** 9)],
                        [("bob", Will([(2, [["dan", "ann"]]), (1, [])])), ("ann", Will([(1, [["bob"], ["dan"]])]))],
                        [("bob", "ann"), ("bob", "ann")])
        lines = ["person bob 7", "person ann 0", "person dan 1000000000", "will bob 2 ann+dan | 1",
                 "will ann 1 bob > dan", "first bob ann", "first bob ann"]
        self.assertEqual(str(family), "\n".join(lines))
        self.assertEqual(str(Family([("a", 1)])), "person a 1")

    def test_example(self):
        family = Family.read("\n".join(LINES))
        self.assertIsInstance(family, Family)
        self.assertEqual(family.people, (("ann", 12), ("bob", 0), ("cid", 6), ("dan", 0), ("eve", 0)))
        self.assertEqual(family.wills, (("ann", Will([(1, [["bob"], ["dan"]])])), ("bob", Will([(1, [["eve"]])])),
                                        ("cid", Will([(1, [["ann"], ["eve"]])]))))
        self.assertEqual(family.facts, ())
        self.assertEqual((family.dead, family.living), (("ann", "bob", "cid"), ("dan", "eve")))
        self.assertEqual(str(family), TEXT)

    def test_example_of_another_will(self):
        other = Family.read("\n".join(LINES).replace("bob > dan", "bob+dan"))
        self.assertEqual(other.will_of("ann"), Will([(1, [["bob", "dan"]])]))

    def test_read_again(self):
        for text in ("person a 0", "person z 9999999999", "person b 1\nperson a 2\nwill b 1 a > a | 3\nwill a 2 b",
                     TEXT + "\nfirst cid ann\nfirst bob ann\nfirst cid ann"):
            self.assertEqual(str(Family.read(text)), text)

    def test_names_of_a_group_in_any_order(self):
        family = Family.read("person a 1\nperson b 1\nperson c 1\nwill a 1 c+b")
        self.assertEqual(str(family), "person a 1\nperson b 1\nperson c 1\nwill a 1 b+c")

    def test_bad_amounts(self):
        self.assertEqual(Family.read("person a 9999999999").own("a"), 9999999999)
        for word in ("", "00", "01", "-1", "+1", "1.0", "1_0", "a", "0x1", "10000000000", "00000000001", "\u0661",
                     "\u00b2", "1 ", " 1", "1 1"):
            self.refused("person a " + word, 0)
            self.refused("person b 1\nperson a " + word, 1)

    def test_bad_names(self):
        for name in ("", "crown", "abcdef", "Ann", "a1", "a+b", " ", "\u00e4", "1"):
            self.refused(f"person {name} 1", 0)
            self.refused(f"{TEXT}\nwill {name} 1", 8)
            self.refused(f"{TEXT}\nfirst {name} ann", 8)
            self.refused(f"{TEXT}\nfirst ann {name}", 8)

    def test_bad_lines(self):
        for line in ("", " ", "person", "person ", "person a", "person a ", " person a 1", "person  a 1", "person a  1",
                     "person a 1 ", "person a 1 2", "Person a 1", "people a 1", "a 1", "person\ta 1", "persona 1",
                     "person a\t1", "#", "wills a 1", "will", "will ", "will a", "will a ", "first", "first a",
                     "first a ", "first ", "first a b ", "first a b c", "first  a b", "first a  b", " first a b",
                     "then a b", "will  a 1", "will a  1", " will a 1", "will 1", "fact a b", "first a,b"):
            self.refused(line, 0)
            self.refused("person a 1\n" + line, 1)
            self.refused("person a 1\nperson b 1\n" + line + "\nperson c", 2)

    def test_bad_wills(self):
        for text in ("0", "1 a | ", "1 b+b", "1 | 0 b", "b", "1  b", "1 b ", "1 crown", "1000000", "1 b >  > b", ""):
            self.refused("person a 1\nperson b 1\nwill a " + text, 2)
            self.refused("person a 1\nperson b 1\nwill b 1\nwill a " + text + "\nwill b", 3)

    def test_empty_lines(self):
        self.refused("", 0)
        self.refused("\n", 0)
        self.refused("person a 1\n", 1)
        self.refused("person a 1\n\nperson b 1", 1)
        self.refused("\nperson a 1", 0)

    def test_order_of_lines(self):
        self.refused("person a 1\nwill a 1\nperson b 1", 2)
        self.refused("person a 1\nperson b 1\nwill a 1\nwill b 1\nfirst a b\nperson c 1", 5)
        self.refused("person a 1\nperson b 1\nwill b 1\nfirst a b\nwill a 1", 4)
        self.refused("first a b\nperson a 1", 1)
        self.refused("will a 1\nperson a 1\nx", 1)
        self.refused("first a b\nwill a 1\nperson a 1", 1)

    def test_first_bad_line(self):
        self.refused("person a 1\nperson a 01\nperson b", 1)
        self.refused("person a 1\nwill a 1 | 0\nperson b 1", 1)

    def test_text_comes_before_family(self):
        self.refused("person a 1\nperson a 1\nwill z 1\nfirst a a\nx", 4)

    def test_invalid_families(self):
        self.invalid("will a 1", "people")
        self.invalid("first a b", "people")
        self.invalid("person a 1\nperson a 1", "people")
        self.invalid("person a 1\nwill b 1", "wills")
        self.invalid("person a 1\nwill a 1\nwill a 1", "wills")
        self.invalid("person a 1\nwill a 1 a", "wills")
        self.invalid("person a 1\nwill a 1 b", "wills")
        self.invalid("person a 1\nperson b 1\nwill a 1\nfirst a b", "facts")
        self.invalid("person a 1\nfirst a a", "facts")
        self.invalid("person a 1\nperson b 1\nwill a 1\nwill b 1\nfirst a b\nfirst b a", "ring")

    def test_equal(self):
        family = Family.read(TEXT + "\nfirst cid ann")
        self.assertTrue(family == Family.read(TEXT).with_fact("cid", "ann"))
        self.assertFalse(family != Family.read(TEXT).with_fact("cid", "ann"))
        self.assertTrue(Family([("a", 1)]) == Family.read("person a 1"))

    def test_not_equal(self):
        texts = ["person a 1", "person a 2", "person b 1", "person a 1\nperson b 1", "person b 1\nperson a 1",
                 "person a 1\nperson b 1\nwill a 1", "person a 1\nperson b 1\nwill b 1",
                 "person a 1\nperson b 1\nwill a 1 b", "person a 1\nperson b 1\nwill a 1\nwill b 1",
                 "person a 1\nperson b 1\nwill b 1\nwill a 1",
                 "person a 1\nperson b 1\nwill a 1\nwill b 1\nfirst a b",
                 "person a 1\nperson b 1\nwill a 1\nwill b 1\nfirst b a",
                 "person a 1\nperson b 1\nwill a 1\nwill b 1\nfirst a b\nfirst a b"]
        for text in texts:
            for other in texts:
                self.assertEqual(Family.read(text) == Family.read(other), text == other, (text, other))
                self.assertEqual(Family.read(text) != Family.read(other), text != other, (text, other))


if __name__ == "__main__":
    unittest.main()
