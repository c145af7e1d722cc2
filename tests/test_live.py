"""[20], [21]: live families."""

import unittest

from heirorders.errors import InvalidFamily, NoName, Refused
from heirorders.families import Family
from heirorders.live import Live
from heirorders.orders import paid, steps
from tests.reference import SMALL, Numbers, all_orders, follow, pair
from tests.samples import NINE, TEXT, odd_values

FAMILY = Family.read(TEXT)

# More facts: bob died before cid.
PUT_OFF = FAMILY.with_fact("bob", "cid")


def seen(live):
    """Return all that a live family shows."""
    return str(live.family), live.order, live.alive, live.held, len(live)


def held_after(family, order):
    """Return what is held after these deaths, by the other way."""
    held, _ = follow(family, [[name] for name in order])
    return tuple((name, pair(held[name])) for name in [*sorted(name for name in held if name != "crown"), "crown"])


class LiveTest(unittest.TestCase):

    def refused(self, live, call, error, told):
        """Check that the call raises this error with this attribute, and changes nothing."""
        before = seen(live)
        with self.assertRaises(error) as caught:
            call()
        self.assertIs(type(caught.exception), error)
        attribute = {NoName: "name", Refused: "at", InvalidFamily: "word"}[error]
        self.assertEqual(getattr(caught.exception, attribute), told)
        self.assertIs(type(getattr(caught.exception, attribute)), type(told))
        self.assertEqual(seen(live), before)
        return caught.exception


class Dying(LiveTest):

    def test_example(self):
        live = Live(FAMILY)
        self.assertEqual(live.die("bob"), ())
        self.assertEqual(live.die("ann"), (("dan", (12, 1)),))
        self.assertEqual(live.held, (("cid", (6, 1)), ("dan", (12, 1)), ("eve", (0, 1)), ("crown", (0, 1))))
        self.assertEqual(live.order, ("bob", "ann"))

    def test_beginning(self):
        live = Live(FAMILY)
        self.assertIs(live.family, FAMILY)
        self.assertEqual(live.order, ())
        self.assertEqual(live.alive, ("ann", "bob", "cid", "dan", "eve"))
        self.assertEqual(live.held, (("ann", (12, 1)), ("bob", (0, 1)), ("cid", (6, 1)), ("dan", (0, 1)), ("eve", (0, 1)),
                                     ("crown", (0, 1))))
        self.assertEqual(len(live), 0)

    def test_people_in_another_order(self):
        live = Live(Family(FAMILY.people[::-1], FAMILY.wills))
        self.assertEqual((live.alive, live.held), (Live(FAMILY).alive, Live(FAMILY).held))
        live.die("cid")
        self.assertEqual(live.alive, ("ann", "bob", "dan", "eve"))
        self.assertEqual(live.held, (("ann", (18, 1)), ("bob", (0, 1)), ("dan", (0, 1)), ("eve", (0, 1)), ("crown", (0, 1))))

    def test_crown_inherits(self):
        live = Live(Family.read("person a 5\nperson zoe 1\nwill a 1 zoe | 2"))
        self.assertEqual(live.die("a"), (("crown", (10, 3)), ("zoe", (5, 3))))
        self.assertEqual(live.held, (("zoe", (8, 3)), ("crown", (10, 3))))

    def test_all_orders_of_small_families(self):
        for family in SMALL[::3]:
            for order in all_orders(family)[::4]:
                live = Live(family)
                expected = steps(family, order)
                for at, name in enumerate(order):
                    self.assertEqual(live.die(name), expected[at])
                    self.assertEqual(live.held, held_after(family, order[:at + 1]))
                    self.assertEqual(live.order, order[:at + 1])
                    self.assertEqual(live.alive, tuple(sorted(set(family.names) - set(order[:at + 1]))))
                    self.assertEqual(len(live), at + 1)
                self.assertEqual(live.held, paid(family, order))

    def test_no_dead_person(self):
        live = Live(FAMILY)
        for value in odd_values() + ["dan", "eve", "crown", "zoe", ["ann"], ("ann",), FAMILY, live]:
            error = self.refused(live, lambda: live.die(value), NoName, value)
            self.assertIs(error.name, value)
        self.assertEqual(live.die("ann"), (("bob", (12, 1)),))

    def test_died_already(self):
        live = Live(FAMILY)
        live.die("ann")
        self.refused(live, lambda: live.die("ann"), NoName, "ann")
        live.die("cid")
        live.die("bob")
        for name in ("ann", "bob", "cid"):
            self.refused(live, lambda: live.die(name), NoName, name)

    def test_death_that_a_fact_puts_off(self):
        live = Live(PUT_OFF)
        self.refused(live, lambda: live.die("cid"), Refused, 0)
        live.die("ann")
        self.refused(live, lambda: live.die("cid"), Refused, 1)
        live.die("bob")
        self.assertEqual(live.die("cid"), (("eve", (6, 1)),))

    def test_died_already_comes_before_facts(self):
        live = Live(PUT_OFF)
        live.die("bob")
        self.refused(live, lambda: live.die("bob"), NoName, "bob")

    def test_later_changes_of_nothing(self):
        live = Live(FAMILY)
        held, order = live.held, live.order
        live.die("ann")
        self.assertEqual((held, order), (Live(FAMILY).held, ()))
        self.assertEqual(str(FAMILY), TEXT)


class Several(LiveTest):

    def test_row_of_deaths(self):
        for names in (["bob", "ann", "cid"], ("bob", "ann", "cid")):
            live = Live(FAMILY)
            told = live.several(names)
            self.assertEqual(told, steps(FAMILY, names))
            self.assertIs(type(told), tuple)
            self.assertEqual((live.order, len(live)), (("bob", "ann", "cid"), 1))
            self.assertEqual(live.held, paid(FAMILY, names))

    def test_no_deaths(self):
        live = Live(FAMILY)
        for many, names in enumerate(([], ()), 1):
            self.assertEqual(live.several(names), ())
            self.assertEqual((live.order, len(live)), ((), many))
        self.assertIs(live.undo(), True)
        self.assertIs(live.undo(), True)
        self.assertIs(live.undo(), False)

    def test_after_others(self):
        live = Live(FAMILY)
        live.die("cid")
        self.assertEqual(live.several(["ann"]), ((("bob", (18, 1)),),))
        self.assertEqual(live.several(["bob"]), ((("eve", (18, 1)),),))
        self.assertEqual((live.order, len(live)), (("cid", "ann", "bob"), 3))

    def test_one_that_cannot_be_done(self):
        live = Live(FAMILY)
        for names, at in ((["zoe"], 0), (["ann", "bob", "ann"], 2), (["ann", "dan", "bob"], 1), (("bob", "crown"), 1),
                          (["ann", "zoe", "zoe"], 1)):
            error = self.refused(live, lambda: live.several(names), Refused, at)
            self.assertIs(type(error.__cause__), NoName)
            self.assertEqual(error.__cause__.name, names[at])

    def test_index_is_counted_within_the_row(self):
        live = Live(FAMILY)
        live.die("ann")
        error = self.refused(live, lambda: live.several(["bob", "ann"]), Refused, 1)
        self.assertEqual(error.__cause__.name, "ann")
        self.refused(live, lambda: live.several(["ann"]), Refused, 0)

    def test_fact_that_puts_off(self):
        live = Live(PUT_OFF)
        error = self.refused(live, lambda: live.several(["ann", "cid", "bob"]), Refused, 1)
        self.assertIs(type(error.__cause__), Refused)
        self.assertEqual(error.__cause__.at, 1)
        live.die("ann")
        error = self.refused(live, lambda: live.several(["cid", "bob"]), Refused, 0)
        self.assertEqual(error.__cause__.at, 1)
        self.assertEqual(live.several(["bob", "cid"]), ((("eve", (12, 1)),), (("eve", (6, 1)),)))

    def test_any_values_at_all(self):
        live = Live(FAMILY)
        for value in odd_values() + ["dan", ["ann"], ("bob",)]:
            error = self.refused(live, lambda: live.several(["cid", value, "ann"]), Refused, 1)
            self.assertIs(error.__cause__.name, value)

    def test_names_stay_as_they_were(self):
        live = Live(FAMILY)
        names = ["bob", "ann"]
        told = live.several(names)
        names.append("cid")
        self.assertEqual((live.order, told), (("bob", "ann"), ((), (("dan", (12, 1)),))))
        self.assertEqual(names, ["bob", "ann", "cid"])


class Learning(LiveTest):

    def test_fact(self):
        live = Live(FAMILY)
        self.assertIsNone(live.learn("bob", "cid"))
        self.assertEqual(live.family, PUT_OFF)
        self.assertEqual((live.order, live.held, len(live)), ((), Live(FAMILY).held, 1))
        self.refused(live, lambda: live.die("cid"), Refused, 0)
        self.assertIsNone(live.learn("bob", "cid"))
        self.assertEqual(live.family.facts, (("bob", "cid"), ("bob", "cid")))
        self.assertEqual(FAMILY.facts, ())

    def test_people_who_are_dead_already(self):
        live = Live(FAMILY)
        live.several(["cid", "ann", "bob"])
        for first, then in (("cid", "ann"), ("ann", "bob"), ("cid", "bob")):
            live.learn(first, then)
        self.assertEqual(live.family.facts, (("cid", "ann"), ("ann", "bob"), ("cid", "bob")))
        self.assertEqual(len(live), 4)

    def test_first_died_already_and_the_other_one_did_not(self):
        live = Live(FAMILY)
        live.die("cid")
        live.learn("cid", "bob")
        live.learn("ann", "bob")
        self.refused(live, lambda: live.die("bob"), Refused, 1)
        self.assertEqual(len(live), 3)

    def test_other_way_about(self):
        live = Live(FAMILY)
        live.several(["cid", "ann"])
        self.refused(live, lambda: live.learn("ann", "cid"), Refused, 2)
        live.die("bob")
        for first, then in (("ann", "cid"), ("bob", "ann"), ("bob", "cid")):
            self.refused(live, lambda: live.learn(first, then), Refused, 3)

    def test_then_died_already_and_first_did_not(self):
        live = Live(FAMILY)
        live.die("cid")
        for first in ("ann", "bob"):
            self.refused(live, lambda: live.learn(first, "cid"), Refused, 1)

    def test_strangers_and_the_living(self):
        live = Live(FAMILY)
        live.die("cid")
        for value in odd_values() + ["dan", "crown", "zoe", ["ann"], ("ann",)]:
            for first, then in ((value, "ann"), (value, "cid"), ("ann", value), ("cid", value), (value, value),
                                (value, "eve")):
                error = self.refused(live, lambda: live.learn(first, then), NoName, value)
                self.assertIs(error.name, value)
        self.refused(live, lambda: live.learn("eve", "dan"), NoName, "eve")

    def test_ring(self):
        live = Live(PUT_OFF)
        self.refused(live, lambda: live.learn("cid", "bob"), InvalidFamily, "ring")
        live.learn("cid", "ann")
        self.refused(live, lambda: live.learn("ann", "bob"), InvalidFamily, "ring")

    def test_same_person(self):
        live = Live(FAMILY)
        self.refused(live, lambda: live.learn("ann", "ann"), InvalidFamily, "facts")
        live.die("ann")
        self.refused(live, lambda: live.learn("ann", "ann"), InvalidFamily, "facts")

    def test_ring_comes_before_what_is_refused(self):
        live = Live(PUT_OFF)
        live.several(["bob", "cid"])
        self.refused(live, lambda: live.learn("cid", "bob"), InvalidFamily, "ring")


class TakingBack(LiveTest):

    def test_nothing_to_take_back(self):
        live = Live(FAMILY)
        for _ in range(3):
            self.assertIs(live.undo(), False)
            self.assertEqual(seen(live), seen(Live(FAMILY)))

    def test_each_change(self):
        live = Live(FAMILY)
        states = [seen(live)]
        for call in (lambda: live.die("cid"), lambda: live.learn("ann", "bob"), lambda: live.several([]),
                     lambda: live.several(["ann", "bob"]), lambda: live.learn("cid", "bob")):
            call()
            states.append(seen(live))
            self.assertEqual(len(live), len(states) - 1)
        for state in states[-2::-1]:
            self.assertIs(live.undo(), True)
            self.assertEqual(seen(live), state)
        self.assertIs(live.undo(), False)
        self.assertEqual(seen(live), states[0])

    def test_going_on_after_undo(self):
        live = Live(FAMILY)
        live.several(["cid", "ann"])
        live.undo()
        self.assertEqual(live.several(["bob", "ann"]), ((), (("dan", (12, 1)),)))
        self.assertEqual((live.order, len(live)), (("bob", "ann"), 1))

    def test_failed_changes_are_none(self):
        live = Live(PUT_OFF)
        for call in (lambda: live.die("cid"), lambda: live.die("zoe"), lambda: live.several(["ann", "cid"]),
                     lambda: live.learn("cid", "bob"), lambda: live.learn("dan", "bob")):
            self.assertRaises((NoName, Refused, InvalidFamily), call)
        self.assertEqual(len(live), 0)
        self.assertIs(live.undo(), False)

    def test_undone_fact_holds_no_more(self):
        live = Live(FAMILY)
        live.learn("bob", "cid")
        self.assertIs(live.undo(), True)
        self.assertEqual(live.family, FAMILY)
        live.die("cid")
        live.learn("cid", "bob")

    def test_forty_changes(self):
        live = Live(NINE[0])
        numbers = Numbers(5)
        states = [seen(live)]
        while len(live) < 40:
            names = [name for name in live.family.dead if name not in live.order]
            if numbers.below(3) and names:
                live.several(names[:numbers.below(2)])
            else:
                live.learn("h", "i")
            states.append(seen(live))
        for state in states[-2::-1]:
            self.assertIs(live.undo(), True)
            self.assertEqual(seen(live), state)


class Within(LiveTest):

    def test_result(self):
        live = Live(FAMILY)
        for result in ("told", None, 7, [1], live):
            self.assertIs(live.within(lambda given: result), result)

    def test_live_is_passed(self):
        live = Live(FAMILY)
        self.assertIs(live.within(lambda given: given), live)
        self.assertEqual(live.within(lambda given: given.die("ann")), (("bob", (12, 1)),))

    def test_work_that_changes(self):
        live = Live(FAMILY)
        live.die("cid")
        live.learn("ann", "bob")
        before = seen(live)

        def work(given):
            given.die("ann")
            given.learn("ann", "bob")
            given.several(["bob"])
            return seen(given)

        inside = live.within(work)
        self.assertEqual((inside[1], inside[4]), (("cid", "ann", "bob"), 5))
        self.assertEqual(seen(live), before)
        self.assertEqual(live.die("ann"), (("bob", (18, 1)),))

    def test_work_that_takes_back_what_was_there_before(self):
        live = Live(FAMILY)
        live.die("cid")
        live.learn("ann", "bob")
        live.several(["ann"])
        before = seen(live)

        def work(given):
            while given.undo():
                pass
            inside = seen(given)
            given.several(["bob"])
            return inside

        self.assertEqual(live.within(work), seen(Live(FAMILY)))
        self.assertEqual(seen(live), before)
        self.assertIs(live.undo(), True)
        self.assertEqual((live.order, live.family.facts), (("cid",), (("ann", "bob"),)))
        self.assertIs(live.undo(), True)
        self.assertEqual(live.family, FAMILY)
        self.assertIs(live.undo(), True)
        self.assertEqual(seen(live), seen(Live(FAMILY)))
        self.assertIs(live.undo(), False)

    def test_work_that_raises(self):
        live = Live(FAMILY)
        live.die("cid")
        before = seen(live)
        for wrong in (ValueError("no"), KeyError("no"), NoName("no"), KeyboardInterrupt(), RuntimeError()):

            def work(given):
                given.undo()
                given.several(["bob", "ann"])
                given.learn("bob", "ann")
                raise wrong

            with self.assertRaises(type(wrong)) as caught:
                live.within(work)
            self.assertIs(caught.exception, wrong)
            self.assertEqual(seen(live), before)

    def test_errors_of_the_live_family(self):
        live = Live(PUT_OFF)
        self.refused(live, lambda: live.within(lambda given: given.several(["bob", "zoe"])), Refused, 1)
        self.refused(live, lambda: live.within(lambda given: (given.die("ann"), given.die("cid"))), Refused, 1)
        self.refused(live, lambda: live.within(lambda given: (given.die("ann"), given.die("ann"))), NoName, "ann")

    def test_work_within_work(self):
        live = Live(FAMILY)
        live.die("cid")
        before = seen(live)

        def work(given):
            given.die("ann")
            middle = seen(given)
            self.assertRaises(NoName, given.within, lambda again: (again.undo(), again.die("bob"), again.die("bob")))
            self.assertEqual(seen(given), middle)
            return given.within(lambda again: again.die("bob"))

        self.assertEqual(live.within(work), (("eve", (18, 1)),))
        self.assertEqual(seen(live), before)

    def test_it_is_no_change(self):
        live = Live(FAMILY)
        live.within(lambda given: given.die("ann"))
        self.assertEqual(len(live), 0)
        self.assertIs(live.undo(), False)


class Apart(LiveTest):

    def test_two_of_one_family(self):
        first, then = Live(FAMILY), Live(FAMILY)
        first.die("ann")
        first.learn("ann", "cid")
        self.assertEqual(seen(then), seen(Live(FAMILY)))
        self.assertIsNot(first.family, FAMILY)
        self.assertEqual(str(FAMILY), TEXT)

    def test_asking_changes_nothing(self):
        live = Live(PUT_OFF)
        live.several(["ann", "bob"])
        before = seen(live)
        self.assertEqual(seen(live), before)
        live.within(seen)
        self.assertEqual(seen(live), before)

    def test_arguments_by_name(self):
        live = Live(family=FAMILY)
        live.learn(then="bob", first="cid")
        self.assertEqual(live.die(name="cid"), (("ann", (6, 1)),))
        self.assertEqual(live.several(names=["bob"]), ((),))
        self.assertEqual(live.within(work=len), 3)


if __name__ == "__main__":
    unittest.main()
