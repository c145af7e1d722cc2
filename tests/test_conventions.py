"""[1], [2] and the interface, as far as they speak of what is there."""

import ast
import inspect
import unittest
from pathlib import Path

from heirorders import cases, comparing, deciding, desk, errors, families, live, orders, papers, settling, wills
from heirorders.desk import Desk
from heirorders.errors import InvalidFamily, InvalidText, InvalidWill, NoName
from heirorders.families import Family
from heirorders.live import Live
from heirorders.wills import Will
from tests.samples import LINES, NINE, TEXT, odd_values

PACKAGE = Path(__file__).resolve().parent.parent / "heirorders"

METHODS = {
    Will: {"heirs": ["self", "alive"], "read": ["text"]},
    Family: {"own": ["self", "name"], "will_of": ["self", "name"], "with_fact": ["self", "first", "then"],
             "with_own": ["self", "name", "amount"], "read": ["text"]},
    Live: {"die": ["self", "name"], "several": ["self", "names"], "learn": ["self", "first", "then"], "undo": ["self"],
           "within": ["self", "work"]},
    Desk: {"say": ["self", "command"]},
}

PROPERTIES = {Will: ["names"], Family: ["names", "dead", "living"], Live: ["order", "alive", "held"]}

SPECIAL = {Will: ["__init__", "__len__", "__eq__", "__str__"], Family: ["__init__", "__add__", "__eq__", "__str__"],
           Live: ["__init__", "__len__"], Desk: ["__init__"]}

FUNCTIONS = {
    orders: {"is_order": ["family", "value"], "paid": ["family", "order"], "steps": ["family", "order"],
             "at_once": ["family", "hours"]},
    cases: {"pairs": ["family"], "case_of": ["family", "order"], "cases": ["family"], "is_case": ["family", "value"],
            "order_of": ["family", "case"], "paid_in": ["family", "case"]},
    deciding: {"least": ["family", "name"], "greatest": ["family", "name"], "least_order": ["family", "name"],
               "greatest_order": ["family", "name"], "settled": ["family"], "surely": ["family"],
               "possibly": ["family"], "flips": ["family", "name"], "idle": ["family"]},
    papers: {"paper": ["family", "name", "most"], "paper_holds": ["family", "name", "most", "value"]},
    settling: {"settlers": ["family", "name"], "cases_for": ["family", "amounts"], "sure_facts": ["family", "amounts"]},
    comparing: {"alike": ["p", "q"], "parting": ["p", "q"]},
}


def answers(family, name):
    """Return what the functions of all modules answer about a family."""
    found = cases.cases(family)
    order = cases.order_of(family, found[-1])
    paper = papers.paper(family, name, 10 ** 10)
    return [orders.is_order(family, order), orders.paid(family, order), orders.steps(family, order),
            orders.at_once(family, [order]), cases.pairs(family), cases.case_of(family, order), found,
            cases.is_case(family, found[0]), order, cases.paid_in(family, found[0]), deciding.least(family, name),
            deciding.greatest(family, name), deciding.least_order(family, name),
            deciding.greatest_order(family, name), deciding.settled(family), deciding.surely(family),
            deciding.possibly(family), deciding.flips(family, name), deciding.idle(family), paper,
            papers.paper_holds(family, name, 10 ** 10, paper), settling.settlers(family, name),
            settling.cases_for(family, [(name, deciding.least(family, name))]),
            settling.sure_facts(family, [(name, deciding.greatest(family, name))]),
            comparing.alike(family, family.with_own(name, 77) if name != "crown" else family),
            comparing.parting(family, Family([(each, 77) for each in family.names], family.wills))]


class EqualToAll:
    """Something that says that it is equal to everything."""

    def __eq__(self, other):
        return True


class Kinds(unittest.TestCase):

    def test_true_and_false_are_no_integers(self):
        for value in (True, False):
            self.assertRaises(InvalidWill, Will, [(value, [])])
            self.assertRaises(InvalidFamily, Family, [("ann", value)])
            self.assertRaises(InvalidFamily, Family([("ann", 1)]).with_own, "ann", value)

    def test_numbers_begin_with_zero(self):
        self.assertEqual(Family([("ann", 0)]).own("ann"), 0)
        self.assertRaises(InvalidFamily, Family, [("ann", -1)])

    def test_names(self):
        for name in ("a", "z", "az", "abcde", "zzzzz", "crow", "crowo"):
            self.assertEqual(Family([(name, 1)]).names, (name,))
            self.assertEqual(Will([(1, [[name]])]).names, (name,))
        for name in ("", "crown", "abcdef", "aB", "A", "a1", "1", "a b", "a-b", "a_b", "\u00e9", "\u00aa", "a\n"):
            self.assertRaises(InvalidFamily, Family, [(name, 1)])
            self.assertRaises(InvalidWill, Will, [(1, [[name]])])

    def test_truth_is_true_or_false(self):
        self.assertIs(Will.read("1 a") == Will.read("1 a"), True)
        self.assertIs(Will.read("1 a") == Will.read("1 b"), False)
        self.assertIs(Family.read(TEXT) == Family.read(TEXT), True)
        self.assertIs(Family.read(TEXT) == Family([("ann", 1)]), False)

    def test_fractions_are_pairs_of_integers(self):
        for _, value in Will.read("2 a+b | 4 c | 6").heirs(["a", "b", "c"]):
            self.assertIs(type(value), tuple)
            self.assertEqual([type(part) for part in value], [int, int])

    def test_any_value_at_all_may_be_asked(self):
        for value in odd_values():
            self.assertRaises(NoName, Family([("ann", 1)]).own, value)


class Sequences(unittest.TestCase):

    def only_tuples(self, value):
        self.assertNotIsInstance(value, (list, set, dict))
        if isinstance(value, tuple):
            self.assertIs(type(value), tuple)
            for part in value:
                self.only_tuples(part)

    def test_lists_and_tuples(self):
        self.assertEqual(Will([(1, [["a", "b"], ["c"]])]), Will(((1, (("a", "b"), ("c",))),)))
        will = Will.read("1 b")
        self.assertEqual(Family([("a", 1), ("b", 1)], [("a", will), ("b", Will([(1, [])]))], [("a", "b")]),
                         Family((("a", 1), ("b", 1)), (("a", will), ("b", Will(((1, ()),)))), (("a", "b"),)))
        self.assertEqual(will.heirs(["b"]), will.heirs(("b",)))

    def test_attributes_and_results_are_tuples(self):
        will = Will([(1, [["a", "b"], ["c"]]), (2, [])])
        family = Family([("a", 1), ("b", 1)], [("a", Will([(1, [["b"]])])), ("b", Will([(1, [])]))], [["a", "b"]][:0])
        for value in (will.shares, will.names, will.heirs(["a"]), family.people, family.wills, family.facts,
                      family.names, family.dead, family.living):
            self.assertIs(type(value), tuple)
            self.only_tuples(value)
        for changed in (family.with_fact("a", "b"), family.with_own("a", 2), Family.read(TEXT)):
            for value in (changed.people, changed.wills, changed.facts):
                self.only_tuples(value)

    def test_answers_are_tuples(self):
        for family, name in ((Family.read(TEXT), "dan"), (NINE[2], "x"), (Family([("ann", 1)]), "ann")):
            for answer in answers(family, name):
                self.assertIsInstance(answer, (tuple, bool))
                self.only_tuples(answer)

    def test_live_families_give_tuples(self):
        live = Live(Family.read(TEXT))
        for value in (live.order, live.alive, live.held, live.die("cid"), live.several(["ann", "bob"]), live.order,
                      live.alive, live.held, live.family.facts):
            self.assertIs(type(value), tuple)
            self.only_tuples(value)
        self.assertIs(type(len(live)), int)
        self.assertIs(live.undo(), True)

    def test_lists_that_are_changed_later(self):
        group, groups = ["b", "a"], [["c"]]
        groups.append(group)
        shares = [(1, groups)]
        will = Will(shares)
        group.append("z")
        groups.append(["y"])
        shares.append((2, []))
        self.assertEqual((str(will), len(will), will.names), ("1 c > a+b", 1, ("a", "b", "c")))
        people, entries, facts = [("a", 1), ("b", 2)], [("a", Will.read("1")), ("b", Will.read("1"))], [("a", "b")]
        family = Family(people, entries, facts)
        text = str(family)
        for changed in (people, entries, facts):
            changed.clear()
        self.assertEqual(str(family), text)
        self.assertEqual((len(family.people), len(family.wills), len(family.facts)), (2, 2, 1))

    def test_arguments_are_not_changed(self):
        shares = [(1, [["c", "b", "a"], ["z", "y"]]), (2, [])]
        Will(shares)
        self.assertEqual(shares, [(1, [["c", "b", "a"], ["z", "y"]]), (2, [])])
        alive = ["z", "b", "b", "a"]
        Will(shares).heirs(alive)
        self.assertEqual(alive, ["z", "b", "b", "a"])
        people, entries = [("b", 1), ("a", 2)], [("b", Will.read("1 a")), ("a", Will.read("1"))]
        facts = [("b", "a"), ("b", "a")]
        copies = list(people), list(entries), list(facts)
        Family(people, entries, facts).with_own("a", 3)
        self.assertEqual((people, entries, facts), copies)

    def test_lists_stay_as_they_were(self):
        family = Family.read(TEXT)
        order, short, hours = ["cid", "ann", "bob"], ["bob", "bob"], [["cid"], ["bob", "ann"]]
        orders.paid(family, order)
        orders.steps(family, order)
        orders.at_once(family, hours)
        cases.case_of(family, order)
        self.assertRaises(errors.InvalidOrder, orders.paid, family, short)
        spoilt = [(["ann"], [1, 2])]
        self.assertIs(papers.paper_holds(family, "dan", 18, spoilt), False)
        self.assertIs(cases.is_case(family, spoilt), False)
        self.assertEqual((order, short), (["cid", "ann", "bob"], ["bob", "bob"]))
        self.assertEqual((hours, spoilt), ([["cid"], ["bob", "ann"]], [(["ann"], [1, 2])]))

    def test_results_do_not_change_with_lists(self):
        family = Family.read(TEXT)
        order, hours = ["cid", "ann", "bob"], [["cid"], ["bob", "ann"]]
        results = orders.paid(family, order), orders.steps(family, order), orders.at_once(family, hours)
        texts = repr(results)
        order.reverse()
        hours[1].pop()
        self.assertEqual(repr(results), texts)

    def test_not_iterable(self):
        for thing in (Will.read("1 a | 2"), Family.read(TEXT), Live(Family.read(TEXT)), Desk()):
            self.assertRaises(TypeError, iter, thing)
            self.assertRaises(TypeError, list, thing)
            with self.assertRaises(TypeError):
                "ann" in thing
        for error in (errors.HeirError(), InvalidText(1), NoName("ann"), errors.Mismatch()):
            self.assertRaises(TypeError, iter, error)


class Equality(unittest.TestCase):

    def test_equal_to_nothing_of_another_class(self):
        will, family = Will.read("1 a"), Family.read("person a 1")
        others = odd_values() + ["1 a", "person a 1", will.shares, family.people, EqualToAll()]
        for thing in (will, family):
            for other in others:
                if other.__class__ is not thing.__class__:
                    self.assertIs(thing == other, False)
                    self.assertIs(thing != other, True)
        self.assertIs(will == family, False)
        self.assertIs(family == will, False)


class Repeating(unittest.TestCase):

    def test_same_call_same_result(self):
        family = Family.read(TEXT)
        will = Will.read("2 bob+cid > dan | 1 eve")

        def results():
            return (str(family), family.names, family.dead, family.living, family.own("ann"), family.will_of("cid"),
                    family.with_fact("ann", "bob"), family.with_own("ann", 1), family + Family([("z", 1)]),
                    str(will), len(will), will.names, will.shares, will.heirs(["cid", "dan"]))

        before = results()
        self.assertEqual(results(), before)
        for call in (lambda: orders.paid(family, ["ann"]), lambda: cases.order_of(family, ()),
                     lambda: deciding.flips(family, "ann"), lambda: papers.paper(family, "zoe", 1),
                     lambda: family.own("x"), lambda: family.with_fact("ann", "ann"), lambda: family + family,
                     lambda: family.with_own("ann", -1), lambda: Will.read("0"), lambda: Family.read("")):
            self.assertRaises((ValueError, KeyError), call)
            self.assertEqual(results(), before)

    def test_live_families_and_desks_change_only_as_described(self):
        family = Family.read(TEXT)
        live, teller = Live(family), Desk()
        teller.say("family " + " ; ".join(LINES))

        def results():
            return (live.family, live.order, live.alive, live.held, len(live), teller.live.family, teller.live.held,
                    teller.say("held ann"), teller.say("settled"), teller.say("greatest dan"), teller.live.order)

        before = results()
        for call in (lambda: live.die("dan"), lambda: live.several(["ann", "dan"]), lambda: live.learn("ann", "ann"),
                     lambda: live.within(lambda given: (given.die("ann"), given.die("ann"))),
                     lambda: teller.say("die dan"), lambda: teller.say("learn ann dan"), lambda: teller.say("quit"),
                     lambda: teller.say("family person"), lambda: teller.say("held zoe")):
            self.assertRaises((ValueError, KeyError), call)
            self.assertEqual(results(), before)
        live.die("ann")
        self.assertEqual((teller.live.order, teller.live.alive), ((), family.names))

    def test_families_and_wills_stay_as_they_are(self):
        for family, name in ((Family.read(TEXT), "dan"), (NINE[0], "x")):
            things = [family, *[will for _, will in family.wills]]
            before = [dict(vars(thing)) for thing in things]
            answers(family, name)
            live = Live(family)
            live.die(family.dead[-1])
            live.learn(family.dead[-1], family.dead[0])
            live.undo()
            # No name more, and the very same tuples under the old ones.
            self.assertEqual([list(vars(thing)) for thing in things], [list(known) for known in before])
            for thing, known in zip(things, before):
                for attribute in known:
                    self.assertIs(getattr(thing, attribute), known[attribute])

    def test_same_answers(self):
        family = Family.read(TEXT)
        before = answers(family, "dan")
        text = str(family)
        others = answers(NINE[3], "crown")
        self.assertEqual(answers(family, "dan"), before)
        self.assertEqual(answers(Family.read(TEXT), "dan"), before)
        self.assertEqual(answers(NINE[3], "crown"), others)
        self.assertEqual(str(family), text)


class Interface(unittest.TestCase):

    def test_arguments_by_name(self):
        will = Will(shares=[(1, [["b"]])])
        self.assertEqual(will, Will.read(text="1 b"))
        self.assertEqual(will.heirs(alive=["b"]), (("b", (1, 1)),))
        crown = Will.read("1")
        family = Family(people=[("a", 1), ("b", 2)], wills=[("a", will), ("b", crown)], facts=[("a", "b")])
        self.assertEqual(family, Family.read(text=str(family)))
        self.assertEqual(Family(facts=(), people=[("a", 1)]), Family([("a", 1)]))
        self.assertEqual((family.own(name="b"), family.will_of(name="a")), (2, will))
        self.assertEqual(family.with_fact(then="b", first="a").facts, (("a", "b"), ("a", "b")))
        self.assertEqual(family.with_own(amount=5, name="a").own("a"), 5)

    def test_parameter_names(self):
        self.assertEqual(list(inspect.signature(Will).parameters), ["shares"])
        parameters = inspect.signature(Family).parameters
        self.assertEqual([(name, parameters[name].default) for name in parameters],
                         [("people", inspect.Parameter.empty), ("wills", ()), ("facts", ())])
        self.assertEqual(list(inspect.signature(Live).parameters), ["family"])
        self.assertEqual(list(inspect.signature(Desk).parameters), [])
        for made, methods in METHODS.items():
            for name, expected in methods.items():
                self.assertEqual(list(inspect.signature(getattr(made, name)).parameters),
                                 [each for each in expected if each != "self"] if name == "read" else expected)

    def test_functions(self):
        for module, functions in FUNCTIONS.items():
            for name, expected in functions.items():
                function = getattr(module, name)
                self.assertEqual(list(inspect.signature(function).parameters), expected)
                self.assertEqual(function.__module__, module.__name__)

    def test_example_of_the_overview(self):
        family = Family.read(TEXT)
        self.assertEqual((cases.pairs(family), len(cases.cases(family)), deciding.least(family, "eve"),
                          deciding.greatest(family, "dan"), deciding.settled(family)),
                         ((("ann", "bob"), ("ann", "cid")), 4, (0, 1), (18, 1), ("crown",)))

    def test_methods_stand_in_their_class(self):
        for made, methods in METHODS.items():
            for name in list(methods) + PROPERTIES.get(made, []) + SPECIAL[made]:
                self.assertIn(name, vars(made))
        for made, names in PROPERTIES.items():
            for name in names:
                self.assertIsInstance(vars(made)[name], property)
        for made in (Will, Family):
            self.assertIsInstance(vars(made)["read"], classmethod)

    def test_classes_are_defined_in_their_files(self):
        self.assertEqual((Will.__module__, Family.__module__), ("heirorders.wills", "heirorders.families"))
        self.assertIs(wills.Will, Will)
        self.assertIs(families.Family, Family)
        self.assertEqual((Live.__module__, Desk.__module__), ("heirorders.live", "heirorders.desk"))
        self.assertIs(live.Live, Live)
        self.assertIs(desk.Desk, Desk)
        for name in ("HeirError", "InvalidWill", "InvalidFamily", "InvalidText", "InvalidOrder", "InvalidCase",
                     "InvalidCommand", "Mismatch", "Refused", "NoName"):
            self.assertEqual(getattr(errors, name).__module__, "heirorders.errors")

    def test_attributes_are_set_on_each_object(self):
        self.assertEqual(list(vars(Will.read("1"))), ["shares"])
        self.assertEqual(set(vars(Family.read(TEXT))), {"people", "wills", "facts"})
        self.assertIn("family", vars(Live(Family.read(TEXT))))
        self.assertEqual(vars(Desk()), {"live": None})

    def test_package_file_contains_only_a_docstring(self):
        body = ast.parse((PACKAGE / "__init__.py").read_text()).body
        self.assertEqual(len(body), 1)
        self.assertIsInstance(body[0].value.value, str)


if __name__ == "__main__":
    unittest.main()
