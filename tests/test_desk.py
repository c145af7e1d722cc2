"""[22], [23]: desks."""

import unittest

from heirorders.deciding import greatest, least, settled
from heirorders.desk import Desk
from heirorders.errors import InvalidCommand, InvalidFamily, InvalidText, NoName, Refused
from heirorders.families import Family
from heirorders.live import Live
from tests.samples import LINES, NINE, TEXT, odd_values

FAMILY = Family.read(TEXT)

BEGIN = "family " + " ; ".join(LINES)

PARTS = "family person ann 7 ; person bob 0 ; person dan 1 ; will ann 1 dan | 1 bob | 1 ; will bob 1 dan"


def begun(text=BEGIN):
    desk = Desk()
    desk.say(text)
    return desk


def seen(desk):
    """Return all that a desk shows."""
    live = desk.live
    # A live family without changes has the length 0.
    return None if live is None else (str(live.family), live.order, live.alive, live.held, len(live))


class DeskTest(unittest.TestCase):

    def refused(self, desk, command, error, **told):
        """Check that the command raises this error with these attributes, and changes nothing."""
        live, before = desk.live, seen(desk)
        with self.assertRaises(error) as caught:
            desk.say(command)
        self.assertIs(type(caught.exception), error)
        for name, value in told.items():
            self.assertEqual(getattr(caught.exception, name), value)
        self.assertIs(desk.live, live)
        self.assertEqual(seen(desk), before)
        return caught.exception

    def say(self, desk, command, expected):
        self.assertEqual(desk.say(command), expected, command)
        self.assertIs(type(expected), str)


class Families(DeskTest):

    def test_example(self):
        desk = Desk()
        for command, expected in ((BEGIN, "5"), ("greatest dan", "18"), ("die cid", "ann 6"), ("held ann", "18"),
                                  ("settled", "crown")):
            self.say(desk, command, expected)

    def test_beginning(self):
        self.assertIsNone(Desk().live)

    def test_family(self):
        desk = begun()
        self.assertIsInstance(desk.live, Live)
        self.assertEqual(desk.live.family, FAMILY)
        self.assertEqual((desk.live.order, len(desk.live)), ((), 0))
        self.say(desk, "family person zoe 3", "1")
        self.assertEqual(desk.live.family, Family([("zoe", 3)]))

    def test_new_live_family(self):
        desk = begun()
        first = desk.live
        desk.say("die cid")
        self.say(desk, BEGIN, "5")
        self.assertIsNot(desk.live, first)
        self.assertEqual((desk.live.order, first.order), ((), ("cid",)))
        self.say(desk, "undo", "nothing")

    def test_twelve_people(self):
        self.say(Desk(), "family " + str(NINE[0]).replace("\n", " ; "), "12")

    def test_facts(self):
        desk = begun(BEGIN + " ; first bob cid ; first cid ann")
        self.assertEqual(desk.live.family.facts, (("bob", "cid"), ("cid", "ann")))

    def test_texts_of_no_family(self):
        for desk in (Desk(), begun()):
            for text, at in (("person", 0), ("x", 0), ("person ann 1 ; will", 1), ("person ann 01", 0),
                             ("person ann 1 ; person Bob 1 ; person", 1), ("person ann 1; person bob 1", 0),
                             ("person ann 1 ;person bob 1", 0), ("person ann 1 ; will ann 0", 1), ("; person ann 1", 0),
                             ("person ann 1 ;", 0), ("person ann 1 ; ;", 1), (";", 0), ("; ;", 0),
                             ("person ann 1 ; person bob 2 ; will ann 1 bob ; person cid 1", 3)):
                self.refused(desk, "family " + text, InvalidText, at=at)

    def test_semicolons_are_replaced_from_left_to_right(self):
        # Of two in a row with three spaces, only the first one has spaces on both sides.
        self.refused(Desk(), "family person ann 1 ; ; person bob 1", InvalidText, at=1)
        self.refused(Desk(), "family person ann 1 ; ; ; person bob 1", InvalidText, at=1)

    def test_no_families(self):
        for desk in (Desk(), begun()):
            for text, word in (("person ann 1 ; person ann 2", "people"), ("person ann 1 ; will bob 1", "wills"),
                               ("person ann 1 ; will ann 1 bob", "wills"), ("person ann 1 ; first ann bob", "facts"),
                               ("person a 1 ; person b 1 ; will a 1 ; will b 1 ; first a b ; first b a", "ring")):
                self.refused(desk, "family " + text, InvalidFamily, word=word)


class Dying(DeskTest):

    def test_nothing(self):
        self.say(begun(), "die bob", "nothing")

    def test_one_and_several(self):
        desk = begun(PARTS)
        self.say(desk, "die ann", "bob 7/3, crown 7/3, dan 7/3")
        self.say(desk, "die bob", "dan 7/3")
        self.say(desk, "held dan", "17/3")
        self.say(desk, "held crown", "7/3")

    def test_integers_and_fractions(self):
        desk = begun("family person a 6 ; person b 0 ; person c 1 ; will a 2 b | 2 c")
        self.say(desk, "die a", "b 3, c 3")
        self.say(desk, "held c", "4")
        self.say(begun("family person a 1 ; person b 0 ; will a 1 b | 1"), "die a", "b 1/2, crown 1/2")

    def test_errors(self):
        desk = begun(BEGIN + " ; first bob cid")
        for name in ("dan", "zoe", "crown", "Ann", "1", ";", "\t", "ann;", "|"):
            self.refused(desk, f"die {name}", NoName, name=name)
        self.refused(desk, "die cid", Refused, at=0)
        desk.say("die ann")
        self.refused(desk, "die cid", Refused, at=1)
        self.refused(desk, "die ann", NoName, name="ann")


class Learning(DeskTest):

    def test_fact(self):
        desk = begun()
        self.say(desk, "learn bob ann", "learn")
        self.assertEqual(desk.live.family.facts, (("bob", "ann"),))
        self.assertEqual(len(desk.live), 1)
        self.refused(desk, "die ann", Refused, at=0)

    def test_errors(self):
        desk = begun()
        desk.say("die cid")
        self.refused(desk, "learn ann zoe", NoName, name="zoe")
        self.refused(desk, "learn dan eve", NoName, name="dan")
        self.refused(desk, "learn crown ann", NoName, name="crown")
        self.refused(desk, "learn ann ann", InvalidFamily, word="facts")
        self.refused(desk, "learn ann cid", Refused, at=1)
        desk.say("learn bob ann")
        self.refused(desk, "learn ann bob", InvalidFamily, word="ring")


class Asking(DeskTest):

    def test_held(self):
        desk = begun()
        for name, value in (("ann", "12"), ("bob", "0"), ("cid", "6"), ("dan", "0"), ("eve", "0"), ("crown", "0")):
            self.say(desk, f"held {name}", value)
        desk.say("die cid")
        self.say(desk, "held ann", "18")
        self.refused(desk, "held cid", NoName, name="cid")
        for name in ("zoe", "Crown", "0", "ann,", ";"):
            self.refused(desk, f"held {name}", NoName, name=name)

    def test_least_and_greatest(self):
        desk = begun()
        for name in ("dan", "eve", "crown"):
            self.say(desk, f"least {name}", str(least(FAMILY, name)[0]))
            self.say(desk, f"greatest {name}", str(greatest(FAMILY, name)[0]))
        for name in ("ann", "bob", "zoe", "least"):
            self.refused(desk, f"least {name}", NoName, name=name)
            self.refused(desk, f"greatest {name}", NoName, name=name)

    def test_fractions(self):
        desk = begun(PARTS)
        self.assertEqual((least(desk.live.family, "dan"), greatest(desk.live.family, "dan")), ((10, 3), (17, 3)))
        self.say(desk, "least dan", "10/3")
        self.say(desk, "greatest dan", "17/3")
        self.say(desk, "least crown", "7/3")

    def test_the_family_counts_with_the_facts_that_were_learnt(self):
        desk = begun()
        desk.say("learn ann cid")
        family = FAMILY.with_fact("ann", "cid")
        self.say(desk, "least eve", str(least(family, "eve")[0]))
        self.say(desk, "greatest dan", "12")
        desk.say("learn ann bob")
        self.say(desk, "settled", "crown dan eve")
        desk.say("undo")
        self.say(desk, "settled", "crown")

    def test_the_deaths_so_far_do_not_count(self):
        desk = begun()
        desk.say("die ann")
        self.say(desk, "greatest dan", "18")
        self.say(desk, "settled", "crown")
        self.refused(desk, "least ann", NoName, name="ann")

    def test_settled(self):
        self.assertEqual(settled(FAMILY), ("crown",))
        self.say(begun("family person zoe 3 ; person ann 0"), "settled", "ann crown zoe")
        desk = begun("family person a 1 ; person b 0 ; person x 0 ; will a 1 b > x ; will b 1")
        self.assertEqual(settled(desk.live.family), ())
        self.say(desk, "settled", "none")

    def test_nine_dead_people(self):
        for family in NINE:
            desk = begun("family " + str(family).replace("\n", " ; "))
            self.assertEqual(desk.live.family, family)
            self.say(desk, "settled", " ".join(settled(family)) or "none")
            above, below = greatest(family, "y")
            self.say(desk, "greatest y", f"{above}/{below}" if below > 1 else str(above))


class TakingBack(DeskTest):

    def test_undo(self):
        desk = begun()
        self.say(desk, "undo", "nothing")
        desk.say("die cid")
        desk.say("learn cid ann")
        self.say(desk, "undo", "undone")
        self.assertEqual((desk.live.order, desk.live.family.facts), (("cid",), ()))
        self.say(desk, "undo", "undone")
        self.assertEqual(desk.live.order, ())
        self.say(desk, "undo", "nothing")
        self.say(desk, "die bob", "nothing")

    def test_questions_are_no_changes(self):
        desk = begun()
        before = seen(desk)
        for command in ("held ann", "least dan", "greatest dan", "settled", "undo"):
            desk.say(command)
        self.assertEqual(seen(desk), before)

    def test_live_family_is_the_one_of_the_desk(self):
        desk = begun()
        desk.live.several(["cid", "ann"])
        self.say(desk, "held bob", "18")
        self.say(desk, "undo", "undone")
        self.say(desk, "held bob", "0")


class Invalid(DeskTest):

    def test_any_value_at_all(self):
        for desk in (Desk(), begun()):
            for value in odd_values() + [BEGIN.split(" "), ("die", "ann"), ["undo"], desk, desk.live, FAMILY]:
                self.refused(desk, value, InvalidCommand)

    def test_words_too_few_and_too_many(self):
        for desk in (Desk(), begun()):
            for command in ("family", "die", "die ann bob", "learn", "learn ann", "learn ann bob cid", "held",
                            "held ann bob", "least", "least dan eve", "greatest", "greatest dan eve", "settled dan",
                            "settled settled", "undo undo", "undo ann"):
                self.refused(desk, command, InvalidCommand)

    def test_other_words(self):
        for desk in (Desk(), begun()):
            for command in ("Die ann", "dies ann", "several ann", "alive", "order", "quit", "None", "0", "DIE ann",
                            "familyperson ann 1", "undo\t", "die\tann", "held,ann", "paid", "surely", "say undo"):
                self.refused(desk, command, InvalidCommand)

    def test_empty_words(self):
        for desk in (Desk(), begun()):
            for command in ("", " ", "  ", " undo", "undo ", "die  ann", " die ann", "die ann ", "die ", "learn ann  bob",
                            "settled ", "family ", "family  ", "family  person ann 1", "family person ann 1 ",
                            "family person  ann 1", "family person ann 1 ;  person bob 1", " " + BEGIN, BEGIN + " ",
                            "family person ann 1 ; "):
                self.refused(desk, command, InvalidCommand)

    def test_newlines(self):
        for desk in (Desk(), begun()):
            for command in ("\n", "undo\n", "\nundo", "die\nann", "die ann\n", "die an\nn", "family " + TEXT, BEGIN + "\n",
                            "family \n", "family person ann 1\n", "settled \n"):
                self.refused(desk, command, InvalidCommand)

    def test_before_there_is_a_family(self):
        desk = Desk()
        for command in ("die ann", "learn ann bob", "held ann", "held crown", "least dan", "greatest dan", "settled",
                        "undo"):
            self.refused(desk, command, InvalidCommand)
        self.refused(desk, "family x", InvalidText, at=0)
        self.refused(desk, "undo", InvalidCommand)

    def test_desk_goes_on(self):
        desk = begun()
        desk.say("die cid")
        self.refused(desk, "die cid die", InvalidCommand)
        self.refused(desk, "family person", InvalidText)
        self.say(desk, "held ann", "18")

    def test_apart(self):
        first, then = begun(), begun()
        first.say("die ann")
        self.assertEqual(seen(then), seen(begun()))

    def test_argument_by_name(self):
        self.assertEqual(Desk().say(command=BEGIN), "5")


if __name__ == "__main__":
    unittest.main()
