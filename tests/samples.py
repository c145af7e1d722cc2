"""Values that several tests pass."""

from heirorders import errors
from heirorders.desk import Desk
from heirorders.families import Family
from heirorders.live import Live
from heirorders.wills import Will

LINES = ["person ann 12", "person bob 0", "person cid 6", "person dan 0", "person eve 0",
         "will ann 1 bob > dan", "will bob 1 eve", "will cid 1 ann > eve"]

TEXT = "\n".join(LINES)


def nested(value, depth, kind):
    """Return the value within so many lists or tuples."""
    for _ in range(depth):
        value = kind([value])
    return value


def odd_values(*right):
    """Return values of all kinds, nested up to eight deep, but not those that are right where they go."""
    will = Will([(1, [["bob"]])])
    family = Family([("ann", 1)])
    simple = [0, 1, -1, 10 ** 9, True, False, None, "", "crown", "Ann", "annabe", "a1", "zoe", " ann", "ann\n",
              "1 bob", "person ann 1", will, family, Live(family), Desk(), errors.NoName("ann"), errors.Mismatch()]
    short = [[], (), [None], (1,), ("ann",), ["ann"], ("ann", "bob", "cid"), ["ann", 1], ["ann", "bob"], [("ann",)],
             [("ann", "bob", "cid")], [["ann", 1]], [["ann", "bob"]], (will, family), [[], ()], ("ann", "ann"),
             (1, []), ("ann", None), (None, 1), (True, []), ("ann", True)]
    deep = [nested(value, 8, kind) for value in (1, "ann", None, True, will, family) for kind in (list, tuple)]
    mixed = [[(1, [will, ("bob", [True])]), (None, "ann")], ([[[["bob"]]]], ((((1,),),),))]
    known = [repr(value) for value in right]
    return [value for value in simple + short + deep + mixed if repr(value) not in known]


def nine_dead(pattern, facts=()):
    """Return a family of nine dead people; the pattern tells for each giver whom the will names."""
    lines = [f"person {name} {100 + 7 * at}" for at, name in enumerate("abcdefghi")]
    lines += ["person x 0", "person y 5", "person z 0"]
    for at, name in enumerate("abcdefghi"):
        parts = [f"{2 + at % 3} {heir}{'+x' * (at % 2)} > y" for heir in pattern.get(name, "")]
        lines.append(f"will {name} " + " | ".join([*parts, f"{1 + at % 4} {'xyz'[at % 3]}"]))
    lines += [f"first {first} {then}" for first, then in facts]
    return Family.read("\n".join(lines))


# A row, a star of two middles, rings, and a row that eight facts all but fix.
NINE = [nine_dead({a: b for a, b in zip("abcdefgh", "bcdefghi")}),
        nine_dead({"a": "bcd", "e": "afg", "h": "ei"}),
        nine_dead({"a": "b", "b": "c", "c": "da", "d": "a", "e": "f", "g": "h", "i": "g"}),
        nine_dead({a: b for a, b in zip("abcdefgh", "bcdefghi")}, ["ab", "bc", "ed", "fe", "cf", "cf", "gh", "ai"])]
