"""Cases: who died first in each of the pairs that matter."""

from heirorders.basics import line_up
from heirorders.errors import InvalidCase
from heirorders.orders import paid, require_order


def pairs(family):
    """Return the ascending pairs of dead people of whom one is named by the will of the other."""
    dead = family.dead
    named = [sorted([name, heir]) for name, will in family.wills for heir in will.names if heir in dead]
    return tuple(sorted({(a, b) for a, b in named}))


def case_of(family, order):
    """Return the case of this order."""
    require_order(family, order)
    return tuple([(a, b) if order.index(a) < order.index(b) else (b, a) for a, b in pairs(family)])


def cases(family):
    """Return the ascending cases of all orders."""
    return tuple(open_ways(family.dead, family.facts, pairs(family)))


def is_case(family, value):
    """Tell whether any value at all is the case of some order."""
    known = pairs(family)
    if not isinstance(value, tuple) or len(value) != len(known):
        return False
    if not all([way in ((a, b), (b, a)) for way, (a, b) in zip(value, known)]):
        return False
    return _lined_up(family, value) is not None


def order_of(family, case):
    """Return some order with this case."""
    if not is_case(family, case):
        raise InvalidCase()
    return tuple(_lined_up(family, case))


def paid_in(family, case):
    """Return what the living and the crown are paid in this case."""
    return paid(family, order_of(family, case))


def open_ways(dead, facts, known):
    """Return the ascending tuples of one direction for each of the known pairs that make no ring with the facts."""
    found = [()] if line_up(dead, facts) is not None else []
    # They stay ascending, since (a, b) comes before (b, a). A beginning without a ring can
    # always be continued, so no more beginnings are kept than there are tuples in the end.
    for a, b in known:
        longer = [(*ways, way) for ways in found for way in ((a, b), (b, a))]
        found = [ways for ways in longer if line_up(dead, facts + ways) is not None]
    return found


def _lined_up(family, ways):
    """Return the dead in an order that keeps the facts and these directions, or None if there is a ring."""
    return line_up(family.dead, family.facts + ways)
