"""Cases: who died first in each of the pairs that matter."""

from math import factorial

from heirorders.basics import CROWN, line_up
from heirorders.errors import InvalidCase
from heirorders.orders import paid, require_order


def pairs(family):
    """Return the ascending pairs of dead people of whom one is named by the will of the other."""
    dead = family.dead
    return tuple(sorted({(name, heir) if name < heir else (heir, name)
                         for name, will in family.wills for heir in will.names if heir in dead}))


def case_of(family, order):
    """Return the case of this order."""
    require_order(family, order)
    return tuple([(a, b) if order.index(a) < order.index(b) else (b, a) for a, b in pairs(family)])


def cases(family):
    """Return the ascending cases of all orders."""
    known = pairs(family)
    if not known:
        # Then there is nothing to direct, whatever the facts are.
        return ((),)
    return tuple([case for case, _, _ in directed(family.dead, family.facts, known)])


def is_case(family, value):
    """Tell whether any value at all is the case of some order."""
    known = pairs(family)
    return is_about(known, value) and _lined_up(family, value) is not None


def order_of(family, case):
    """Return some order with this case."""
    if not is_case(family, case):
        raise InvalidCase()
    return tuple(_lined_up(family, case))


def paid_in(family, case):
    """Return what the living and the crown are paid in this case."""
    return paid(family, order_of(family, case))


def is_about(known, value):
    """Tell whether any value at all has one direction for each of the known pairs, in their order."""
    if not isinstance(value, tuple) or len(value) != len(known):
        return False
    return all([way == pair or way == pair[::-1] for way, pair in zip(value, known)])


def directed_cases(family):
    """Return what `directed` tells of all cases of a family."""
    return directed(family.dead, family.facts, pairs(family))


def directed(dead, facts, known):
    """Return ascending triples (ways, bits, later) for all ways to direct the known pairs without a ring.

    The bits of those pairs that are turned around are set in `bits` (see `bit_of`). In `later`, a list, each of the
    dead has a number in which the own bit is set, and those of all who must have died later.
    """
    places = {name: at for at, name in enumerate(dead)}
    later = [1 << at for at in range(len(dead))]
    for first, then in facts:
        if later[places[then]] >> places[first] & 1:
            return []
        later = _with_way(later, places[first], places[then])
    found = [((), 0, later)]
    # A beginning without a ring can always be continued, so no more of them are kept than there are in the end.
    for pair in known:
        found = _with_pair(found, pair, places)
    return found


def bit_of(known, at):
    """Return the bit of the known pair at this index; the first pair has the highest one."""
    return 1 << (len(known) - 1 - at)


def order_with(dead, later):
    """Return the dead in an order for which `directed` tells who died later."""
    return tuple([dead[at] for at in _by_death(later)])


def paid_in_all(family, found):
    """Return how many parts make 1, and what the living and the crown are paid in each of these cases, in parts."""
    payer = Payer(family)
    rows = [payer.pay(later) for _, _, later in found]
    return payer.parts, dict(zip(payer.payees, list(zip(*rows))))


class Payer:
    """Pays out a family in one case after the other, in parts of 1 so small that they never have to be broken."""

    def __init__(self, family):
        dead, living = family.dead, family.living
        amounts, wills = dict(family.people), dict(family.wills)
        self.payees = (*living, CROWN)
        self.parts = 1
        self._places = {name: at for at, name in enumerate((*dead, *living, CROWN))}
        self._living = self._bits(living)
        self._wills = []
        for name in dead:
            will = wills[name]
            # Nobody dies twice, so what somebody gets was divided by each will at most once.
            self.parts = self.parts * _parts_of(will)
            # Many cases share the same heirs: who they are depends only on those dead people whom the will names.
            self._wills.append((self._bits(will.names), self._shares(will), {}))
        self._first = [*[amounts[name] * self.parts for name in (*dead, *living)], 0]

    def pay(self, later):
        """Return what the living, and then the crown, are paid where `directed` tells who died later, in parts."""
        held = list(self._first)
        for giver in _by_death(later):
            estate = held[giver]
            if estate:
                named, shares, heirs = self._wills[giver]
                alive = later[giver] & named
                if alive not in heirs:
                    heirs[alive] = _heirs(shares, alive | self._living, len(held) - 1)
                for heir, above, below in heirs[alive]:
                    held[heir] += estate * above // below
        return held[len(later):]

    def _bits(self, names):
        """Return the number in which just the bits of these people are set."""
        return sum([1 << self._places[name] for name in names])

    def _shares(self, will):
        """Return the shares of a will as triples (groups of places, weight, sum of all weights)."""
        total = sum([weight for weight, _ in will.shares])
        return [([[self._places[name] for name in group] for group in groups], weight, total)
                for weight, groups in will.shares]


def _heirs(shares, alive, crown):
    """Return the places of the heirs, with their fractions, if just those whose bits are set are alive."""
    heirs = []
    for groups, weight, total in shares:
        takers = [crown]
        for group in reversed(groups):
            takers = [heir for heir in group if alive >> heir & 1] or takers
        heirs = heirs + [(heir, weight, total * len(takers)) for heir in takers]
    return heirs


def _parts_of(will):
    """Return into how many parts an estate is divided so that each heir of this will gets some of them whole."""
    sizes = [len(group) for _, groups in will.shares for group in groups]
    return sum([weight for weight, _ in will.shares]) * factorial(max(sizes, default=1))


def _by_death(later):
    """Return the places of the dead in an order for which `directed` tells who died later."""
    # All who died later than somebody who died later are set for both, and more for the one who died first.
    return sorted(range(len(later)), key=lambda at: later[at], reverse=True)


def _with_pair(found, pair, places):
    """Return what `directed` tells with one more pair at the end."""
    a, b = pair
    first, then = places[a], places[b]
    longer = []
    for ways, bits, later in found:
        if not later[then] >> first & 1:
            longer.append(((*ways, pair), 2 * bits, _with_way(later, first, then)))
        if not later[first] >> then & 1:
            longer.append(((*ways, (b, a)), 2 * bits + 1, _with_way(later, then, first)))
    return longer


def _with_way(later, first, then):
    """Return who died later if this one also died before that one."""
    gained = later[then]
    return [known | gained if known >> first & 1 else known for known in later]


def _lined_up(family, ways):
    """Return the dead in an order that keeps the facts and these directions, or None if there is a ring."""
    return line_up(family.dead, family.facts + ways)
