"""What holds in all orders that fit the facts."""

from heirorders.basics import CROWN, lowest
from heirorders.cases import bit_of, directed_cases, order_with, paid_in_all, pairs
from heirorders.errors import NoName
from heirorders.wills import first_reached


def least(family, name):
    """Return the least amount that this name is paid in any order."""
    _, parts, amounts = paid_to(family, name)
    return lowest(min(amounts), parts)


def greatest(family, name):
    """Return the greatest amount that this name is paid in any order."""
    _, parts, amounts = paid_to(family, name)
    return lowest(max(amounts), parts)


def least_order(family, name):
    """Return some order in which this name is paid its least amount."""
    found, _, amounts = paid_to(family, name)
    _, _, later = found[amounts.index(min(amounts))]
    return order_with(family.dead, later)


def greatest_order(family, name):
    """Return some order in which this name is paid its greatest amount."""
    found, _, amounts = paid_to(family, name)
    _, _, later = found[amounts.index(max(amounts))]
    return order_with(family.dead, later)


def settled(family):
    """Return the ascending names that are paid the same in all orders."""
    amounts = _amounts_of_names(family)
    return tuple(sorted([name for name in amounts if min(amounts[name]) == max(amounts[name])]))


def surely(family):
    """Return the ascending names that are paid something in all orders."""
    amounts = _amounts_of_names(family)
    return tuple(sorted([name for name in amounts if min(amounts[name]) > 0]))


def possibly(family):
    """Return the ascending names that are paid something in some order."""
    amounts = _amounts_of_names(family)
    return tuple(sorted([name for name in amounts if max(amounts[name]) > 0]))


def flips(family, name):
    """Return the pairs that matter of which one alone can change what this name is paid, and by how much."""
    found, parts, amounts = paid_to(family, name)
    by_bits = {bits: amount for (_, bits, _), amount in zip(found, amounts)}
    known = pairs(family)
    gaps = [(pair, _greatest_gap(by_bits, bit_of(known, at))) for at, pair in enumerate(known)]
    return tuple([(pair, lowest(gap, parts)) for pair, gap in gaps if gap > 0])


def idle(family):
    """Return the ascending triples (name, share, group) of the groups that never get their share."""
    dead, living, found = family.dead, family.living, directed_cases(family)
    triples = []
    for at, name in enumerate(dead):
        will = family.will_of(name)
        reached = _reached(will, dead, living, [later[at] for _, _, later in found])
        triples = triples + [(name, share, group) for share, (_, groups) in enumerate(will.shares)
                             for group in range(len(groups)) if (share, group) not in reached]
    return tuple(triples)


def require_name(family, name):
    """Raise NoName if any value at all is no living person and not the crown."""
    if name not in (*family.living, CROWN):
        raise NoName(name)


def paid_to(family, name):
    """Return what `directed` tells, how many parts make 1, and what this name is paid in each case, in parts."""
    require_name(family, name)
    found = directed_cases(family)
    parts, amounts = paid_in_all(family, found)
    return found, parts, amounts[name]


def _amounts_of_names(family):
    """Return for the living and the crown what they are paid in each case, in parts."""
    _, amounts = paid_in_all(family, directed_cases(family))
    return amounts


def _greatest_gap(amounts, bit):
    """Return the greatest difference of two amounts whose cases, told by their bits, differ in this bit alone, or 0."""
    # Where the facts or the other directions forbid to turn the pair, there is nothing to compare.
    gaps = [abs(amount - amounts[bits | bit]) for bits, amount in amounts.items()
            if not bits & bit and bits | bit in amounts]
    return max(gaps, default=0)


def _reached(will, dead, living, later):
    """Return a dict with the pairs (share, group) of the groups that get a share, given who died later in each case."""
    names, reached = will.names, {}
    named = sum([1 << at for at, heir in enumerate(dead) if heir in names])
    # As far as the will names them, the same people are alive in many cases.
    for bits in sorted({known & named for known in later}):
        alive = [*living, *[heir for at, heir in enumerate(dead) if bits >> at & 1]]
        for share, (_, groups) in enumerate(will.shares):
            reached[share, first_reached(groups, alive)] = True
    return reached
