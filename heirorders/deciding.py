"""What holds in all orders that fit the facts."""

from heirorders.basics import CROWN, ZERO, apart, is_less
from heirorders.cases import cases, order_of, paid_in, pairs
from heirorders.errors import NoName
from heirorders.wills import first_reached


def least(family, name):
    """Return the least amount that this name is paid in any order."""
    low, _ = _extremes(family, name)
    return low[1]


def greatest(family, name):
    """Return the greatest amount that this name is paid in any order."""
    _, high = _extremes(family, name)
    return high[1]


def least_order(family, name):
    """Return some order in which this name is paid its least amount."""
    low, _ = _extremes(family, name)
    return order_of(family, low[0])


def greatest_order(family, name):
    """Return some order in which this name is paid its greatest amount."""
    _, high = _extremes(family, name)
    return order_of(family, high[0])


def settled(family):
    """Return the ascending names that are paid the same in all orders."""
    amounts = _amounts_of_names(family)
    return tuple(sorted([name for name in amounts if amounts[name].count(amounts[name][0]) == len(amounts[name])]))


def surely(family):
    """Return the ascending names that are paid something in all orders."""
    amounts = _amounts_of_names(family)
    return tuple(sorted([name for name in amounts if ZERO not in amounts[name]]))


def possibly(family):
    """Return the ascending names that are paid something in some order."""
    amounts = _amounts_of_names(family)
    return tuple(sorted([name for name in amounts if amounts[name].count(ZERO) < len(amounts[name])]))


def flips(family, name):
    """Return the pairs that matter of which one alone can change what this name is paid, and by how much."""
    amounts = {case: amount for case, amount in amounts_in_cases(family, name)}
    gaps = [(pair, _greatest_gap(amounts, at)) for at, pair in enumerate(pairs(family))]
    return tuple([(pair, gap) for pair, gap in gaps if gap != ZERO])


def idle(family):
    """Return the ascending triples (name, share, group) of the groups that never get their share."""
    reached = {triple for case in cases(family) for triple in _reached_in(family, case)}
    groups = [(name, share, group) for name, will in family.wills
              for share, (_, told) in enumerate(will.shares) for group in range(len(told))]
    return tuple(sorted([triple for triple in groups if triple not in reached]))


def require_name(family, name):
    """Raise NoName if any value at all is no living person and not the crown."""
    if name not in (*family.living, CROWN):
        raise NoName(name)


def amounts_in_cases(family, name):
    """Return for each case, ascending, the pair of it and what this name is paid in it."""
    require_name(family, name)
    return tuple([(case, dict(paid_in(family, case))[name]) for case in cases(family)])


def _extremes(family, name):
    """Return a pair (case, amount) with the least amount and one with the greatest."""
    entries = amounts_in_cases(family, name)
    low = high = entries[0]
    for entry in entries:
        if is_less(entry[1], low[1]):
            low = entry
        if is_less(high[1], entry[1]):
            high = entry
    return low, high


def _amounts_of_names(family):
    """Return a dict from the living and the crown to the list of what they are paid in the cases."""
    amounts = {}
    for case in cases(family):
        for name, amount in paid_in(family, case):
            amounts.setdefault(name, []).append(amount)
    return amounts


def _greatest_gap(amounts, at):
    """Return the greatest difference of two amounts whose cases differ at this index alone, or 0."""
    best = ZERO
    for case, amount in amounts.items():
        # Where the facts or the other directions forbid to turn it, there is nothing to compare.
        gap = apart(amount, amounts.get(_turned(case, at), amount))
        if is_less(best, gap):
            best = gap
    return best


def _turned(case, at):
    """Return the case with the direction at this index turned; it need not be a case."""
    first, then = case[at]
    return (*case[:at], (then, first), *case[at + 1:])


def _reached_in(family, case):
    """Return the triples of the first groups in which somebody is alive, with None where there is none."""
    found = []
    for name, will in family.wills:
        alive = [*family.living, *[then for first, then in case if first == name]]
        for share, (_, groups) in enumerate(will.shares):
            found.append((name, share, first_reached(groups, alive)))
    return found
