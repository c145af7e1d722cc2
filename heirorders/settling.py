"""Which further facts settle an amount, and what the paid amounts tell about the order."""

from heirorders.basics import as_pair
from heirorders.cases import bit_of, directed_cases, paid_in_all, pairs
from heirorders.deciding import paid_to, require_name


def settlers(family, name):
    """Return the least sets of at most two further facts with which this name is paid the same in all orders."""
    found, _, amounts = paid_to(family, name)
    entries = [(bits, amount) for (_, bits, _), amount in zip(found, amounts)]
    if _are_settled(entries):
        return ((),)
    single = []
    left = []
    for fact, bit, digit in _ways(pairs(family)):
        kept = _kept(entries, bit, digit)
        if _are_settled(kept):
            single.append((fact,))
        elif kept:
            # Only a fact that is possible, but not enough, can be one of two.
            left.append((fact, bit, digit, kept))
    return tuple(sorted(single) + sorted(_settling_couples(left)))


def cases_for(family, amounts):
    """Return the ascending cases in which exactly these amounts are paid to these names."""
    for name, _ in amounts:
        require_name(family, name)
    found = directed_cases(family)
    parts, paid = paid_in_all(family, found)
    left = list(range(len(found)))
    for name, value in amounts:
        above, below = as_pair(value)
        left = [at for at in left if paid[name][at] * below == above * parts]
    return tuple([found[at][0] for at in left])


def sure_facts(family, amounts):
    """Return the ascending directions that all cases with these amounts have."""
    found = cases_for(family, amounts)
    if not found:
        return ()
    return tuple(sorted([way for at, way in enumerate(found[0]) if all([case[at] == way for case in found])]))


def _ways(known):
    """Return both directions of all known pairs, each with the bit of the pair and what is there of it."""
    found = []
    for at, (a, b) in enumerate(known):
        bit = bit_of(known, at)
        found = found + [((a, b), bit, 0), ((b, a), bit, bit)]
    return found


def _kept(entries, bit, digit):
    """Return those entries whose bits have just this of this bit."""
    return [(bits, amount) for bits, amount in entries if bits & bit == digit]


def _are_settled(entries):
    """Tell whether there are entries, and all of them have the same amount."""
    return len({amount for _, amount in entries}) == 1


def _settling_couples(left):
    """Return which two of these facts, each with what `_ways` tells and the entries that it leaves, are enough."""
    found = []
    for at, (fact, _, _, kept) in enumerate(left):
        for other, bit, digit, _ in left[at + 1:]:
            if _are_settled(_kept(kept, bit, digit)):
                found.append(tuple(sorted((fact, other))))
    return found
