"""Which further facts settle an amount, and what the paid amounts tell about the order."""

from heirorders.basics import as_pair, lowest
from heirorders.cases import cases, paid_in, pairs
from heirorders.deciding import amounts_in_cases, require_name


def settlers(family, name):
    """Return the least sets of at most two further facts with which this name is paid the same in all orders."""
    entries = amounts_in_cases(family, name)
    if _are_settled(entries):
        return ((),)
    single = []
    left = []
    for at, (a, b) in enumerate(pairs(family)):
        for fact in ((a, b), (b, a)):
            kept = _kept(entries, at, fact)
            if _are_settled(kept):
                single.append((fact,))
            elif kept:
                # Only a fact that is possible, but not enough, can be one of two.
                left.append((at, fact, kept))
    return tuple(sorted(single) + sorted(_settling_couples(left)))


def cases_for(family, amounts):
    """Return the ascending cases in which exactly these amounts are paid to these names."""
    for name, _ in amounts:
        require_name(family, name)
    wanted = [(name, _lowest_value(value)) for name, value in amounts]
    return tuple([case for case in cases(family) if _pays(dict(paid_in(family, case)), wanted)])


def sure_facts(family, amounts):
    """Return the ascending directions that all cases with these amounts have."""
    found = cases_for(family, amounts)
    if not found:
        return ()
    return tuple(sorted([way for at, way in enumerate(found[0]) if all([case[at] == way for case in found])]))


def _kept(entries, at, fact):
    """Return those entries whose case has this direction at this index."""
    return [(case, amount) for case, amount in entries if case[at] == fact]


def _are_settled(entries):
    """Tell whether there are entries, and all of them have the same amount."""
    return len({amount for _, amount in entries}) == 1


def _settling_couples(left):
    """Return which two of these facts, each with its index and the entries that it leaves, settle the amount."""
    found = []
    for place, (_, fact, kept) in enumerate(left):
        for at, other, _ in left[place + 1:]:
            if _are_settled(_kept(kept, at, other)):
                found.append(tuple(sorted((fact, other))))
    return found


def _lowest_value(value):
    """Return a value as a pair in lowest terms."""
    above, below = as_pair(value)
    return lowest(above, below)


def _pays(paid, wanted):
    """Tell whether these names are paid exactly the wanted amounts."""
    return all([paid[name] == value for name, value in wanted])
