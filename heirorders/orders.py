"""Orders of the deaths in a family, and what is paid in them."""

from heirorders.basics import CROWN, ZERO, is_sequence, plus, times
from heirorders.errors import InvalidOrder


def is_order(family, value):
    """Tell whether any value at all is an order of the family."""
    return _wrong_at(family, value) is None


def paid(family, order):
    """Return what the living and the crown hold after all deaths in this order."""
    require_order(family, order)
    return at_once(family, [[name] for name in order])


def steps(family, order):
    """Return for each death, in this order, what is passed on to whom."""
    require_order(family, order)
    held = first_held(family)
    told = []
    for name in order:
        gifts = passed_on(family, held, [name])
        told.append(gifts)
        held = held_after(held, [name], gifts)
    return tuple(told)


def at_once(family, hours):
    """Return what the living and the crown hold after these hours, in each of which a group dies."""
    held = first_held(family)
    for group in hours:
        held = held_after(held, group, passed_on(family, held, group))
    return tuple([(name, held[name]) for name in (*family.living, CROWN)])


def require_order(family, value):
    """Raise InvalidOrder if any value at all is no order of the family."""
    at = _wrong_at(family, value)
    if at is not None:
        raise InvalidOrder(at)


def first_held(family):
    """Return what all people and the crown hold before the first death."""
    held = {name: (amount, 1) for name, amount in family.people}
    held[CROWN] = ZERO
    return held


def passed_on(family, held, group):
    """Return the ascending pairs (heir, value) of what these people leave if they die at the same time."""
    alive = [name for name in held if name != CROWN and name not in group]
    gifts = {}
    for name in group:
        # Who owns nothing leaves no amounts of 0 either.
        if held[name] != ZERO:
            for heir, part in family.will_of(name).heirs(alive):
                gifts[heir] = plus(gifts.get(heir, ZERO), times(held[name], part))
    return tuple(sorted(gifts.items()))


def held_after(held, group, gifts):
    """Return what is held when these people have died and left these gifts."""
    left = {name: value for name, value in held.items() if name not in group}
    for heir, value in gifts:
        left[heir] = plus(left[heir], value)
    return left


def is_early(facts, name, before):
    """Tell whether this person must die after somebody who is not among those before."""
    return any([then == name and first not in before for first, then in facts])


def _wrong_at(family, value):
    """Return the first place where any value at all shows that it is no order, or None if it is one."""
    if not is_sequence(value):
        return 0
    dead = family.dead
    for at, name in enumerate(value):
        before = value[:at]
        if name not in dead or name in before or is_early(family.facts, name, before):
            return at
    if len(value) < len(dead):
        return len(value)
    return None
