"""Comparing what two families pay in the orders that both of them have."""

from heirorders.cases import Payer, directed, order_with, pairs
from heirorders.errors import Mismatch


def alike(p, q):
    """Tell whether two families pay the same in each order of both."""
    return parting(p, q) is None


def parting(p, q):
    """Return some order of both families in which they do not pay the same, or None."""
    if p.living != q.living or p.dead != q.dead:
        raise Mismatch()
    one, other = Payer(p), Payer(q)
    # What a family pays depends on its own pairs that matter alone, so what both pay depends on all of these.
    known = sorted({(a, b) for a, b in pairs(p) + pairs(q)})
    for _, _, later in directed(p.dead, p.facts + q.facts, known):
        if _in_parts(one.pay(later), other.parts) != _in_parts(other.pay(later), one.parts):
            return order_with(p.dead, later)
    return None


def _in_parts(amounts, parts):
    """Return the amounts in parts of which so many make one."""
    return [amount * parts for amount in amounts]
