"""Comparing what two families pay in the orders that both of them have."""

from heirorders.basics import line_up
from heirorders.cases import open_ways, pairs
from heirorders.errors import Mismatch
from heirorders.orders import paid


def alike(p, q):
    """Tell whether two families pay the same in each order of both."""
    return parting(p, q) is None


def parting(p, q):
    """Return some order of both families in which they do not pay the same, or None."""
    if p.living != q.living or p.dead != q.dead:
        raise Mismatch()
    facts = p.facts + q.facts
    # What a family pays depends only on its own pairs that matter, so both depend on these together.
    known = sorted({(a, b) for a, b in pairs(p) + pairs(q)})
    for ways in open_ways(p.dead, facts, known):
        order = tuple(line_up(p.dead, facts + ways))
        if paid(p, order) != paid(q, order):
            return order
    return None
