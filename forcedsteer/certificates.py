"""Certificates: answers as claims, each with what shows the checker that it is true."""

from forcedsteer.barring import barred
from forcedsteer.days import lead
from forcedsteer.forcing import forces, known
from forcedsteer.some import good_strengths


def certify_leaders(works, leaders):
    """That the leaders always steer the works, with forces, or that they do not, with strengths and a bar."""
    paper = barred(works, leaders)
    if paper is None:
        return ("always", str(works), leaders), forces(works, leaders)
    return ("not always", str(works), leaders), paper


def certify_some(works, leaders):
    """That the leaders steer the works with some strengths, with such; None if they do not."""
    strengths = good_strengths(works, leaders)
    if strengths is None:
        return None
    return ("sometimes", str(works), leaders), strengths


def certify_fort(works, leaders):
    """That the parts that do not become known are a fort; None if there are none."""
    sure = known(works, leaders)
    parts = tuple([part for part in works.parts if part not in sure])
    if len(parts) == 0:
        return None
    return ("fort", str(works), parts), ()


def certify_lead(works, strengths, leaders, first, last, many):
    """That some pushes lead from the first state to the last one, with so many."""
    pushes = lead(works, strengths, leaders, first, last, many)
    return ("leads", str(works), strengths, leaders, first, last), pushes
