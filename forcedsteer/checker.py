"""The checker: whether a certificate shows a claim, whoever made it."""

from forcedsteer.barring import is_bar, is_fort
from forcedsteer.checks import check_leaders, check_state, check_strengths
from forcedsteer.days import steers
from forcedsteer.errors import WrongValue
from forcedsteer.exact import are_fractions
from forcedsteer.forcing import are_forces
from forcedsteer.states import next_state
from forcedsteer.works import Works


def _shows_always(works, told, certificate):
    """Whether these are forces behind which all parts are known."""
    # Each force makes known one part more.
    leaders = told[0]
    return are_forces(works, leaders, certificate) and len(leaders) + len(certificate) == len(works)


def _shows_not_always(works, told, certificate):
    """Whether this is a pair of strengths and a bar."""
    if not isinstance(certificate, tuple) or len(certificate) != 2:
        return False
    strengths, bar = certificate
    return is_bar(works, strengths, told[0], bar)


def _shows_sometimes(works, told, certificate):
    """Whether these are strengths with which the leaders steer the works."""
    return steers(works, certificate, told[0])


def _shows_fort(works, told, certificate):
    """Whether the parts are a fort, and the certificate is empty."""
    return is_fort(works, told[0]) and isinstance(certificate, tuple) and len(certificate) == 0


def _shows_leads(works, told, certificate):
    """Whether these are pushes that lead from the one state to the other one, in however many days."""
    strengths, leaders, first, last = told
    check_strengths(works, strengths)
    check_leaders(works, leaders)
    check_state(works, first)
    check_state(works, last)
    if not isinstance(certificate, tuple) or not all([are_fractions(push, len(leaders)) for push in certificate]):
        return False
    state = first
    for push in certificate:
        state = next_state(works, strengths, leaders, state, push)
    return state == last


_KINDS = {
    "always": _shows_always, "not always": _shows_not_always, "sometimes": _shows_sometimes, "fort": _shows_fort,
    "leads": _shows_leads,
}


def accepts(claim, certificate):
    """Whether any values are a claim for the checker and a certificate for it."""
    if not isinstance(claim, tuple) or len(claim) < 2:
        return False
    word, text, *told = claim
    if not isinstance(word, str) or word not in _KINDS or len(told) != (4 if word == "leads" else 1):
        return False
    shows = _KINDS[word]
    try:
        return shows(Works.read(text), told, certificate)
    except WrongValue:
        # The functions that are asked look at all that the claim tells.
        return False
