"""What the document says of claims and certificates, word by word, and bent values, for the tests of the checker."""

import re

import plain
from forcedsteer.works import Works
from strange import Agreeing, Hostile

NAME = "[a-z][a-z0-9]{0,7}"


def read(text):
    """The works with this text; None if it is the text of none."""
    if type(text) is not str:
        return None
    first, *rest = text.split("\n")
    if not re.fullmatch(f"{NAME}( {NAME}){{0,7}}", first):
        return None
    if not all(re.fullmatch(f"{NAME} > {NAME}", line) for line in rest):
        return None
    parts, ties = tuple(first.split(" ")), tuple(tuple(line.split(" > ")) for line in rest)
    wrong = [tie for tie in ties if tie[0] == tie[1] or not set(tie) <= set(parts)]
    if wrong or len(set(parts)) < len(parts) or len(set(ties)) < len(ties):
        return None
    return Works(parts, ties)


def is_tuple(value, many):
    return type(value) is tuple and len(value) == many


def is_lot(works, value):
    """Whether a value is leaders of these works."""
    if type(value) is not tuple or not all(type(part) is str for part in value):
        return False
    return set(value) <= set(works.parts) and len(set(value)) == len(value)


def shows_always(works, rest, paper):
    (lot,) = rest
    if not is_lot(works, lot) or type(paper) is not tuple:
        return False
    for force in paper:
        if not is_tuple(force, 2) or not is_lot(works, force):
            return False
    sure = set(lot) | {other for _, other in paper}
    return plain.are_forces(works, lot, paper) and sure == set(works.parts)


def shows_not_always(works, rest, paper):
    (lot,) = rest
    if not is_lot(works, lot) or not is_tuple(paper, 2):
        return False
    strengths, bar = paper
    if not plain.are_strengths(works, strengths) or not is_tuple(bar, 2):
        return False
    row, ratio = bar
    if not is_tuple(row, len(works.parts)) or not all(type(number) is int for number in (*row, ratio)):
        return False
    return plain.is_bar(works, strengths, lot, bar)


def shows_sometimes(works, rest, paper):
    (lot,) = rest
    return is_lot(works, lot) and plain.are_strengths(works, paper) and plain.steers(works, paper, lot)


def shows_fort(works, rest, paper):
    (parts,) = rest
    return is_lot(works, parts) and plain.is_fort(works, parts) and is_tuple(paper, 0)


def shows_leads(works, rest, paper):
    strengths, lot, first, last = rest
    many = len(works.parts)
    if not plain.are_strengths(works, strengths) or not is_lot(works, lot):
        return False
    if not plain.are_fractions(first, many) or not plain.are_fractions(last, many) or type(paper) is not tuple:
        return False
    if not all(plain.are_fractions(push, len(lot)) for push in paper):
        return False
    return plain.after(works, strengths, lot, first, paper) == last


KINDS = {"always": shows_always, "not always": shows_not_always, "sometimes": shows_sometimes, "fort": shows_fort,
         "leads": shows_leads}


def accepts(claim, paper):
    """Whether this is a claim for the checker and a certificate for it, by the words of the document."""
    if type(claim) is not tuple or len(claim) < 1 or type(claim[0]) is not str or claim[0] not in KINDS:
        return False
    if len(claim) != (6 if claim[0] == "leads" else 3) or read(claim[1]) is None:
        return False
    return KINDS[claim[0]](read(claim[1]), claim[2:], paper)


def bent_string(text):
    found = [text + " ", " " + text, text + "\n", text[:-1], text.upper(), text + text, "zz", "", text.encode(),
             text.replace("\n", " ", 1), text.replace(" > ", ">", 1), text.replace("\n", "\n\n", 1)]
    return [*found, *KINDS, list(text), (text,)]


def bent(value):
    """Values that differ from this one at one place, at any depth."""
    found = [None, Hostile(), Agreeing(), [value], (value,), {}]
    if type(value) is str:
        return found + bent_string(value)
    if type(value) is int:
        number = [value + 1, value - 1, -value, 2 * value, value + 10 ** 79, bool(value), not value, str(value)]
        return found + number
    if type(value) is not tuple:
        return found
    found += [list(value), value + value[:1], value[1:], value[:-1], value[::-1], value * 2, value + (None,),
              value + ((),)]
    for at, inner in enumerate(value):
        found += [value[:at] + (other,) + value[at + 1:] for other in bent(inner)]
        found += [value[:at] + value[at + 1:], value[:at] + (inner,) + value[at:]]
    return found
