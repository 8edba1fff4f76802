"""States: how one follows on another one."""

from forcedsteer.exact import NOUGHT, plus, weighed


def spread(works, leaders, push):
    """The push as a fraction for each part, 0 for parts that are no leaders."""
    outside = dict(zip(leaders, push))
    return [outside.get(part, NOUGHT) for part in works.parts]


def next_state(works, strengths, leaders, state, push):
    """The state after a day with this push."""
    outside = spread(works, leaders, push)
    return tuple([plus(weighed(row, state), pushed) for row, pushed in zip(strengths, outside)])
