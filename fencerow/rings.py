"""Rings among moments, and ways where there is none."""

from fencerow.orders import moments_of, said
from fencerow.states import begun, is_over
from fencerow.steps import stepped


def ring_of(program, seen, waits=True):
    """A list of moments, each ahead of the next one and the last one ahead of the first, or None; BadSeen."""
    ahead = moments_ahead(program, seen, waits)
    ordered = in_order(ahead)
    left = [moment for moment in ahead if moment not in ordered]
    return ring_among(left, ahead) if left != [] else None


def way_of(program, seen, waits=True):
    """A way that comes to a state that is over and has seen just this, or None; BadSeen."""
    ahead = moments_ahead(program, seen, waits)
    ordered = in_order(ahead)
    if len(ordered) < len(ahead) or not goes_by_skips(program, ordered, waits):
        return None
    return [choice_at(moment) for moment in ordered]


def moments_ahead(program, seen, waits):
    """Each moment, rising, with the list of those that are said to come ahead of it."""
    sayings = said(program, seen, waits)
    ahead = dict([(moment, []) for moment in moments_of(program, seen, waits)])
    for word, moment, later in sayings:
        ahead[later].append(moment)
    return ahead


def in_order(ahead):
    """The moments, each behind all that come ahead of it; those of rings, and behind them, are left out."""
    ordered = {}
    ready = ready_now(ahead, ordered)
    while ready != []:
        for moment in ready:
            ordered[moment] = True
        ready = ready_now(ahead, ordered)
    return list(ordered)


def ready_now(ahead, ordered):
    """The moments that are not ordered yet, while all that come ahead of them are."""
    left = [moment for moment in ahead if moment not in ordered]
    return [moment for moment in left if all([earlier in ordered for earlier in ahead[moment]])]


def ring_among(left, ahead):
    """A ring of these, each of which has one of them ahead: going there again and again comes round."""
    gone = []
    moment = left[0]
    while moment not in gone:
        gone.append(moment)
        moment = [earlier for earlier in ahead[moment] if earlier in left][0]
    return list(reversed(gone[gone.index(moment):]))


def goes_by_skips(program, moments, waits):
    """Whether the machine, led by the moments, does just their rows: its skips go by its numbers."""
    state = begun(program)
    for moment in moments:
        if moment[2] == 0 and state[1][moment[0]][0] != moment[1]:
            return False
        state = stepped(program, state, choice_at(moment), waits)
    return is_over(program, state)


def choice_at(moment):
    """The choice that is done at the moment."""
    return 2 * moment[0] + moment[2]
