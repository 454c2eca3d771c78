"""Point 13 reckoned a second way, over plain programs alone: each row is followed by where it first stood."""

from programs import FENCE
from second import outcomes_met


def bare_told(told):
    return (told[0], tuple(tuple(without_fences(rows)) for rows in told[1]))


def without_fences(rows):
    end = len(rows)
    kept = [at for at, row in enumerate(rows) if row != FENCE] + [end]
    for now, at in enumerate(kept[:-1]):
        word, *parts = rows[at]
        if word == "skip":
            lands = min(other for other in kept if other >= min(at + 1 + parts[1], end))
            parts[1] = kept.index(lands) - now - 1
        yield (word, *parts)


def fenced_told(told, places):
    base = bare_told(told)
    return (base[0], tuple(tuple(with_fences(rows, thread, places)) for thread, rows in enumerate(base[1])))


def with_fences(rows, thread, places):
    marks = []
    for at in range(len(rows)):
        marks += [("fence", at)] * ((thread, at) in places) + [("row", at)]
    marks.append(("row", len(rows)))
    for now, (kind, at) in enumerate(marks[:-1]):
        if kind == "fence":
            yield FENCE
            continue
        word, *parts = rows[at]
        if word == "skip":
            lands = at + 1 + parts[1]
            mark = ("fence", lands) if ("fence", lands) in marks else ("row", lands)
            parts[1] = marks.index(mark) - now - 1
        yield (word, *parts)


def chosen_at_first(base):
    """The places between a put and a get of its thread, each found from such a pair."""
    found = set()
    for thread, rows in enumerate(base[1]):
        for first, put in enumerate(rows):
            for last, get in enumerate(rows):
                if put[0] == "put" and get[0] == "get":
                    found |= {(thread, at) for at in range(first + 1, last + 1)}
    return sorted(found)


def places_left(told):
    """The places that are left, None where that is too much."""
    base = bare_told(told)
    plain = outcomes_met(base, False)
    if plain is None:
        return None
    spared = []
    places = chosen_at_first(base)
    for place in places:
        found = outcomes_met(fenced_told(base, [other for other in places if other not in spared + [place]]), True)
        if found is None:
            return None
        if found <= plain:
            spared.append(place)
    return [place for place in places if place not in spared]


def outcome_back(told, places, place):
    """The least outcome that comes back without this place, None without any; "TooMuch" where that is too much."""
    plain = outcomes_met(bare_told(told), False)
    found = outcomes_met(fenced_told(told, [other for other in places if other != place]), True)
    if plain is None or found is None:
        return "TooMuch"
    return min(found - plain, default=None)
