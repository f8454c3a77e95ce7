"""Whoever follows: the least moment at which some follower can be dark, and a history that shows it."""

from neverdark.chains import ROOT
from neverdark.holding import is_before, spans
from neverdark.judge import (Darkness, all_held, fetch_steps, first_common, history_of, least_way, shared_ways,
                             told_of)
from neverdark.realms import lag_of


class Distrust(Darkness):
    """A way to be dark by keys of the root whose signer is not trusted by who looked at others before."""

    def __init__(self, moment, row, seen):
        super().__init__(moment, "anchor", ROOT, ((ROOT, row),))
        # The span of the other keys, and the moment from which on they are in mind no more, or None.
        self.seen = seen


def mind_spans(realm, state, plan, rhythm):
    """Return the spans of the keys of the root, each with the moment at which it is in mind no more, or None."""
    every, hold = rhythm
    longer = lag_of(realm, ROOT) + 2 * every + hold - 1
    rows = spans(realm, state, plan, ROOT)
    return [(item, begin, end, None if end is None else end + longer) for item, begin, end in rows]


def in_mind(realm, state, plan, rhythm, moment):
    """Return the list of the keys items of the root that are in mind at the moment."""
    rows = mind_spans(realm, state, plan, rhythm)
    return [item for item, begin, _, stop in rows if begin <= moment and is_before(moment, stop)]


def distrust_ways(rows, seen_rows):
    """Return the ways by held keys of the root whose signer is not among other ones that are in mind."""
    found = []
    for row in rows:
        for seen in seen_rows:
            moment = first_common(row, seen[1], seen[3])
            if moment is not None and row[0][2][0] not in seen[0][0]:
                found.append(Distrust(moment, row, seen))
    # Keys that were there before the moment itself go first: if no such keys make the follower
    # distrust those that come at the moment, then its look at these is not dark.
    return sorted(found, key=lambda way: (way.moment, way.seen[1]))


def first_follow_way(realm, state, plan, rhythm, end):
    """Return the way to be dark that comes first, or None if there is none up to the end."""
    held = all_held(realm, state, plan)
    ways = distrust_ways(held[ROOT], mind_spans(realm, state, plan, rhythm))
    return least_way(realm, ways + shared_ways(realm, state, plan, held), end)


def follow_judge(realm, state, plan, rhythm, end):
    """Return the least moment at which a follower is dark, with a word and a slot, or None up to the end."""
    return told_of(first_follow_way(realm, state, plan, rhythm, end))


def plain_looks(begin, stop, every):
    """Return looks after the moment `begin` and before `stop`, just often enough, with their picks."""
    return [(moment, ()) for moment in range(begin + every, stop, every)]


def waiting_looks(begin, stop, every, last):
    """Return looks from `begin` on, none after `last`, such that the follower may go on to `stop`."""
    found = [begin]
    while found[-1] + every < stop:
        found.append(min(found[-1] + every, last))
    return [(moment, ()) for moment in found]


def distrust_looks(way, rhythm, lag):
    """Return looks up to the moment of the way by which a follower does not trust the signer then."""
    every, hold = rhythm
    _, begin, end, _ = way.seen
    if begin == way.moment:
        return [*plain_looks(0, begin, every), (begin, ())]
    # The keys without the signer are seen as late as possible, and then a signer that begins to
    # wait is seen again at the latest just before it has waited for long enough.
    seen = min(way.moment - 1, end - 1 + lag)
    looks = [*plain_looks(0, seen, every), (seen, (max(0, seen - end + 1),))]
    if seen + every < way.moment:
        again = seen + every
        looks.extend(waiting_looks(again, way.moment, every, again + hold - 1))
    return looks


def looks_of(realm, way, rhythm):
    """Return the moments and picks of looks for the way."""
    if isinstance(way, Distrust):
        return distrust_looks(way, rhythm, lag_of(realm, ROOT))
    return plain_looks(0, way.moment, rhythm[0])


def follow_history(realm, state, plan, rhythm, end):
    """Return a history of a follower whose last answer is the first dark one, or None if there is none."""
    way = first_follow_way(realm, state, plan, rhythm, end)
    if way is None:
        return None
    steps = fetch_steps(realm, way)
    for moment, picks in looks_of(realm, way, rhythm):
        steps.append((moment, [("go", moment), ("look", picks)]))
    return history_of(realm, way, sorted(steps, key=lambda step: step[0]))
