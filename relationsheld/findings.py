"""What shows over many inputs: ways that hold, conditions, slack, one relation against another.

Pairs are the left and the right side at each input at which a relation isn't off.
"""

from relationsheld.relations import BROKEN, KEPT, WAYS, Relation, as_long, is_so, judged, stands

# The conditions that are looked at in the place of a relation's own one, each with its k.
LOOKED_AT = ((0, 0), (1, 0), (2, 0), (3, 0), (4, 0), (5, 2), (5, 3))

# The other ways that follow from a way; none from those that aren't here.
FOLLOWING = {
    0: (1, 2, 3, 4, 5, 6),
    1: (2, 6),
    3: (6,),
    4: (6,),
}


def all_verdicts(program, relation, rows):
    return [judged(program, relation, row)[0] for row in rows]


def all_pairs(program, relation, rows):
    seen = [judged(program, relation, row)[1] for row in rows]
    return [pair for pair in seen if pair is not None]


def holds(way, pairs):
    return all([stands(way, pair[0], pair[1]) for pair in pairs])


def ways_that_hold(pairs):
    return [way for way in range(len(WAYS)) if holds(way, pairs)]


def strongest(ways):
    weaker = []
    for way in ways:
        weaker.extend(FOLLOWING.get(way, ()))
    return [way for way in ways if way not in weaker]


def kept_and_broken(condition, rows, verdicts):
    so = [verdict for row, verdict in zip(rows, verdicts) if is_so(condition, row)]
    return (so.count(KEPT), so.count(BROKEN))


# For each condition looked at, at how many inputs the relation is kept and at how many broken.
# Whether a run is beyond doesn't depend on the condition, so each input is judged but once.
def under_conditions(program, relation, rows):
    free = Relation(LOOKED_AT[0], relation.before, relation.way, relation.after)
    verdicts = all_verdicts(program, free, rows)
    return [kept_and_broken(condition, rows, verdicts) for condition in LOOKED_AT]


# The first condition under which the relation is kept somewhere and broken nowhere; None if none.
def first_cut(program, relation, rows):
    for condition, counts in zip(LOOKED_AT, under_conditions(program, relation, rows)):
        if counts[0] > 0 and counts[1] == 0:
            return condition
    return None


# The least and the greatest difference; None if there's no slack.
def slack(pairs):
    found = []
    for pair in pairs:
        if not as_long(pair[0], pair[1]):
            return None
        found.extend([left - right for left, right in zip(pair[0], pair[1])])
    return (min(found), max(found)) if found else None


# At how many inputs both are kept; the first one kept, the second one broken; the first one
# broken, the second one kept; both broken.
def counts_against(program, first, second, rows):
    verdicts = list(zip(all_verdicts(program, first, rows), all_verdicts(program, second, rows)))
    counted = ((KEPT, KEPT), (KEPT, BROKEN), (BROKEN, KEPT), (BROKEN, BROKEN))
    return [verdicts.count(both) for both in counted]
