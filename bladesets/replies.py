"""What each call answers: a list whose first number is the answer, or the refusal alone."""

from bladesets.evening import how_far_off, shortfall
from bladesets.refusals import FULL, NONE_LEFT, NOT_EVEN, NOT_FREE, NOT_STARTED, NO_SUCH, TOO_MUCH, WRONG

GREATEST_MOST = 10000
GREATEST_UNIT = 1000
GREATEST_KIND = 3
GREATEST_MOMENT = 100000
BLADES_AT_MOST = 20

START = 0

# How many numbers stand behind each call's own, from start to state.
COUNTS = (2, 2, 2, 1, 3, 3, 3, 1, 1, 2, 2, 3, 1, 1, 1, 2, 1, 1, 1, 1, 0, 0)


def is_moment(moment):
    return 1 <= moment <= GREATEST_MOMENT


def reply_start(works, numbers):
    most = numbers[0]
    unit = numbers[1]
    if most > GREATEST_MOST or not 1 <= unit <= GREATEST_UNIT:
        return [WRONG]
    works.begin(most, unit)
    return [0]


def reply_blade(works, numbers):
    kind = numbers[0]
    moment = numbers[1]
    if kind > GREATEST_KIND or not is_moment(moment):
        return [WRONG]
    if len(works.blades) >= BLADES_AT_MOST:
        return [FULL]
    return [works.take_in(kind, moment)]


def refusal_unless_free(works, i):
    """Why blade i can't be weighed or scrapped; 0 if it can."""
    if not works.has_blades([i]):
        return NO_SUCH
    if not works.blades[i].is_free():
        return NOT_FREE
    return 0


def reply_weigh(works, numbers):
    i = numbers[0]
    moment = numbers[1]
    refusal = refusal_unless_free(works, i)
    if refusal < 0:
        return [refusal]
    if not is_moment(moment):
        return [WRONG]
    blade = works.blades[i]
    pulled = blade.pull()
    blade.weigh_anew(moment)
    return [pulled]


def reply_scrap(works, numbers):
    i = numbers[0]
    refusal = refusal_unless_free(works, i)
    if refusal < 0:
        return [refusal]
    blade = works.blades[i]
    blade.gone = True
    return [blade.pull()]


def reply_add(works, numbers):
    i = numbers[0]
    n = numbers[1]
    if not works.has_blades([i]):
        return [NO_SUCH]
    blade = works.blades[i]
    if blade.gone:
        return [NOT_FREE]
    if n == 0 or blade.added + n > works.most:
        return [WRONG]
    blade.added += n
    return [blade.pull()]


def reply_look(works, numbers):
    i = numbers[0]
    if not works.has_blades([i]):
        return [NO_SUCH]
    blade = works.blades[i]
    return [blade.moment, blade.kind, blade.added, blade.set_and_one, 1 if blade.gone else 0]


def refusal_unless_several(works, numbers):
    """Why these aren't blades, each another one; 0 if they are."""
    if not works.has_blades(numbers):
        return NO_SUCH
    if len(set(numbers)) < len(numbers):
        return WRONG
    return 0


def reply_needs(works, numbers):
    refusal = refusal_unless_several(works, numbers)
    if refusal < 0:
        return [refusal]
    units = works.units_for(numbers)
    return [sum(units)] + units


def reply_off(works, numbers):
    refusal = refusal_unless_several(works, numbers)
    if refusal < 0:
        return [refusal]
    return [how_far_off(works.pulls(numbers))]


def reply_match(works, numbers):
    refusal = refusal_unless_several(works, numbers)
    if refusal < 0:
        return [refusal]
    if not works.of_one_kind(numbers):
        return [WRONG]
    if not works.all_free(numbers):
        return [NOT_FREE]
    if not works.may_be_set(numbers):
        return [TOO_MUCH]
    return [works.bind(numbers)]


def reply_set(works, numbers):
    s = numbers[0]
    if s not in works.trios:
        return [NO_SUCH]
    trio = works.trios[s]
    return [len(trio)] + trio


def reply_part(works, numbers):
    s = numbers[0]
    if s not in works.trios:
        return [NO_SUCH]
    trio = works.unbind(s)
    return [sum(works.pulls(trio))]


def best_beside(works, pair):
    """The first free blade with which this pair needs fewest units, and how many."""
    kind = works.blades[pair[0]].kind
    others = [x for x in works.free_of_kind(kind) if x not in pair]
    if not others:
        return [NONE_LEFT]
    units = [sum(works.units_for(pair + [x])) for x in others]
    fewest = min(units)
    return [others[units.index(fewest)], fewest]


def reply_third(works, numbers):
    refusal = refusal_unless_several(works, numbers)
    if refusal < 0:
        return [refusal]
    if not works.of_one_kind(numbers):
        return [WRONG]
    return best_beside(works, numbers)


def reply_spare(works, numbers):
    s = numbers[0]
    i = numbers[1]
    if s not in works.trios:
        return [NO_SUCH]
    if i not in works.trios[s]:
        return [WRONG]
    return best_beside(works, [j for j in works.trios[s] if j != i])


def reply_exchange(works, numbers):
    s = numbers[0]
    i = numbers[1]
    x = numbers[2]
    if s not in works.trios:
        return [NO_SUCH]
    trio = works.trios[s]
    if i not in trio or not works.has_blades([x]):
        return [WRONG]
    if not works.blades[x].is_free() or not works.of_one_kind([i, x]):
        return [NOT_FREE]
    changed = [x if j == i else j for j in trio]
    if not works.may_be_set(changed):
        return [TOO_MUCH]
    works.rebind(s, changed)
    return works.pulls([i])


def reply_balanced(works, numbers):
    s = numbers[0]
    if s not in works.trios:
        return [NO_SUCH]
    trio = works.trios[s]
    return [1 if works.needs_nothing(trio) else 0, how_far_off(works.pulls(trio))]


def reply_ship(works, numbers):
    s = numbers[0]
    if s not in works.trios:
        return [NO_SUCH]
    if not works.needs_nothing(works.trios[s]):
        return [NOT_EVEN]
    trio = works.send_off(s)
    return [sum(works.pulls(trio))]


def reply_plan(works, numbers):
    kind = numbers[0]
    if kind > GREATEST_KIND:
        return [WRONG]
    plan = works.plan(kind)
    reply = [len(plan)]
    for trio in plan:
        reply.extend(trio)
    return reply


def reply_least(works, numbers):
    kind = numbers[0]
    if kind > GREATEST_KIND:
        return [WRONG]
    return [sum([shortfall(works.pulls(trio)) for trio in works.plan(kind)])]


def reply_follow(works, numbers):
    kind = numbers[0]
    if kind > GREATEST_KIND:
        return [WRONG]
    plan = works.plan(kind)
    # All are asked before the first is bound, since a refusal changes nothing.
    if not all([works.may_be_set(trio) for trio in plan]):
        return [TOO_MUCH]
    for trio in plan:
        works.bind(trio)
    return [len(plan)]


def reply_free(works, numbers):
    kind = numbers[0]
    if kind > GREATEST_KIND:
        return [WRONG]
    free = works.free_of_kind(kind)
    return [len(free)] + free


def reply_sums(works, numbers):
    moments = [blade.moment for blade in works.blades]
    return [sum(moments), sum([blade.added for blade in works.blades])]


def reply_state(works, numbers):
    gone = [blade for blade in works.blades if blade.gone]
    return [len(works.blades), len(gone), len(works.trios), works.most, works.unit]


REPLIES = {
    0: reply_start,
    1: reply_blade,
    2: reply_weigh,
    3: reply_scrap,
    4: reply_needs,
    5: reply_off,
    6: reply_match,
    7: reply_set,
    8: reply_part,
    9: reply_third,
    10: reply_spare,
    11: reply_exchange,
    12: reply_plan,
    13: reply_least,
    14: reply_follow,
    15: reply_add,
    16: reply_balanced,
    17: reply_ship,
    18: reply_free,
    19: reply_look,
    20: reply_sums,
    21: reply_state,
}


def reply_to(works, call, numbers):
    """What the works answer to a call, given by its number, with the numbers behind it."""
    if call != START and not works.started:
        return [NOT_STARTED]
    return REPLIES[call](works, numbers)
