"""Each call on a mould: it is handed the call's numbers and gives back the numbers it answers."""

from blademould.mould import KINDS, Ply
from blademould.planning import fewest_spans
from blademould.refusals import (
    NO_SUCH_PLY, NOT_STARTED, NOTHING_MISSING, TOO_LITTLE_FABRIC, TOO_MANY_ENDS, TOO_MANY_LAYERS, TOO_MANY_PLIES,
    WRONG_NUMBER,
)

START = 0

LONGEST = 100
MOST_ENDS = 20
MOST_STATIONS = 12
MOST_NEEDED = 12
MOST_STOCK = 100000
MOST_PLIES = 40


def start(mould, numbers):
    long = numbers[0]
    most_ends = numbers[1]
    need = numbers[3:]
    if not 1 <= long <= LONGEST or not 1 <= most_ends <= MOST_ENDS:
        return [WRONG_NUMBER]
    if not 1 <= len(need) <= MOST_STATIONS or max(need) > MOST_NEEDED:
        return [WRONG_NUMBER]
    mould.begin(long, most_ends, need)
    return [mould.station_count()]


def set_need(mould, numbers):
    station = numbers[0]
    layers = numbers[1]
    if not mould.has_station(station) or layers > MOST_NEEDED:
        return [WRONG_NUMBER]
    if mould.layers_at(station) > layers:
        return [TOO_MANY_LAYERS]
    needed = mould.need[station]
    mould.need[station] = layers
    return [needed]


def roll(mould, numbers):
    kind = numbers[0]
    more = numbers[1]
    if kind >= KINDS or more == 0 or mould.stock[kind] + more > MOST_STOCK:
        return [WRONG_NUMBER]
    mould.stock[kind] += more
    return [mould.stock[kind]]


def lay(mould, numbers):
    ply = Ply(numbers[0], numbers[1], numbers[2])
    if ply.first >= ply.behind or ply.behind > mould.station_count() or ply.kind >= KINDS:
        return [WRONG_NUMBER]
    if min(mould.lacking()[ply.first:ply.behind]) == 0:
        return [NOTHING_MISSING]
    if not mould.has_ends_for([(ply.first, ply.behind)]):
        return [TOO_MANY_ENDS]
    if mould.fabric_of(ply) > mould.stock[ply.kind]:
        return [TOO_LITTLE_FABRIC]
    if len(mould.plies) >= MOST_PLIES:
        return [TOO_MANY_PLIES]
    return [mould.lay_ply(ply)]


def lift(mould, numbers):
    number = numbers[0]
    if number not in mould.plies:
        return [NO_SUCH_PLY]
    return [mould.lift_ply(number)]


def missing(mould, numbers):
    station = numbers[0]
    if not mould.has_station(station):
        return [WRONG_NUMBER]
    return [mould.missing_at(station)]


def lacks(mould, numbers):
    return [mould.station_count()] + mould.lacking()


def fewest(mould, numbers):
    return [fewest_spans(mould.lacking())]


def plan(mould, numbers):
    spans = mould.planned()
    answer = [len(spans)]
    for first, behind in spans:
        answer.append(first)
        answer.append(behind)
    return answer


def goes(mould, numbers):
    return [1 if mould.has_ends_for(mould.planned()) else 0]


def fabric(mould, numbers):
    return [mould.planned_fabric()]


def follow(mould, numbers):
    kind = numbers[0]
    if kind >= KINDS:
        return [WRONG_NUMBER]
    spans = mould.planned()
    if not mould.has_ends_for(spans):
        return [TOO_MANY_ENDS]
    if mould.planned_fabric() > mould.stock[kind]:
        return [TOO_LITTLE_FABRIC]
    if len(mould.plies) + len(spans) > MOST_PLIES:
        return [TOO_MANY_PLIES]
    for first, behind in spans:
        mould.lay_ply(Ply(first, behind, kind))
    return [len(spans)]


def ends(mould, numbers):
    station = numbers[0]
    if not mould.has_station(station):
        return [WRONG_NUMBER]
    return [mould.ends_with([])[station]]


def worst(mould, numbers):
    at_each = mould.ends_with([])
    most = max(at_each)
    return [most, at_each.index(most)]


def stack(mould, numbers):
    station = numbers[0]
    if not mould.has_station(station):
        return [WRONG_NUMBER]
    plies = mould.stack_at(station)
    return [len(plies)] + plies


def kinds(mould, numbers):
    station = numbers[0]
    if not mould.has_station(station):
        return [WRONG_NUMBER]
    from_below = mould.kinds_at(station)
    return [KINDS] + [from_below.count(kind) for kind in range(KINDS)]


def alike(mould, numbers):
    station = numbers[0]
    if not mould.has_station(station):
        return [WRONG_NUMBER]
    return [mould.alike_at(station)]


def swap(mould, numbers):
    one = numbers[0]
    other = numbers[1]
    if one not in mould.plies or other not in mould.plies:
        return [NO_SUCH_PLY]
    if one == other:
        return [WRONG_NUMBER]
    mould.swap_plies(one, other)
    return [0]


def stock(mould, numbers):
    kind = numbers[0]
    if kind >= KINDS:
        return [WRONG_NUMBER]
    return [mould.stock[kind]]


def metres(mould, numbers):
    return [sum(mould.stock), mould.fabric_in_plies(), mould.scrap]


def state(mould, numbers):
    return [mould.station_count(), mould.long, mould.most_ends, len(mould.plies)]


CALLS = {
    0: start,
    1: set_need,
    2: roll,
    3: lay,
    4: lift,
    5: missing,
    6: lacks,
    7: fewest,
    8: plan,
    9: goes,
    10: fabric,
    11: follow,
    12: ends,
    13: worst,
    14: stack,
    15: kinds,
    16: alike,
    17: swap,
    18: stock,
    19: metres,
    20: state,
}


def answer_call(mould, call, numbers):
    """What the call with this number answers."""
    if call != START and not mould.is_begun():
        return [NOT_STARTED]
    answered_by = CALLS[call]
    return answered_by(mould, numbers)
