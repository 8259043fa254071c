"""Each call on a mould: it is handed the call's numbers and gives back the numbers it answers."""

from blademould.mould import KINDS, Ply
from blademould.planning import fewest_spans, plan_spans
from blademould.refusals import (
    NO_SUCH_PLY, NOT_STARTED, NOTHING_MISSING, TOO_LITTLE_FABRIC, TOO_MANY_ENDS, TOO_MANY_LAYERS, TOO_MANY_PLIES,
    WRONG_NUMBER,
)

START = 0

LONGEST = 100
MOST_ENDS = 20
MOST_STATIONS = 12
MOST_NEEDED = 12
MOST_STOCK = 100000
MOST_PLIES = 40


def start(mould, numbers):
    long = numbers[0]
    most_ends = numbers[1]
    need = numbers[3:]
    if not 1 <= long <= LONGEST or not 1 <= most_ends <= MOST_ENDS:
        return [WRONG_NUMBER]
    if not 1 <= len(need) <= MOST_STATIONS or max(need) > MOST_NEEDED:
        return [WRONG_NUMBER]
    mould.begin(long, most_ends, need)
    return [mould.station_count()]


def set_need(mould, numbers):
    station = numbers[0]
    layers = numbers[1]
    if station >= mould.station_count() or layers > MOST_NEEDED:
        return [WRONG_NUMBER]
    if mould.layers_at(station) > layers:
        return [TOO_MANY_LAYERS]
    needed = mould.need[station]
    mould.need[station] = layers
    return [needed]


def roll(mould, numbers):
    kind = numbers[0]
    more = numbers[1]
    if kind >= KINDS or more == 0 or mould.stock[kind] + more > MOST_STOCK:
        return [WRONG_NUMBER]
    mould.stock[kind] += more
    return [mould.stock[kind]]


def lay(mould, numbers):
    ply = Ply(numbers[0], numbers[1], numbers[2])
    if ply.first >= ply.behind or ply.behind > mould.station_count() or ply.kind >= KINDS:
        return [WRONG_NUMBER]
    if min(mould.lacking()[ply.first:ply.behind]) == 0:
        return [NOTHING_MISSING]
    if not mould.has_ends_for([(ply.first, ply.behind)]):
        return [TOO_MANY_ENDS]
    if mould.fabric_of(ply) > mould.stock[ply.kind]:
        return [TOO_LITTLE_FABRIC]
    if len(mould.plies) >= MOST_PLIES:
        return [TOO_MANY_PLIES]
    return [mould.lay_ply(ply)]


def lift(mould, numbers):
    number = numbers[0]
    if number not in mould.plies:
        return [NO_SUCH_PLY]
    return [mould.lift_ply(number)]


def missing(mould, numbers):
    station = numbers[0]
    if station >= mould.station_count():
        return [WRONG_NUMBER]
    return [mould.missing_at(station)]


def lacks(mould, numbers):
    return [mould.station_count()] + mould.lacking()


def fewest(mould, numbers):
    return [fewest_spans(mould.lacking())]


def plan(mould, numbers):
    spans = plan_spans(mould.lacking())
    answer = [len(spans)]
    for first, behind in spans:
        answer.append(first)
        answer.append(behind)
    return answer


def goes(mould, numbers):
    return [1 if mould.has_ends_for(plan_spans(mould.lacking())) else 0]


def fabric(mould, numbers):
    # Whatever plies make what is missing, each missing layer takes one station's length.
    return [sum(mould.lacking()) * mould.long]


CALLS = {
    0: start,
    1: set_need,
    2: roll,
    3: lay,
    4: lift,
    5: missing,
    6: lacks,
    7: fewest,
    8: plan,
    9: goes,
    10: fabric,
}


def answer_call(mould, call, numbers):
    """What the call with this number answers."""
    if call != START and not mould.is_begun():
        return [NOT_STARTED]
    if call not in CALLS:
        raise NotImplementedError(f"call {call} is not written yet")
    answered_by = CALLS[call]
    return answered_by(mould, numbers)
