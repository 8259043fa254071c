"""Calls written by their names, and the answers, one list for each call."""

from blademould.layup import answers

MOST = 4294967295
LACKS = [6]
FEWEST = [7]
PLAN = [8]
GOES = [9]
FABRIC = [10]
WORST = [13]
METRES = [19]
STATE = [20]
# One call of each that comes behind start, as the interface writes it.
AFTER_START = [
    [1, 0, 0], [2, 0, 1], [3, 0, 1, 0], [4, 0], [5, 0], LACKS, FEWEST, PLAN, GOES, FABRIC,
    [11, 0], [12, 0], WORST, [14, 0], [15, 0], [16, 0], [17, 0, 1], [18, 0], METRES, STATE,
]


class Frozen(list):
    """A list that can't be changed, not for a while either."""

    def refuse(self, *given, **named):
        raise AssertionError("what was handed in was changed")

    append = extend = insert = pop = remove = clear = sort = reverse = refuse
    __setitem__ = __delitem__ = __iadd__ = __imul__ = refuse


def start(long, ends, need):
    return [0, long, ends, len(need)] + need


def set_need(station, layers):
    return [1, station, layers]


def roll(kind, more):
    return [2, kind, more]


def lay(first, behind, kind):
    return [3, first, behind, kind]


def lift(ply):
    return [4, ply]


def missing(station):
    return [5, station]


def follow(kind):
    return [11, kind]


def ends(station):
    return [12, station]


def stack(station):
    return [14, station]


def kinds(station):
    return [15, station]


def alike(station):
    return [16, station]


def swap(one, other):
    return [17, one, other]


def stock(kind):
    return [18, kind]


def flat(calls):
    return [number for call in calls for number in call]


def split(answered):
    """The answers apart; each is as long as the number ahead of it says."""
    parts = []
    place = 0
    while place < len(answered):
        end = place + 1 + answered[place]
        assert answered[place] > 0 and end <= len(answered), answered
        parts.append(answered[place + 1:end])
        place = end
    return parts


def ask(*calls):
    """What the calls on one new mould answer."""
    handed = Frozen(flat(calls))
    answered = answers(handed)
    assert handed == flat(calls)
    assert type(answered) is list
    assert all(type(number) is int for number in answered), answered
    parts = split(answered)
    assert len(parts) == len(calls), answered
    assert all(len(part) == 1 for part in parts if part[0] < 0), answered
    return parts


def last(*calls):
    """What the last of the calls answers."""
    return ask(*calls)[-1]
