"""The mould: its stations, the plies that are laid, and the fabric."""

from blademould.planning import count_ends, plan_spans

KINDS = 4


def longest_run(row):
    """How many of the same stand one behind another in the row, at most."""
    longest = 0
    run = 0
    for place, kind in enumerate(row):
        if place > 0 and row[place - 1] != kind:
            run = 0
        run += 1
        longest = max(longest, run)
    return longest


class Ply:
    """A ply of a kind, from the station first up to the station behind it, that not with it."""

    def __init__(self, first, behind, kind):
        self.first = first
        self.behind = behind
        self.kind = kind


class Mould:
    """A mould; it has no stations until it is begun."""

    def __init__(self):
        self.begin(0, 0, [])

    def begin(self, long, most_ends, need):
        """Have these stations, without plies and without fabric."""
        self.long = long
        self.most_ends = most_ends
        self.need = list(need)
        self.plies = {}
        self.stock = [0] * KINDS
        self.scrap = 0

    def station_count(self):
        return len(self.need)

    def is_begun(self):
        return self.station_count() > 0

    def has_station(self, station):
        return station < self.station_count()

    def stack_at(self, station):
        """The numbers of the plies that cover the station, from below."""
        # A number that is free again is given anew, so the plies were not laid in the order of their numbers.
        numbers = sorted(self.plies)
        return [number for number in numbers if self.plies[number].first <= station < self.plies[number].behind]

    def kinds_at(self, station):
        """The kinds of the plies that cover the station, from below."""
        return [self.plies[number].kind for number in self.stack_at(station)]

    def alike_at(self, station):
        """How many plies of one kind lie one on another there, at most."""
        return longest_run(self.kinds_at(station))

    def layers_at(self, station):
        """How many plies cover the station."""
        return len(self.stack_at(station))

    def missing_at(self, station):
        return self.need[station] - self.layers_at(station)

    def lacking(self):
        """What each station lacks."""
        return [self.missing_at(station) for station in range(self.station_count())]

    def planned(self):
        """The spans of the plan of what is missing."""
        return plan_spans(self.lacking())

    def planned_fabric(self):
        """How much fabric the plan takes."""
        # Whatever plies make what is missing, each missing layer takes one station's length.
        return sum(self.lacking()) * self.long

    def ends_with(self, more_spans):
        """How many ends there would be at each station if more_spans were laid too."""
        spans = [(ply.first, ply.behind) for ply in self.plies.values()]
        return count_ends(spans + more_spans, self.station_count())

    def has_ends_for(self, more_spans):
        """Whether nowhere there would be too many ends if more_spans were laid too."""
        return max(self.ends_with(more_spans)) <= self.most_ends

    def fabric_of(self, ply):
        """How much fabric the ply takes."""
        return (ply.behind - ply.first) * self.long

    def fabric_in_plies(self):
        return sum([self.fabric_of(ply) for ply in self.plies.values()])

    def least_free_number(self):
        number = 0
        while number in self.plies:
            number += 1
        return number

    def lay_ply(self, ply):
        """Lay the ply, out of its kind's stock: its number."""
        number = self.least_free_number()
        self.plies[number] = ply
        self.stock[ply.kind] -= self.fabric_of(ply)
        return number

    def lift_ply(self, number):
        """Take the ply away: how much scrap it is."""
        scrap = self.fabric_of(self.plies.pop(number))
        self.scrap += scrap
        return scrap

    def swap_plies(self, one, other):
        """Give each of the two plies the other one's number."""
        ply = self.plies[one]
        self.plies[one] = self.plies[other]
        self.plies[other] = ply
