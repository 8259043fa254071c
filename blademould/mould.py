"""The mould: its stations, the plies that are laid, and the fabric."""

from blademould.planning import count_ends

KINDS = 4


class Ply:
    """A ply of a kind, from the station first up to the station behind it, that not with it."""

    def __init__(self, first, behind, kind):
        self.first = first
        self.behind = behind
        self.kind = kind


class Mould:
    """A mould; it has no stations until it is begun."""

    def __init__(self):
        self.begin(0, 0, [])

    def begin(self, long, most_ends, need):
        """Have these stations, without plies and without fabric."""
        self.long = long
        self.most_ends = most_ends
        self.need = list(need)
        self.plies = {}
        self.stock = [0] * KINDS
        self.scrap = 0

    def station_count(self):
        return len(self.need)

    def is_begun(self):
        return self.station_count() > 0

    def layers_at(self, station):
        """How many plies cover the station."""
        return len([ply for ply in self.plies.values() if ply.first <= station < ply.behind])

    def missing_at(self, station):
        return self.need[station] - self.layers_at(station)

    def lacking(self):
        """What each station lacks."""
        return [self.missing_at(station) for station in range(self.station_count())]

    def has_ends_for(self, more_spans):
        """Whether nowhere there would be too many ends if more_spans were laid too."""
        spans = [(ply.first, ply.behind) for ply in self.plies.values()]
        return max(count_ends(spans + more_spans, self.station_count())) <= self.most_ends

    def fabric_of(self, ply):
        """How much fabric the ply takes."""
        return (ply.behind - ply.first) * self.long

    def least_free_number(self):
        number = 0
        while number in self.plies:
            number += 1
        return number

    def lay_ply(self, ply):
        """Lay the ply, out of its kind's stock: its number."""
        number = self.least_free_number()
        self.plies[number] = ply
        self.stock[ply.kind] -= self.fabric_of(ply)
        return number

    def lift_ply(self, number):
        """Take the ply away: how much scrap it is."""
        scrap = self.fabric_of(self.plies.pop(number))
        self.scrap += scrap
        return scrap
