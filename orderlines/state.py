"""What a table has: provinces, the links between them, and units."""

LAND = 0
SEA = 1
COAST = 2

HOLD = (0, 0, 0, 0)


class Province:
    def __init__(self, kind, name, short_name, shores):
        self.kind = kind
        self.name = name
        self.short_name = short_name
        self.shores = shores

    def count_shores(self):
        # Without named shores there is still the one that has no name.
        return max(1, len(self.shores))

    def is_called(self, word):
        return word == self.name or word == self.short_name


class Unit:
    def __init__(self, power, fleet, shore):
        self.power = power
        self.fleet = fleet
        self.shore = shore
        self.order = HOLD


class Table:
    def __init__(self):
        self.make_empty()

    def make_empty(self):
        self.provinces = []
        # Links are the keys: see link_between.
        self.land_links = {}
        self.sea_links = {}
        # At most one unit is in a province, so its number is the key.
        self.units = {}

    def has_province(self, p):
        return 0 <= p < len(self.provinces)

    def has_shore(self, p, s):
        return self.has_province(p) and 0 <= s < self.provinces[p].count_shores()

    def has_kind(self, p, kind):
        return self.provinces[p].kind == kind

    def has_name(self, word):
        return any([province.is_called(word) for province in self.provinces])


def link_between(one, other):
    # Links lead both ways: either order of the ends has to give the same key.
    return (min(one, other), max(one, other))
