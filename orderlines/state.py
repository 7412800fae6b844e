"""What a table has: provinces, the links between them, and units with their orders."""

LAND = 0
SEA = 1
COAST = 2

ARMY = 0
FLEET = 1

LAST_POWER = 6

# An order is kept as the four numbers that are answered; what stands behind the first:
# province, shore and 1 if by water of a move; province of a support; from and to of the others; else 0.
HOLDING = 0
MOVE = 1
SUPPORT = 2
SUPPORT_OF_MOVE = 3
CARRYING = 4

HOLD = (0, 0, 0, 0)


class Province:
    def __init__(self, kind, name, short_name, shores):
        self.kind = kind
        self.name = name
        self.short_name = short_name
        self.shores = shores

    def count_shores(self):
        # Without named shores there is still the one that has no name.
        return max(1, len(self.shores))

    def is_called(self, word):
        return word == self.name or word == self.short_name

    def has_beginning(self, word):
        return self.name[:len(word)] == word


class Unit:
    def __init__(self, power, fleet, shore):
        self.power = power
        self.fleet = fleet
        self.shore = shore
        self.order = HOLD


class Table:
    def __init__(self):
        self.make_empty()

    def make_empty(self):
        self.provinces = []
        # Links are the keys: see link_between.
        self.land_links = {}
        self.sea_links = {}
        # At most one unit is in a province, so its number is the key.
        self.units = {}

    def has_province(self, p):
        return 0 <= p < len(self.provinces)

    def has_shore(self, p, s):
        return self.has_province(p) and 0 <= s < self.provinces[p].count_shores()

    def has_kind(self, p, kind):
        return self.provinces[p].kind == kind

    def has_name(self, word):
        return any([province.is_called(word) for province in self.provinces])

    def provinces_meant(self, word):
        called = [p for p, province in enumerate(self.provinces) if province.is_called(word)]
        if len(called) > 0 or len(word) == 0:
            return called
        return [p for p, province in enumerate(self.provinces) if province.has_beginning(word)]

    def has_land_link(self, p, q):
        return link_between(p, q) in self.land_links

    def has_sea_link(self, place, other_place):
        return link_between(place, other_place) in self.sea_links

    def linked_shores(self, place, q):
        return [t for t in range(self.provinces[q].count_shores()) if self.has_sea_link(place, (q, t))]

    def provinces_with_units(self):
        return sorted(self.units)


def is_power(number):
    return 0 <= number <= LAST_POWER


def link_between(one, other):
    # Links lead both ways: either order of the ends has to give the same key.
    return (min(one, other), max(one, other))
