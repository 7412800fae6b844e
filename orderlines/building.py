"""The calls that make the map and set units on it; each gives its one number."""

from orderlines.refusals import FULL, MISSING, OUT_OF_RANGE, TAKEN, UNFIT
from orderlines.state import ARMY, COAST, FLEET, LAND, SEA, Province, Unit, is_power, link_between
from orderlines.words import is_name, is_shore_name, is_short_name, is_text, words_of

LONGEST_TEXT = 40
MOST_PROVINCES = 40
MOST_LAND_LINKS = 300
MOST_SEA_LINKS = 300
MOST_UNITS = 24
FEWEST_SHORES = 2
MOST_SHORES = 4


def are_fitting_shores(kind, shores):
    if len(shores) == 0:
        return True
    if kind != COAST or not FEWEST_SHORES <= len(shores) <= MOST_SHORES:
        return False
    return all([is_shore_name(shore) for shore in shores]) and len(set(shores)) == len(shores)


def add_province(table, kind, name_row, short_name_row, shores_row):
    if kind not in (LAND, SEA, COAST):
        return OUT_OF_RANGE
    if not all([is_text(row, LONGEST_TEXT) for row in (name_row, short_name_row, shores_row)]):
        return OUT_OF_RANGE
    name = tuple(name_row)
    short_name = tuple(short_name_row)
    shores = words_of(shores_row)
    if not (is_name(name) and is_short_name(short_name) and are_fitting_shores(kind, shores)):
        return UNFIT
    if table.has_name(name) or table.has_name(short_name) or name == short_name:
        return TAKEN
    if len(table.provinces) == MOST_PROVINCES:
        return FULL
    table.provinces.append(Province(kind, name, short_name, shores))
    return len(table.provinces) - 1


def add_land_link(table, p, q):
    if not (table.has_province(p) and table.has_province(q)):
        return OUT_OF_RANGE
    if p == q or table.has_kind(p, SEA) or table.has_kind(q, SEA):
        return UNFIT
    link = link_between(p, q)
    if link in table.land_links:
        return TAKEN
    if len(table.land_links) == MOST_LAND_LINKS:
        return FULL
    table.land_links[link] = True
    return 0


def add_sea_link(table, p, s, q, t):
    if not (table.has_shore(p, s) and table.has_shore(q, t)):
        return OUT_OF_RANGE
    if p == q or table.has_kind(p, LAND) or table.has_kind(q, LAND):
        return UNFIT
    link = link_between((p, s), (q, t))
    if link in table.sea_links:
        return TAKEN
    if len(table.sea_links) == MOST_SEA_LINKS:
        return FULL
    table.sea_links[link] = True
    return 0


def can_stand(table, fleet, p, s):
    if fleet == FLEET:
        return not table.has_kind(p, LAND)
    return not table.has_kind(p, SEA) and s == 0


def add_unit(table, power, fleet, p, s):
    if not (is_power(power) and fleet in (ARMY, FLEET) and table.has_shore(p, s)):
        return OUT_OF_RANGE
    if not can_stand(table, fleet, p, s):
        return UNFIT
    if p in table.units:
        return TAKEN
    if len(table.units) == MOST_UNITS:
        return FULL
    table.units[p] = Unit(power, fleet, s)
    return 0


def remove_unit(table, p):
    if not table.has_province(p):
        return OUT_OF_RANGE
    if p not in table.units:
        return MISSING
    table.units.pop(p)
    return 0
