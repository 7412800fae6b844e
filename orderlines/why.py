"""Why an order counts for nothing, asked of the map and the units as they are now."""

from orderlines.state import CARRYING, COAST, FLEET, MOVE, SEA, SUPPORT, SUPPORT_OF_MOVE

COUNTS = 0
TO_OWN_PROVINCE = 1
NO_WAY = 2
OUT_OF_REACH = 3
OWN_OR_SAME_PROVINCE = 4
NO_FLEET_AT_SEA = 5
CARRIED_NOWHERE = 6
NO_UNIT_THERE = 7
FLEET_CARRIED = 8


def reaches(table, p, q):
    unit = table.units[p]
    if unit.fleet == FLEET:
        return len(table.linked_shores((p, unit.shore), q)) > 0
    # No land link leads to a sea, so the kind of q need not be asked.
    return table.has_land_link(p, q)


def army_can_go(table, p, q, by_water):
    if by_water == 0 and reaches(table, p, q):
        return True
    return table.has_kind(p, COAST) and table.has_kind(q, COAST)


def why_of_move(table, p, q, shore, by_water):
    unit = table.units[p]
    if q == p:
        return TO_OWN_PROVINCE
    if unit.fleet == FLEET:
        can_go = by_water == 0 and table.has_sea_link((p, unit.shore), (q, shore))
    else:
        can_go = army_can_go(table, p, q, by_water)
    return COUNTS if can_go else NO_WAY


def why_of_help(table, p, start, goal):
    if not reaches(table, p, goal):
        return OUT_OF_REACH
    if start not in table.units:
        return NO_UNIT_THERE
    return COUNTS


def why_of_support(table, p, start):
    if start == p:
        return OWN_OR_SAME_PROVINCE
    return why_of_help(table, p, start, start)


def why_of_support_of_move(table, p, start, goal):
    if start == p or goal == p or start == goal:
        return OWN_OR_SAME_PROVINCE
    return why_of_help(table, p, start, goal)


def why_of_carrying(table, p, start, goal):
    # No army stands in a sea, so the kind of the unit need not be asked.
    if not table.has_kind(p, SEA):
        return NO_FLEET_AT_SEA
    if start == goal:
        return CARRIED_NOWHERE
    if start not in table.units:
        return NO_UNIT_THERE
    if table.units[start].fleet == FLEET:
        return FLEET_CARRIED
    return COUNTS


def why_of_order(table, p):
    order = table.units[p].order
    if order[0] == MOVE:
        return why_of_move(table, p, order[1], order[2], order[3])
    if order[0] == SUPPORT:
        return why_of_support(table, p, order[1])
    if order[0] == SUPPORT_OF_MOVE:
        return why_of_support_of_move(table, p, order[1], order[2])
    if order[0] == CARRYING:
        return why_of_carrying(table, p, order[1], order[2])
    return COUNTS
