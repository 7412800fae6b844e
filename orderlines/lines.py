"""Reads one line's words as an order, and tells the first error from the left to the right."""

from orderlines.errors import ARMY_TO_SHORE, MALFORMED, NO_UNIT, OTHER_UNIT, SEVERAL_SHORES
from orderlines.places import no_place, read_first_place, read_place
from orderlines.state import ARMY, CARRYING, FLEET, HOLD, MOVE, SUPPORT, SUPPORT_OF_MOVE
from orderlines.words import spelled


class Reading:
    def __init__(self, error, province, order):
        # 0 if there is none; else there is neither province nor order.
        self.error = error
        # Where the unit stands that has the order.
        self.province = province
        self.order = order


def wrong(error):
    return Reading(error, None, None)


def unit_word_of(words):
    if len(words) == 0:
        return None
    if words[0] == spelled("army"):
        return ARMY
    if words[0] == spelled("fleet"):
        return FLEET
    return None


def behind_unit_word(words):
    return words if unit_word_of(words) is None else words[1:]


def error_of_unit(table, power, asked_for, place):
    unit = table.units.get(place.province)
    if unit is None or unit.power != power:
        return NO_UNIT
    if asked_for is not None and asked_for != unit.fleet:
        return OTHER_UNIT
    if place.shore is not None and (unit.fleet == ARMY or place.shore != unit.shore):
        return OTHER_UNIT
    return 0


def read_hold(p, words):
    if len(words) > 0:
        return wrong(MALFORMED)
    return Reading(0, p, HOLD)


def shores_meant(table, p, place):
    if place.shore is not None:
        return [place.shore]
    # Without named shores 0 is the only one, linked or not.
    linked = table.linked_shores((p, table.units[p].shore), place.province)
    return linked if len(linked) > 0 else [0]


def read_move(table, p, words):
    place = read_first_place(table, words)
    if place.error != 0:
        return wrong(place.error)
    behind = words[1:]
    if len(behind) > 0 and behind != [spelled("by"), spelled("water")]:
        return wrong(MALFORMED)
    by_water = 1 if len(behind) > 0 else 0
    if table.units[p].fleet == ARMY:
        if place.shore is not None:
            return wrong(ARMY_TO_SHORE)
        return Reading(0, p, (MOVE, place.province, 0, by_water))
    shores = shores_meant(table, p, place)
    if len(shores) > 1:
        return wrong(SEVERAL_SHORES)
    return Reading(0, p, (MOVE, place.province, shores[0], by_water))


def read_goal(table, words):
    if len(words) != 2 or words[0] != spelled("to"):
        return no_place(MALFORMED)
    return read_place(table, words[1])


def read_help(table, p, words, alone, with_goal):
    # A unit may be supported where it stays, but is carried somewhere: alone is None where a goal has to follow.
    behind = behind_unit_word(words)
    start = read_first_place(table, behind)
    if start.error != 0:
        return wrong(start.error)
    if len(behind) == 1 and alone is not None:
        return Reading(0, p, (alone, start.province, 0, 0))
    goal = read_goal(table, behind[1:])
    if goal.error != 0:
        return wrong(goal.error)
    return Reading(0, p, (with_goal, start.province, goal.province, 0))


def read_order(table, p, words):
    if len(words) == 0:
        return wrong(MALFORMED)
    if words[0] == spelled("holds"):
        return read_hold(p, words[1:])
    if words[0] == spelled("to"):
        return read_move(table, p, words[1:])
    if words[0] == spelled("supports"):
        return read_help(table, p, words[1:], SUPPORT, SUPPORT_OF_MOVE)
    if words[0] == spelled("carries"):
        return read_help(table, p, words[1:], None, CARRYING)
    return wrong(MALFORMED)


def read_line(table, power, words):
    behind = behind_unit_word(words)
    place = read_first_place(table, behind)
    if place.error != 0:
        return wrong(place.error)
    error = error_of_unit(table, power, unit_word_of(words), place)
    if error != 0:
        return wrong(error)
    return read_order(table, place.province, behind[1:])
