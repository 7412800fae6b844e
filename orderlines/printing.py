"""The call printed: a power's orders in the one form that reads back as they are."""

from orderlines.places import SLASH
from orderlines.refusals import OUT_OF_RANGE
from orderlines.state import FLEET, HOLDING, MOVE, SUPPORT, SUPPORT_OF_MOVE, is_power
from orderlines.words import line_of, spelled


def place_word(table, fleet, p, s):
    province = table.provinces[p]
    # An army stands at no shore and goes to none: a line that told one would be wrong.
    if fleet == FLEET and len(province.shores) > 0:
        return province.short_name + (SLASH,) + province.shores[s]
    return province.short_name


def move_words(table, fleet, order):
    words = [spelled("to"), place_word(table, fleet, order[1], order[2])]
    if order[3] == 1:
        words.extend([spelled("by"), spelled("water")])
    return words


def order_words(table, unit):
    order = unit.order
    if order[0] == HOLDING:
        return [spelled("holds")]
    if order[0] == MOVE:
        return move_words(table, unit.fleet, order)
    start = table.provinces[order[1]].short_name
    if order[0] == SUPPORT:
        return [spelled("supports"), start]
    goal = table.provinces[order[2]].short_name
    if order[0] == SUPPORT_OF_MOVE:
        return [spelled("supports"), start, spelled("to"), goal]
    return [spelled("carries"), start, spelled("to"), goal]


def unit_line(table, p):
    unit = table.units[p]
    unit_word = spelled("fleet") if unit.fleet == FLEET else spelled("army")
    return line_of([unit_word, place_word(table, unit.fleet, p, unit.shore)] + order_words(table, unit))


def print_orders(table, power):
    if not is_power(power):
        return [OUT_OF_RANGE]
    text = []
    for p in table.provinces_with_units():
        if table.units[p].power == power:
            text.extend(unit_line(table, p))
    return [len(text)] + text
