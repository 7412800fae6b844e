"""The calls that tell what the table has and change nothing: order, find and orders."""

from orderlines.refusals import MISSING, OUT_OF_RANGE
from orderlines.why import why_of_order
from orderlines.words import is_text

LONGEST_WORD = 40


def order_and_why(table, p):
    return list(table.units[p].order) + [why_of_order(table, p)]


def tell_order(table, p):
    if not table.has_province(p):
        return [OUT_OF_RANGE]
    if p not in table.units:
        return [MISSING]
    unit = table.units[p]
    return [unit.power, unit.fleet, unit.shore] + order_and_why(table, p)


def find_provinces(table, word):
    if not is_text(word, LONGEST_WORD):
        return [OUT_OF_RANGE]
    meant = table.provinces_meant(tuple(word))
    return [len(meant)] + meant


def tell_orders(table):
    answer = [len(table.units)]
    for p in table.provinces_with_units():
        answer.append(p)
        answer.extend(order_and_why(table, p))
    return answer
