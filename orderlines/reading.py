"""The call read: a text's lines become the orders of a power's units, all of them or none."""

from orderlines.errors import MALFORMED, TOLD_TWICE
from orderlines.lines import read_line
from orderlines.refusals import OUT_OF_RANGE
from orderlines.state import HOLD, is_power
from orderlines.words import is_printable, is_text, lines_of, words_of

LONGEST_TEXT = 2000
MOST_WRONG_LINES = 20
REMARK = 35


def says_nothing(words):
    return len(words) == 0 or words[0][0] == REMARK


def take_line(table, power, line, told):
    if not is_printable(line):
        return MALFORMED
    words = words_of(line)
    if says_nothing(words):
        return 0
    reading = read_line(table, power, words)
    if reading.error != 0:
        return reading.error
    # Looked for last: a line that is wrong otherwise tells that, and has told its unit nothing.
    if reading.province in told:
        return TOLD_TWICE
    told[reading.province] = reading.order
    return 0


def tell_wrong_lines(wrong_lines):
    shown = wrong_lines[:MOST_WRONG_LINES]
    answer = [1, len(shown)]
    for number, error in shown:
        answer.append(number)
        answer.append(error)
    return answer


def give_orders(table, power, told):
    for p in table.provinces_with_units():
        unit = table.units[p]
        if unit.power == power:
            unit.order = told.get(p, HOLD)


def read_text(table, power, text):
    if not (is_power(power) and is_text(text, LONGEST_TEXT)):
        return [OUT_OF_RANGE]
    # Orders by province, kept apart from the units until it is known that no line is wrong.
    told = {}
    wrong_lines = []
    for number, line in enumerate(lines_of(text), start=1):
        error = take_line(table, power, line, told)
        if error != 0:
            wrong_lines.append((number, error))
    if len(wrong_lines) > 0:
        return tell_wrong_lines(wrong_lines)
    give_orders(table, power, told)
    return [0, len(told)]
