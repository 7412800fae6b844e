"""The answers to a list of calls on one new table."""

from orderlines.building import add_land_link, add_province, add_sea_link, add_unit, remove_unit
from orderlines.printing import print_orders
from orderlines.reader import Reader
from orderlines.reading import read_text
from orderlines.state import Table
from orderlines.telling import find_provinces, tell_order, tell_orders

CLEAR = 0
PROVINCE = 1
LAND_LINK = 2
SEA_LINK = 3
MAN = 4
GONE = 5
READ = 6
PRINTED = 7
ORDER = 8
FIND = 9
ORDERS = 10


class UnknownCall(ValueError):
    pass


def answer_province(table, reader):
    kind = reader.take_number()
    name_row = reader.take_row()
    short_name_row = reader.take_row()
    shores_row = reader.take_row()
    return [add_province(table, kind, name_row, short_name_row, shores_row)]


def answer_land(table, reader):
    ends = reader.take_numbers(2)
    return [add_land_link(table, ends[0], ends[1])]


def answer_sea(table, reader):
    ends = reader.take_numbers(4)
    return [add_sea_link(table, ends[0], ends[1], ends[2], ends[3])]


def answer_man(table, reader):
    given = reader.take_numbers(4)
    return [add_unit(table, given[0], given[1], given[2], given[3])]


def answer_read(table, reader):
    power = reader.take_number()
    return read_text(table, power, reader.take_row())


def answer_call(table, reader):
    call = reader.take_number()
    if call == CLEAR:
        table.make_empty()
        return [0]
    if call == PROVINCE:
        return answer_province(table, reader)
    if call == LAND_LINK:
        return answer_land(table, reader)
    if call == SEA_LINK:
        return answer_sea(table, reader)
    if call == MAN:
        return answer_man(table, reader)
    if call == GONE:
        return [remove_unit(table, reader.take_number())]
    if call == READ:
        return answer_read(table, reader)
    if call == PRINTED:
        return print_orders(table, reader.take_number())
    if call == ORDER:
        return tell_order(table, reader.take_number())
    if call == FIND:
        return find_provinces(table, reader.take_row())
    if call == ORDERS:
        return tell_orders(table)
    raise UnknownCall(f"no call has the number {call}")


def answers(calls):
    table = Table()
    reader = Reader(calls)
    answered = []
    while reader.has_more():
        answer = answer_call(table, reader)
        answered.append(len(answer))
        answered.extend(answer)
    return answered
