"""The interface: what the calls on one new object answer."""

from surelyforgotten.outside import Outside
from surelyforgotten.reader import Reader
from surelyforgotten.slots import clear_all, forget_slot, get_slot, put_slot

CLEAR = 0
PUT = 1
GET = 2
FORGET = 3
LAY_REGISTER = 4
LAY_PAGE = 5


def answers(calls):
    """Gives back, for each call, how many numbers it answers, and these."""
    reader = Reader(calls)
    outside = Outside()
    given = []
    while not reader.at_end():
        answer = answer_next(reader, outside)
        given.append(len(answer))
        given.extend(answer)
    return given


def answer_next(reader, outside):
    call = reader.take_number()
    # These two come from elsewhere: nothing is asked in them, and no count of it is told.
    if call == LAY_REGISTER:
        return do_lay_register(reader, outside)
    if call == LAY_PAGE:
        return do_lay_page(reader, outside)
    outside.begin_call()
    told = do_call(call, reader, outside)
    return told + [outside.asked_count] + outside.asked_numbers


def do_call(call, reader, outside):
    if call == CLEAR:
        return clear_all(outside)
    if call == PUT:
        return do_put(reader, outside)
    if call == GET:
        return get_slot(outside, reader.take_number())
    if call == FORGET:
        return do_forget(reader, outside)
    raise ValueError("there is no such call")


def do_put(reader, outside):
    slot = reader.take_number()
    data = reader.take_row()
    outside.give_script(reader.take_row())
    return put_slot(outside, slot, data)


def do_forget(reader, outside):
    slot = reader.take_number()
    outside.give_script(reader.take_row())
    return forget_slot(outside, slot)


def do_lay_register(reader, outside):
    outside.lay_register(reader.take_row())
    return [0]


def do_lay_page(reader, outside):
    page = reader.take_number()
    outside.lay_page(page, reader.take_row())
    return [0]
