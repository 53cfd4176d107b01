"""The interface: what the calls on one new object answer."""

from surelyforgotten.outside import Outside
from surelyforgotten.reader import Reader
from surelyforgotten.slots import clear_all, get_slot, put_slot

CLEAR = 0
PUT = 1
GET = 2


def answers(calls):
    """Gives back, for each call, how many numbers it answers, and these."""
    reader = Reader(calls)
    outside = Outside()
    given = []
    while not reader.at_end():
        answer = answer_next(reader, outside)
        given.append(len(answer))
        given.extend(answer)
    return given


def answer_next(reader, outside):
    outside.begin_call()
    told = do_call(reader, outside)
    return told + [outside.asked_count] + outside.asked_numbers


def do_call(reader, outside):
    call = reader.take_number()
    if call == CLEAR:
        return clear_all(outside)
    if call == PUT:
        return do_put(reader, outside)
    if call == GET:
        return get_slot(outside, reader.take_number())
    raise NotImplementedError("a call that is not built yet")


def do_put(reader, outside):
    slot = reader.take_number()
    data = reader.take_row()
    outside.give_script(reader.take_row())
    return put_slot(outside, slot, data)
