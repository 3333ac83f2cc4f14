"""The interface: a list of calls goes in, a list of what they answer comes back."""

from breakersyard.asks import ask_fits, ask_may, ask_must, ask_next
from breakersyard.calls import ADD_CAR, ADD_KIND, ADD_MODEL, CART, CRUSH, DRAIN, FITS, GATHER, MAY, MUST, OFF, PUMP
from breakersyard.calls import SELL, START, STRIP, split_calls
from breakersyard.changes import add_car, add_kind, add_model, cart_scrap, crush_car, drain_car, gather_parts
from breakersyard.changes import pump_out, sell_part, strip_for, take_part_off
from breakersyard.state import Yard, copied_yard


class Record:
    """The one object that the calls are made on: the yard as it stands now."""

    def __init__(self):
        self.now = Yard()


def change(yard, call):
    given = call.given
    if call.number == ADD_KIND:
        return add_kind(yard, given[0], given[1], given[2], given[3])
    if call.number == ADD_MODEL:
        return add_model(yard, given[0], given[1], call.row)
    if call.number == ADD_CAR:
        return add_car(yard, given[0], given[1])
    if call.number == DRAIN:
        return drain_car(yard, given[0])
    if call.number == OFF:
        return take_part_off(yard, given[0], given[1])
    if call.number == STRIP:
        return strip_for(yard, given[0], given[1])
    if call.number == GATHER:
        return gather_parts(yard, given[0], given[1])
    if call.number == SELL:
        return sell_part(yard, given[0], given[1])
    if call.number == CRUSH:
        return crush_car(yard, given[0])
    if call.number == CART:
        return cart_scrap(yard, given[0])
    return pump_out(yard, given[0], given[1])


def ask(yard, call):
    given = call.given
    if call.number == FITS:
        return ask_fits(yard, given[0], given[1], given[2])
    if call.number == MUST:
        return ask_must(yard, given[0], given[1])
    if call.number == MAY:
        return ask_may(yard, given[0], given[1])
    return ask_next(yard, given[0])


def answer_change(record, call):
    # The change is tried on a copy: a refused one is dropped whole, and the yard that stood
    # before a change stays as it was, ready to be gone back to.
    draft = copied_yard(record.now)
    answered = change(draft, call)
    if answered >= 0:
        record.now = draft
    return [answered]


def answer(record, call):
    if call.number == START:
        record.now = Yard()
        return [0]
    if ADD_KIND <= call.number <= PUMP:
        return answer_change(record, call)
    return ask(record.now, call)


def answers(calls):
    record = Record()
    given_back = []
    for call in split_calls(calls):
        answered = answer(record, call)
        given_back.append(len(answered))
        given_back.extend(answered)
    return given_back
