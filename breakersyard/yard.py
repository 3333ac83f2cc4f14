"""The interface: a list of calls goes in, a list of what they answer comes back."""

from breakersyard.accounts import ask_litres, ask_money, ask_state, ask_weights
from breakersyard.asks import ask_alike, ask_count, ask_find, ask_fits, ask_from, ask_harm, ask_lacking, ask_least
from breakersyard.asks import ask_look, ask_may, ask_must, ask_next, ask_part
from breakersyard.calls import ADD_CAR, ADD_KIND, ADD_MODEL, AGAIN, BACK, CART, COUNT, CRUSH, DRAIN, FIND, FITS, FROM
from breakersyard.calls import GATHER, HARM, LACKING, LEAST, LITRES, LOOK, MAY, MONEY, MUST, NEXT, OFF, PART, PUMP
from breakersyard.calls import SELL, START, STATE, STRIP, WEIGHTS, split_calls
from breakersyard.changes import add_car, add_kind, add_model, cart_scrap, crush_car, drain_car, gather_parts
from breakersyard.changes import pump_out, sell_part, strip_for, take_part_off
from breakersyard.history import Record, begin_anew, do_again, keep_change, take_back
from breakersyard.state import copied_yard


def change(yard, call):
    given = call.given
    if call.number == ADD_KIND:
        return add_kind(yard, given[0], given[1], given[2], given[3])
    if call.number == ADD_MODEL:
        return add_model(yard, given[0], given[1], call.row)
    if call.number == ADD_CAR:
        return add_car(yard, given[0], given[1])
    if call.number == DRAIN:
        return drain_car(yard, given[0])
    if call.number == OFF:
        return take_part_off(yard, given[0], given[1])
    if call.number == STRIP:
        return strip_for(yard, given[0], given[1])
    if call.number == GATHER:
        return gather_parts(yard, given[0], given[1])
    if call.number == SELL:
        return sell_part(yard, given[0], given[1])
    if call.number == CRUSH:
        return crush_car(yard, given[0])
    if call.number == CART:
        return cart_scrap(yard, given[0])
    return pump_out(yard, given[0], given[1])


def ask_of_car(yard, call):
    given = call.given
    if call.number == MUST:
        return ask_must(yard, given[0], given[1])
    if call.number == MAY:
        return ask_may(yard, given[0], given[1])
    if call.number == NEXT:
        return ask_next(yard, given[0])
    if call.number == LOOK:
        return ask_look(yard, given[0])
    return ask_harm(yard, given[0])


def ask_of_parts(yard, call):
    given = call.given
    if call.number == FITS:
        return ask_fits(yard, given[0], given[1], given[2])
    if call.number == FIND:
        return ask_find(yard, given[0], given[1])
    if call.number == FROM:
        return ask_from(yard, given[0], given[1])
    if call.number == LEAST:
        return ask_least(yard, given[0], given[1])
    if call.number == LACKING:
        return ask_lacking(yard, given[0], given[1])
    if call.number == PART:
        return ask_part(yard, given[0])
    if call.number == COUNT:
        return ask_count(yard, given[0])
    return ask_alike(yard, given[0])


def ask_of_accounts(yard, call):
    if call.number == WEIGHTS:
        return ask_weights(yard)
    if call.number == LITRES:
        return ask_litres(yard)
    return ask_money(yard)


def ask(yard, call):
    if call.number in (MUST, MAY, NEXT, LOOK, HARM):
        return ask_of_car(yard, call)
    if call.number in (WEIGHTS, LITRES, MONEY):
        return ask_of_accounts(yard, call)
    return ask_of_parts(yard, call)


def answer_change(record, call):
    # The change is tried on a copy: a refused one is dropped whole, and the yard that stood
    # before a change stays as it was, ready to be gone back to.
    draft = copied_yard(record.now)
    answered = change(draft, call)
    if answered >= 0:
        keep_change(record, draft)
    return [answered]


def answer(record, call):
    if call.number == START:
        return [begin_anew(record)]
    if ADD_KIND <= call.number <= PUMP:
        return answer_change(record, call)
    if call.number == BACK:
        return [take_back(record)]
    if call.number == AGAIN:
        return [do_again(record)]
    if call.number == STATE:
        return ask_state(record)
    return ask(record.now, call)


def answers(calls):
    record = Record()
    given_back = []
    for call in split_calls(calls):
        answered = answer(record, call)
        given_back.append(len(answered))
        given_back.extend(answered)
    return given_back
