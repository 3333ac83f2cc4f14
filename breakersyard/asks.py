"""The calls that only look. Each answers a list: the number, then what else is answered, or a refusal alone."""

from breakersyard.parts import has_part, kinds_in, may_come_off, minutes_of, must_come_off
from breakersyard.refusals import NOT_HAD, NOT_THERE
from breakersyard.state import car_is_there, kind_is_there, model_is_there
from breakersyard.ways import part_fits


def ask_fits(yard, t, m, n):
    if not kind_is_there(yard, t) or not model_is_there(yard, m) or not model_is_there(yard, n):
        return [NOT_THERE]
    return [1 if part_fits(yard, t, m, n) else 0]


def ask_must(yard, k, t):
    if not car_is_there(yard, k):
        return [NOT_THERE]
    car = yard.cars[k]
    if not has_part(car, t):
        return [NOT_HAD]
    must = must_come_off(yard, car, 1 << t)
    return [minutes_of(yard, must), must]


def ask_may(yard, k, t):
    if not car_is_there(yard, k):
        return [NOT_THERE]
    return [1 if may_come_off(yard, yard.cars[k], t) else 0]


def ask_next(yard, k):
    if not car_is_there(yard, k):
        return [NOT_THERE]
    car = yard.cars[k]
    bits = 0
    for t in kinds_in(car.has):
        if may_come_off(yard, car, t):
            bits = bits | (1 << t)
    return [len(kinds_in(bits)), bits]
