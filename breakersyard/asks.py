"""The calls that only look. Each answers a list: the number, then what else is answered, or a refusal alone."""

from breakersyard.parts import bits_of, harmful_kinds, has_part, kinds_in, may_come_off, minutes_of, must_come_off
from breakersyard.refusals import NO_WAY, NOT_AS_TOLD, NOT_HAD, NOT_THERE
from breakersyard.state import MOST_MODELS, car_is_there, kind_is_there, model_is_there, names_missing_kind
from breakersyard.state import part_is_there
from breakersyard.ways import MOST_GATHERED, cars_that_give, lacking, least_way, part_fits
from breakersyard.ways import stock_place, way_takes, why_not_sought


def filled(numbers, length):
    """The numbers with 0 behind them, so many in all."""
    return numbers + [0] * (length - len(numbers))


def ask_fits(yard, t, m, n):
    if not kind_is_there(yard, t) or not model_is_there(yard, m) or not model_is_there(yard, n):
        return [NOT_THERE]
    return [1 if part_fits(yard, t, m, n) else 0]


def ask_must(yard, k, t):
    if not car_is_there(yard, k):
        return [NOT_THERE]
    car = yard.cars[k]
    if not has_part(car, t):
        return [NOT_HAD]
    must = must_come_off(yard, car, 1 << t)
    return [minutes_of(yard, must), must]


def ask_may(yard, k, t):
    if not car_is_there(yard, k):
        return [NOT_THERE]
    return [1 if may_come_off(yard, yard.cars[k], t) else 0]


def ask_next(yard, k):
    if not car_is_there(yard, k):
        return [NOT_THERE]
    car = yard.cars[k]
    free = [t for t in kinds_in(car.has) if may_come_off(yard, car, t)]
    return [len(free), bits_of(free)]


def ask_look(yard, k):
    if not car_is_there(yard, k):
        return [NOT_THERE]
    car = yard.cars[k]
    return [car.model, car.has, car.litres, car.kg]


def ask_harm(yard, k):
    if not car_is_there(yard, k):
        return [NOT_THERE]
    car = yard.cars[k]
    harmful = car.has & harmful_kinds(yard)
    return [len(kinds_in(harmful)), harmful, minutes_of(yard, must_come_off(yard, car, harmful))]


def ask_find(yard, t, m):
    if not kind_is_there(yard, t) or not model_is_there(yard, m):
        return [NOT_THERE]
    place = stock_place(yard, t, m)
    return [NO_WAY if place is None else place]


def ask_from(yard, t, m):
    if not kind_is_there(yard, t) or not model_is_there(yard, m):
        return [NOT_THERE]
    cars = cars_that_give(yard, t, m)
    return [len(cars), bits_of(cars)]


def ask_least(yard, m, wanted):
    refusal = why_not_sought(yard, m, wanted)
    if refusal < 0:
        return [refusal]
    lacks = lacking(yard, m, wanted)
    way = least_way(yard, m, lacks)
    if way is None:
        return [NO_WAY]
    pairs = []
    for t, k in zip(lacks, way):
        # One more than the car's number, so that a pair never looks like the 0 behind them.
        pairs.extend([t, k + 1])
    return [way_takes(yard, lacks, way, {})] + filled(pairs, 2 * MOST_GATHERED)


def ask_lacking(yard, m, wanted):
    if not model_is_there(yard, m):
        return [NOT_THERE]
    if names_missing_kind(yard, wanted):
        return [NOT_AS_TOLD]
    lacks = lacking(yard, m, wanted)
    return [len(lacks), bits_of(lacks)]


def ask_part(yard, i):
    if not part_is_there(yard, i):
        return [NOT_THERE]
    t = yard.stock[i][0]
    return [t, yard.stock[i][1], yard.kinds[t].kg]


def ask_count(yard, t):
    if not kind_is_there(yard, t):
        return [NOT_THERE]
    in_stock = len([part for part in yard.stock if part is not None and part[0] == t])
    return [in_stock, len([car for car in yard.cars if has_part(car, t)])]


def ask_alike(yard, t):
    if not kind_is_there(yard, t):
        return [NOT_THERE]
    groups = [model.groups[t] for model in yard.models]
    return [len(set(groups))] + filled(groups, MOST_MODELS)
