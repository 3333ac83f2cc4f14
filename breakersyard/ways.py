"""Some parts for a model: which lack, and the least way to have those."""

from breakersyard.parts import has_part, is_dry, kinds_in, minutes_of, must_come_off
from breakersyard.refusals import NOT_AS_TOLD, NOT_THERE
from breakersyard.state import model_is_there, names_missing_kind

MOST_GATHERED = 3


def why_not_sought(yard, m, wanted):
    """The refusal that is due before a way to have the wanted kinds (bits) is looked for, or 0."""
    if not model_is_there(yard, m):
        return NOT_THERE
    if names_missing_kind(yard, wanted):
        return NOT_AS_TOLD
    if len(kinds_in(wanted)) < 1 or len(kinds_in(wanted)) > MOST_GATHERED:
        return NOT_AS_TOLD
    return 0


def part_fits(yard, t, m, n):
    return yard.models[m].groups[t] == yard.models[n].groups[t]


def stock_place(yard, t, model):
    """The least place with a part of this kind that fits the model, or None."""
    for place, part in enumerate(yard.stock):
        if part is not None and part[0] == t and part_fits(yard, t, part[1], model):
            return place
    return None


def lacking(yard, model, wanted):
    """Those of the wanted kinds (bits) of which no part in the stock fits: a rising list."""
    return [t for t in kinds_in(wanted) if stock_place(yard, t, model) is None]


def can_give(yard, car, t, model):
    return is_dry(car) and has_part(car, t) and part_fits(yard, t, car.model, model)


def cars_that_give(yard, t, model):
    return [k for k, car in enumerate(yard.cars) if can_give(yard, car, t, model)]


def longer_ways(ways, cars):
    longer = []
    for way in ways:
        for k in cars:
            longer.append(way + [k])
    return longer


def all_ways(yard, model, lacks):
    """Each way is a list of cars, one for each kind in lacks; the first way of the order is first."""
    ways = [[]]
    for t in lacks:
        ways = longer_ways(ways, cars_that_give(yard, t, model))
    return ways


def wanted_by_way(lacks, way):
    """Of each car that the way names the kinds that come from it, as bits."""
    wanted = {}
    for t, k in zip(lacks, way):
        wanted[k] = wanted.get(k, 0) | (1 << t)
    return wanted


def must_by_way(yard, lacks, way):
    """Of each car that the way names all that must come off it, as bits."""
    must = {}
    for k, bits in wanted_by_way(lacks, way).items():
        must[k] = must_come_off(yard, yard.cars[k], bits)
    return must


def way_takes(yard, lacks, way, known):
    """The minutes of the way; known are those found before, by car and wanted kinds."""
    minutes = 0
    for k, bits in wanted_by_way(lacks, way).items():
        # Hundreds of ways want the same few things of each car: what these take is found once.
        if (k, bits) not in known:
            known[(k, bits)] = minutes_of(yard, must_come_off(yard, yard.cars[k], bits))
        minutes += known[(k, bits)]
    return minutes


def least_way(yard, model, lacks):
    """The cars that the kinds in lacks come from by the least way, or None if there is no way."""
    known = {}
    # Of alike ones min answers the one that stands first, and the ways stand in their order.
    return min(all_ways(yard, model, lacks), key=lambda way: way_takes(yard, lacks, way, known), default=None)
