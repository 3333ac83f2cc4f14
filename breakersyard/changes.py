"""The calls that change the yard. Each answers a number; one below 0 is a refusal, and changes nothing."""

from breakersyard.parts import free_places, harmful_kinds, has_part, is_dry, is_held_back, kilograms_of, kinds_in
from breakersyard.parts import must_come_off, take_off
from breakersyard.refusals import DRY_ALREADY, IN_THE_WAY, NO_ROOM, NO_WAY, NOT_AS_TOLD, NOT_DRY, NOT_HAD
from breakersyard.refusals import NOT_THERE, TANK_HAS_LESS, TANK_WOULD_SPILL
from breakersyard.state import MOST_CARS, MOST_KINDS, MOST_MODELS, Car, Kind, Model, car_is_there, model_is_there
from breakersyard.state import names_missing_kind, part_is_there
from breakersyard.ways import lacking, least_way, must_by_way, why_not_sought

MOST_KIND_KG = 500
MOST_MINUTES = 600
MOST_MODEL_KG = 5000
MOST_MODEL_LITRES = 100
MOST_GROUP = 9
MOST_TANK_LITRES = 300
MOST_PART_PRICE = 10000
MOST_TONNE_PRICE = 1000
MOST_LITRE_PRICE = 100
KG_OF_TONNE = 1000


def add_kind(yard, kg, minutes, needs, harm):
    if kg < 1 or kg > MOST_KIND_KG or minutes < 1 or minutes > MOST_MINUTES:
        return NOT_AS_TOLD
    if names_missing_kind(yard, needs) or harm > 1:
        return NOT_AS_TOLD
    if len(yard.models) > 0:
        return IN_THE_WAY
    if len(yard.kinds) == MOST_KINDS:
        return NO_ROOM
    yard.kinds.append(Kind(kg, minutes, needs, harm))
    return len(yard.kinds) - 1


def add_model(yard, kg, litres, groups):
    least_kg = sum([kind.kg for kind in yard.kinds])
    if kg < least_kg or kg > MOST_MODEL_KG or litres > MOST_MODEL_LITRES or max(groups) > MOST_GROUP:
        return NOT_AS_TOLD
    if len(yard.models) == MOST_MODELS:
        return NO_ROOM
    yard.models.append(Model(kg, litres, tuple(groups)))
    return len(yard.models) - 1


def add_car(yard, m, lacks):
    if not model_is_there(yard, m):
        return NOT_THERE
    if names_missing_kind(yard, lacks):
        return NOT_AS_TOLD
    if len(yard.cars) == MOST_CARS:
        return NO_ROOM
    model = yard.models[m]
    every_kind = (1 << len(yard.kinds)) - 1
    car = Car(m, every_kind & ~lacks, model.litres, model.kg - kilograms_of(yard, lacks))
    yard.cars.append(car)
    yard.came_kg += car.kg
    yard.came_litres += car.litres
    return len(yard.cars) - 1


def drain_car(yard, k):
    if not car_is_there(yard, k):
        return NOT_THERE
    car = yard.cars[k]
    litres = car.litres
    if is_dry(car):
        return DRY_ALREADY
    if yard.tank + litres > MOST_TANK_LITRES:
        return TANK_WOULD_SPILL
    yard.tank += litres
    car.litres = 0
    return litres


def why_not_from(yard, k, t):
    """The refusal that is due if nothing can be had for kind t from car k, or 0."""
    if not car_is_there(yard, k):
        return NOT_THERE
    car = yard.cars[k]
    if not has_part(car, t):
        return NOT_HAD
    if not is_dry(car):
        return NOT_DRY
    return 0


def take_part_off(yard, k, t):
    refusal = why_not_from(yard, k, t)
    if refusal < 0:
        return refusal
    car = yard.cars[k]
    if is_held_back(yard, car, t):
        return IN_THE_WAY
    if free_places(yard) == 0:
        return NO_ROOM
    return take_off(yard, car, 1 << t)


def strip_for(yard, k, t):
    refusal = why_not_from(yard, k, t)
    if refusal < 0:
        return refusal
    car = yard.cars[k]
    must = must_come_off(yard, car, 1 << t)
    if free_places(yard) < len(kinds_in(must)):
        return NO_ROOM
    return take_off(yard, car, must)


def gather_parts(yard, m, wanted):
    refusal = why_not_sought(yard, m, wanted)
    if refusal < 0:
        return refusal
    lacks = lacking(yard, m, wanted)
    way = least_way(yard, m, lacks)
    if way is None:
        return NO_WAY
    must = must_by_way(yard, lacks, way)
    if free_places(yard) < sum([len(kinds_in(bits)) for bits in must.values()]):
        return NO_ROOM
    minutes = 0
    for k in sorted(must):
        minutes += take_off(yard, yard.cars[k], must[k])
    return minutes


def sell_part(yard, i, price):
    if not part_is_there(yard, i):
        return NOT_THERE
    if price > MOST_PART_PRICE:
        return NOT_AS_TOLD
    t = yard.stock[i][0]
    yard.stock[i] = None
    yard.sold_kg += yard.kinds[t].kg
    yard.earned += price
    return t


def crush_car(yard, k):
    if not car_is_there(yard, k):
        return NOT_THERE
    car = yard.cars[k]
    if not is_dry(car):
        return NOT_DRY
    if (car.has & harmful_kinds(yard)) != 0:
        return IN_THE_WAY
    kg = car.kg
    yard.scrap += kg
    # It keeps its number; without kilograms and parts it counts nowhere among the cars.
    car.kg = 0
    car.has = 0
    car.crushed = True
    return kg


def cart_scrap(yard, price):
    if price > MOST_TONNE_PRICE:
        return NOT_AS_TOLD
    if yard.scrap == 0:
        return NOT_HAD
    earned = yard.scrap * price // KG_OF_TONNE
    yard.sold_kg += yard.scrap
    yard.scrap = 0
    yard.earned += earned
    return earned


def pump_out(yard, n, price):
    if n == 0 or price > MOST_LITRE_PRICE:
        return NOT_AS_TOLD
    if yard.tank < n:
        return TANK_HAS_LESS
    yard.tank -= n
    yard.sold_litres += n
    yard.earned += n * price
    return yard.tank
