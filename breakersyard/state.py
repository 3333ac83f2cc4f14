"""The yard as it stands at one time."""

PLACES = 30
MOST_KINDS = 8
MOST_MODELS = 6
MOST_CARS = 8


class Kind:
    """One kind of part; needs are the kinds that must be off before it, as bits."""

    def __init__(self, kg, minutes, needs, harm):
        self.kg = kg
        self.minutes = minutes
        self.needs = needs
        self.harm = harm


class Model:
    """One model of cars; groups has the group of each kind, and numbers behind these that nothing reads."""

    def __init__(self, kg, litres, groups):
        self.kg = kg
        self.litres = litres
        self.groups = groups


class Car:
    """One car; has are the kinds of which it has a part, as bits."""

    def __init__(self, model, has, litres, kg):
        self.model = model
        self.has = has
        self.litres = litres
        self.kg = kg
        self.crushed = False


class Yard:
    """All that is there; a place of the stock is None or a part: its kind and its model."""

    def __init__(self):
        self.kinds = []
        self.models = []
        self.cars = []
        self.stock = [None] * PLACES
        self.came_kg = 0
        self.came_litres = 0
        self.tank = 0
        self.scrap = 0
        self.sold_kg = 0
        self.sold_litres = 0
        self.minutes = 0
        self.earned = 0


def copied_car(car):
    twin = Car(car.model, car.has, car.litres, car.kg)
    twin.crushed = car.crushed
    return twin


def copied_yard(yard):
    twin = Yard()
    # Kinds, models and parts stay as they were made, so both yards may hold the same ones.
    twin.kinds = list(yard.kinds)
    twin.models = list(yard.models)
    twin.cars = [copied_car(car) for car in yard.cars]
    twin.stock = list(yard.stock)
    twin.came_kg = yard.came_kg
    twin.came_litres = yard.came_litres
    twin.tank = yard.tank
    twin.scrap = yard.scrap
    twin.sold_kg = yard.sold_kg
    twin.sold_litres = yard.sold_litres
    twin.minutes = yard.minutes
    twin.earned = yard.earned
    return twin


def kind_is_there(yard, t):
    return t < len(yard.kinds)


def model_is_there(yard, m):
    return m < len(yard.models)


def car_is_there(yard, k):
    return k < len(yard.cars) and not yard.cars[k].crushed


def part_is_there(yard, i):
    return i < PLACES and yard.stock[i] is not None


def names_missing_kind(yard, bits):
    return bits >> len(yard.kinds) != 0
