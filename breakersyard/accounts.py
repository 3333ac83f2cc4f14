"""What became of each kilogram, litre and minute, and how much there is. Each answers as the calls that look do."""

from breakersyard.parts import free_places
from breakersyard.state import PLACES


def stock_kilograms(yard):
    return sum([yard.kinds[part[0]].kg for part in yard.stock if part is not None])


def ask_weights(yard):
    in_cars = sum([car.kg for car in yard.cars])
    return [yard.came_kg, in_cars, stock_kilograms(yard), yard.scrap, yard.sold_kg]


def ask_litres(yard):
    in_cars = sum([car.litres for car in yard.cars])
    return [yard.came_litres, in_cars, yard.tank, yard.sold_litres]


def ask_money(yard):
    return [yard.earned, yard.minutes]


def ask_state(record):
    yard = record.now
    crushed = len([car for car in yard.cars if car.crushed])
    in_stock = PLACES - free_places(yard)
    counts = [len(yard.kinds), len(yard.models), crushed, in_stock, len(record.earlier), len(record.later)]
    return [len(yard.cars)] + counts
