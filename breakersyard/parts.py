"""Parts of one car: which it has, which may or must come off, and taking them off."""


def kinds_in(bits):
    return [t for t in range(bits.bit_length()) if (bits >> t) & 1 == 1]


def bits_of(numbers):
    bits = 0
    for number in numbers:
        bits = bits | (1 << number)
    return bits


def minutes_of(yard, bits):
    return sum([yard.kinds[t].minutes for t in kinds_in(bits)])


def kilograms_of(yard, bits):
    return sum([yard.kinds[t].kg for t in kinds_in(bits)])


def harmful_kinds(yard):
    bits = 0
    for t, kind in enumerate(yard.kinds):
        bits = bits | (kind.harm << t)
    return bits


def is_dry(car):
    return car.litres == 0


def has_part(car, t):
    # The bits are shifted, not a 1: t may be any number, and 1 << t would grow with it.
    return (car.has >> t) & 1 == 1


def is_held_back(yard, car, t):
    return (yard.kinds[t].needs & car.has) != 0


def may_come_off(yard, car, t):
    return is_dry(car) and has_part(car, t) and not is_held_back(yard, car, t)


def must_come_off(yard, car, wanted):
    """All that must come off for wanted, kinds that the car has; both as bits."""
    must = wanted
    # What must be off before a kind has lesser numbers, so one walk downwards meets the whole chain.
    for t in range(len(yard.kinds) - 1, -1, -1):
        if (must >> t) & 1 == 1:
            must = must | (yard.kinds[t].needs & car.has)
    return must


def free_places(yard):
    return yard.stock.count(None)


def take_off(yard, car, bits):
    """Bring these parts of the car to the stock, which has room for them; answer the minutes."""
    for t in kinds_in(bits):
        place = yard.stock.index(None)
        yard.stock[place] = (t, car.model)
    car.has = car.has & ~bits
    car.kg -= kilograms_of(yard, bits)
    minutes = minutes_of(yard, bits)
    yard.minutes += minutes
    return minutes
