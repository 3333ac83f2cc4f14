"""Promise 4 without br_least, which test_finding.py has: br_gather, what lacks, and the least way."""

from tests.helper import (MOST, YardCase, car, crush, drain, gather, kind, may_next, model, must, off, run, sell,
                          start, stocked, strip)

# Types 0 to 2 stand alone; 3 needs 0, 4 needs 0, 5 needs 1 and 2.
TYPES = [start(), kind(1, 100), kind(2, 20), kind(3, 3), kind(4, 7, 1), kind(5, 9, 1), kind(6, 11, 6)]
# Model 1 is like model 0 but in type 1; model 2 is like none; model 3 is like 0, and wet.
YARD = TYPES + [model(), model(groups=[0, 1, 0, 0, 0, 0, 0, 0]), model(groups=[2] * 8), model(litres=10)]


def stock_after(calls):
    """What stands at the places in turn, up to the first free one."""
    rows = run(calls + [sell(i) for i in range(30)])[-30:]
    return [row[0] for row in rows[:rows.index([-2])]]


class OneType(YardCase):
    def test_from_the_one_car(self):
        self.assertEqual(run(YARD + [car(), gather(0, 2), may_next(0)])[-2:], [[20], [2, 0b101]])
        self.assertEqual(stock_after(YARD + [car(), gather(0, 2)]), [1])

    def test_all_that_must_come_off_does(self):
        self.assertEqual(run(YARD + [car(), gather(0, 32), may_next(0)])[-2:], [[34], [1, 1]])
        self.assertEqual(stock_after(YARD + [car(), gather(0, 32)]), [1, 2, 5])

    def test_car_that_takes_least(self):
        setup = YARD + [car(), car(lacks=2), car(lacks=4), gather(0, 32)]
        self.assert_last(setup, [14])
        self.assertEqual(run(setup + [must(k, 5) for k in range(3)])[-3:], [[34, 38], [-6], [31, 34]])

    def test_first_of_alike_cars(self):
        setup = YARD + [car(lacks=1), car(), car(), gather(0, 1)]
        self.assertEqual(run(setup + [must(k, 0) for k in range(3)])[-4:], [[100], [-6], [-6], [100, 1]])

    def test_car_has_so_many_kg_less(self):
        self.assert_last(YARD + [car(), gather(0, 32), crush(0)], [5000 - 2 - 3 - 6])

    def test_what_it_lacks_between_needs_not_come_off(self):
        setup = [start(), kind(1, 100), kind(2, 200, 1), kind(3, 30, 2), model(), car(lacks=2), gather(0, 4)]
        self.assertEqual(run(setup + [may_next(0)])[-2:], [[30], [1, 1]])


class Lacking(YardCase):
    def test_nothing_lacks(self):
        setup = YARD + [car(), car(), off(0, 0), gather(0, 1)]
        self.assertEqual(run(setup + [must(1, 0)])[-2:], [[0], [100, 1]])

    def test_nothing_lacks_once_gathered(self):
        setup = YARD + [car(), car(), gather(0, 0b101001), gather(0, 0b101001), gather(3, 0b101001)]
        self.assertEqual(run(setup)[-3:], [[141], [0], [0]])
        self.assertEqual(stock_after(setup), [0, 1, 2, 3, 5])

    def test_no_car_is_needed_if_nothing_lacks(self):
        self.assert_last(YARD + [car(), off(0, 0), crush(0), gather(0, 1)], [0])

    def test_part_in_the_stock_that_does_not_fit(self):
        setup = YARD + [car(1), car(0), off(0, 1), gather(0, 2)]
        self.assertEqual(run(setup + [must(1, 1)])[-2:], [[20], [-6]])
        self.assert_last(YARD + [car(1), car(0), off(0, 1), gather(1, 2)], [0])

    def test_part_of_another_model_that_fits(self):
        self.assert_last(YARD + [car(1), off(0, 0), gather(0, 1)], [0])
        self.assert_last(YARD + [car(0), off(0, 0), gather(1, 1)], [0])

    def test_only_those_that_lack(self):
        setup = YARD + [car(lacks=2), car(lacks=1), car(), off(2, 1), gather(0, 3)]
        self.assertEqual(run(setup + [must(0, 0), must(1, 1)])[-3:], [[100], [-6], [20, 2]])

    def test_part_at_the_last_place(self):
        setup = stocked(30) + [sell(i) for i in range(29)]
        self.assert_last(setup + [gather(0, 0b100000)], [0])
        self.assert_last(setup + [gather(0, 0b1000000)], [5])

    def test_sold_part_lacks_again(self):
        self.assert_last(YARD + [car(), car(), off(0, 0), sell(0), gather(0, 1)], [100])


class SeveralTypes(YardCase):
    def test_what_must_come_off_for_several_counts_once(self):
        # Types 3 and 4 share type 0: from one car 116 minutes, from two 100 more.
        setup = YARD + [car(lacks=0b010000), car(), gather(0, 0b011000)]
        self.assertEqual(run(setup + [must(0, 3), may_next(1)])[-3:], [[116], [107, 9], [2, 6]])

    def test_type_that_comes_off_for_another_counts_once(self):
        setup = YARD + [car(lacks=0b101000), car(), gather(0, 0b001001)]
        self.assertEqual(run(setup + [must(0, 0), must(1, 4)])[-3:], [[107], [100, 1], [9, 16]])

    def test_apart_is_less_where_cars_lack_what_is_before(self):
        setup = YARD + [car(), car(lacks=1 | 16), car(lacks=1 | 8), gather(0, 0b011000)]
        self.assertEqual(run(setup + [must(0, 3), must(1, 3), must(2, 4)])[-4:], [[16], [107, 9], [-6], [-6]])

    def test_first_of_alike_ways(self):
        setup = YARD + [car()] * 3 + [gather(0, 7)]
        self.assertEqual(run(setup + [may_next(0), may_next(1), may_next(2)])[-4:], [[123], [3, 56], [3, 7], [3, 7]])

    def test_car_of_the_least_type_counts_first(self):
        # Types 3 and 4 from cars 0 and 2, or both from car 1: 41 minutes either way, any other way takes more.
        setup = [start(), kind(1, 30), kind(1, 10), kind(1, 20), kind(1, 5, 0b011), kind(1, 6, 0b101), model()]
        setup += [car(lacks=0b10101), car(lacks=0b00110), car(lacks=0b01011), gather(0, 0b11000)]
        self.assertEqual(run(setup + [may_next(k) for k in range(3)])[-4:], [[41], [0, 0], [1, 1], [0, 0]])

    def test_less_minutes_count_ahead_of_lesser_cars(self):
        # As before, but the way with car 1 takes 40 minutes.
        setup = [start(), kind(1, 29), kind(1, 10), kind(1, 20), kind(1, 5, 0b011), kind(1, 6, 0b101), model()]
        setup += [car(lacks=0b10101), car(lacks=0b00110), car(lacks=0b01011), gather(0, 0b11000)]
        self.assertEqual(run(setup + [may_next(k) for k in range(3)])[-4:], [[40], [1, 2], [0, 0], [1, 4]])

    def test_places_car_by_car_rising(self):
        setup = YARD + [car(lacks=0b000111), car(lacks=0b111000), gather(0, 0b001011)]
        self.assert_last(setup, [127])
        self.assertEqual(stock_after(setup), [3, 0, 1])
        setup = YARD + [car(lacks=0b111000), car(lacks=0b000110), gather(0, 0b101010)]
        self.assert_last(setup, [20 + 100 + 7 + 11])
        self.assertEqual(stock_after(setup), [1, 0, 3, 5])

    def test_part_that_comes_off_besides_is_in_the_stock(self):
        self.assertEqual(run(YARD + [car(), gather(0, 8), gather(0, 1)])[-2:], [[107], [0]])


class WhichCars(YardCase):
    def test_only_those_that_fit(self):
        setup = YARD + [car(1), car(2), car(0), gather(0, 2)]
        self.assertEqual(run(setup + [must(0, 1), must(1, 1), must(2, 1)])[-4:], [[20], [20, 2], [20, 2], [-6]])
        setup = YARD + [car(2), car(1), gather(0, 4)]
        self.assertEqual(run(setup + [must(0, 2), must(1, 2)])[-3:], [[3], [3, 4], [-6]])

    def test_what_is_before_need_not_fit(self):
        setup = TYPES + [model(), model(groups=[5, 5, 5, 0, 5, 5, 0, 0]), car(1), gather(0, 8)]
        self.assertEqual(run(setup + [gather(0, 1)])[-2:], [[107], [-33]])

    def test_only_dry_ones(self):
        setup = YARD + [car(3), car(0), gather(0, 1)]
        self.assertEqual(run(setup + [must(0, 0), must(1, 0)])[-3:], [[100], [100, 1], [-6]])
        setup = YARD + [car(3), car(0), drain(0), gather(0, 1)]
        self.assertEqual(run(setup + [must(0, 0), must(1, 0)])[-3:], [[100], [-6], [100, 1]])

    def test_none_that_is_crushed(self):
        setup = YARD + [car(), car(), crush(0), gather(0, 1)]
        self.assertEqual(run(setup + [must(1, 0)])[-2:], [[100], [-6]])


class Refusals(YardCase):
    def test_model_is_not_there(self):
        self.assert_refused([start(), kind()], gather(0, 1), -2)
        for m in (4, 6, MOST):
            self.assert_refused(YARD + [car()], gather(m, 1), -2)

    def test_types_not_as_told(self):
        for types in (0, 15, 63, 64, 65, 1 << 31, MOST):
            self.assert_refused(YARD + [car()], gather(0, types), -22)
        self.assert_last(YARD + [car(), gather(0, 0b111)], [123])
        self.assert_last(YARD + [car(), gather(0, 0b111000)], [100 + 20 + 3 + 7 + 9 + 11])

    def test_more_than_3_even_if_nothing_lacks(self):
        setup = YARD + [car()] + [strip(0, t) for t in (3, 5)]
        self.assert_refused(setup, gather(0, 15), -22)

    def test_no_way(self):
        self.assert_refused(YARD, gather(0, 1), -33)
        self.assert_refused(YARD + [car(lacks=1)], gather(0, 1), -33)
        self.assert_refused(YARD + [car(2), car(lacks=2)], gather(0, 2), -33)
        self.assert_refused(YARD + [car(3)], gather(0, 1), -33)
        self.assert_refused(YARD + [car(), crush(0)], gather(0, 1), -33)

    def test_no_way_for_one_of_several(self):
        for types in (0b011, 0b110, 0b111, 0b010):
            self.assert_refused(YARD + [car(lacks=2)], gather(0, types), -33)

    def test_as_many_free_places_as_must_come_off(self):
        setup = [start()] + [kind()] * 6 + [kind(), kind(needs=0b1100000), model()] + [car()] * 4
        setup += [strip(k, t) for k in range(3) for t in range(8)] + [sell(i) for i in (7, 15, 23)]
        setup += [off(3, t) for t in range(5)]
        self.assert_last(setup + [gather(0, 128)], [15])
        self.assert_last(setup + [car(lacks=254), off(4, 0), gather(0, 128)], [15])
        full = setup + [car(lacks=254), car(lacks=254), off(4, 0), off(5, 0)]
        self.assert_refused(full, gather(0, 128), -28)

    def test_nothing_lacks_with_a_full_stock(self):
        self.assert_last(stocked(30) + [gather(0, 7)], [0])

    def test_only_the_least_way_is_looked_at(self):
        # By the least way 3 parts come off, in 3 minutes; by the other 2 parts, in 601.
        setup = [start(), kind(1, 1), kind(1, 1), kind(1, 600), kind(1, 1, 7)] + [kind()] * 4
        setup += [model()] + [car(lacks=8)] * 4 + [strip(k, t) for k in range(4) for t in (0, 1, 2, 4, 5, 6, 7)]
        setup += [car(lacks=0b11110100), car(lacks=0b11110011)]
        self.assert_refused(setup, gather(0, 8), -28)
        self.assert_last(setup + [sell(0), gather(0, 8)], [3])

    def test_refusal_told_first(self):
        self.assert_refused(YARD, gather(4, 0), -2)
        self.assert_refused(YARD, gather(4, 1), -2)
        self.assert_refused(YARD, gather(0, 64), -22)
        # The stock is full, without a part of type 0, and so are the cars.
        full = stocked(30) + [sell(0), sell(8), sell(16), sell(24), car(lacks=1)] + [off(4, t) for t in (1, 2, 3, 4)]
        self.assert_refused(full, gather(2, 1), -2)
        self.assert_refused(full, gather(0, 256), -22)
        self.assert_refused(full, gather(0, 1), -33)
        self.assert_refused(full + [car()], gather(0, 1), -28)
