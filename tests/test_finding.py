"""Promise 7 without br_part, and br_least of promise 4: br_find, br_from, br_lacking, br_least."""

from tests.helper import (MOST, YardCase, back, car, crush, drain, find, gather, had_from, kind, lacking, least, look,
                          model, off, probe, run, sell, start, stocked, strip)

# Types 0 to 2 stand alone; 3 needs 0, 4 needs 0, 5 needs 1 and 2.
TYPES = [start(), kind(1, 100), kind(2, 20), kind(3, 3), kind(4, 7, 1), kind(5, 9, 1), kind(6, 11, 6)]
# Model 1 is like model 0 but in type 1; model 2 is like none; model 3 is like 0, and wet.
YARD = TYPES + [model(), model(groups=[0, 1, 0, 0, 0, 0, 0, 0]), model(groups=[2] * 8), model(litres=10)]


class Find(YardCase):
    def test_least_place(self):
        setup = YARD + [car(), car(), off(0, 1), off(0, 0), off(1, 0)]
        self.assert_last(setup + [find(0, 0)], [1])
        self.assert_last(setup + [find(1, 0)], [0])
        self.assert_last(setup + [sell(1), find(0, 0)], [2])

    def test_least_place_is_not_the_first_that_came(self):
        setup = YARD + [car(), car(), off(0, 1), off(0, 0), sell(0), off(1, 0)]
        self.assert_last(setup + [find(0, 0)], [0])

    def test_only_one_that_fits(self):
        setup = YARD + [car(2), car(1), car(0), off(0, 1), off(1, 1), off(2, 1)]
        self.assertEqual(run(setup + [find(1, m) for m in range(4)])[-4:], [[2], [1], [0], [2]])

    def test_fits_in_that_type(self):
        setup = YARD + [car(1), off(0, 1), off(0, 0)]
        self.assertEqual(run(setup + [find(0, 0), find(1, 0)])[-2:], [[1], [-33]])

    def test_last_place(self):
        self.assert_last(stocked(30) + [sell(i) for i in range(29)] + [find(5, 1)], [29])

    def test_none_that_fits(self):
        self.assert_refused(YARD, find(0, 0), -33)
        self.assert_refused(YARD + [car()], find(0, 0), -33)
        self.assert_refused(YARD + [car(2), off(0, 0)], find(0, 0), -33)
        self.assert_refused(YARD + [car(), off(0, 0), sell(0)], find(0, 0), -33)
        self.assert_refused(YARD + [car(), off(0, 0)], find(1, 0), -33)

    def test_not_there(self):
        setup = YARD + [car(), off(0, 0)]
        self.assert_refused([start()], find(0, 0), -2)
        self.assert_refused([start(), kind()], find(0, 0), -2)
        self.assert_refused([start(), model()], find(0, 0), -2)
        for t in (6, 8, MOST):
            self.assert_refused(setup, find(t, 0), -2)
        for m in (4, 6, MOST):
            self.assert_refused(setup, find(0, m), -2)

    def test_refusal_told_first(self):
        self.assert_refused(YARD, find(6, 0), -2)
        self.assert_refused(YARD, find(0, 4), -2)
        self.assert_refused(YARD, find(MOST, MOST), -2)


class From(YardCase):
    def test_cars_as_bits(self):
        self.assert_last(YARD + [car()] * 3 + [had_from(0, 0)], [3, 0b111])
        self.assert_last(YARD + [car(lacks=1), car(), car(lacks=1), car(), had_from(0, 0)], [2, 0b1010])
        self.assert_last(YARD + [car()] * 8 + [had_from(5, 0)], [8, 255])

    def test_none(self):
        self.assert_last(YARD + [had_from(0, 0)], [0, 0])
        self.assert_last(YARD + [car(lacks=1), car(2), had_from(0, 0)], [0, 0])

    def test_only_those_that_fit(self):
        setup = YARD + [car(0), car(1), car(2)]
        rows = [[1, 0b001], [1, 0b010], [1, 0b100], [1, 0b001], [2, 0b011]]
        self.assertEqual(run(setup + [had_from(1, m) for m in range(4)] + [had_from(2, 0)])[-5:], rows)

    def test_only_dry_ones(self):
        setup = YARD + [car(3), car(0), car(3)]
        self.assert_last(setup + [had_from(0, 0)], [1, 0b010])
        self.assert_last(setup + [drain(2), had_from(0, 0)], [2, 0b110])
        self.assert_last(setup + [drain(2), back(), had_from(0, 0)], [1, 0b010])

    def test_none_that_is_crushed(self):
        setup = YARD + [car(), car(), car(), crush(1)]
        self.assert_last(setup + [had_from(0, 0)], [2, 0b101])
        self.assert_last(setup + [back(), had_from(0, 0)], [3, 0b111])

    def test_those_with_something_before_it_too(self):
        self.assert_last(YARD + [car(), car(lacks=1), had_from(3, 0)], [2, 0b11])

    def test_none_that_it_is_off(self):
        self.assert_last(YARD + [car(), car(), off(0, 0), had_from(0, 0)], [1, 0b10])

    def test_not_there(self):
        self.assert_refused([start()], had_from(0, 0), -2)
        self.assert_refused([start(), kind()], had_from(0, 0), -2)
        self.assert_refused([start(), model(), car()], had_from(0, 0), -2)
        for t in (6, 8, MOST):
            self.assert_refused(YARD + [car()], had_from(t, 0), -2)
        for m in (4, 6, MOST):
            self.assert_refused(YARD + [car()], had_from(0, m), -2)


class Lacking(YardCase):
    def test_those_that_lack_as_bits(self):
        setup = YARD + [car(), off(0, 0), off(0, 2)]
        self.assert_last(setup + [lacking(0, 0b000111)], [1, 0b000010])
        self.assert_last(setup + [lacking(0, 0b000101)], [0, 0])
        self.assert_last(setup + [lacking(0, 0b111000)], [3, 0b111000])

    def test_types_0(self):
        self.assert_last(YARD + [lacking(0, 0)], [0, 0])
        self.assert_last([start(), model(), lacking(0, 0)], [0, 0])

    def test_more_than_3_types(self):
        self.assert_last(YARD + [lacking(0, 63)], [6, 63])
        self.assert_last(YARD + [car(), strip(0, 5), lacking(0, 63)], [3, 0b011001])
        self.assert_last(stocked(0) + [lacking(1, 255)], [8, 255])
        self.assert_last(stocked(30) + [lacking(1, 255)], [0, 0])

    def test_of_that_model(self):
        setup = YARD + [car(1), off(0, 0), off(0, 1)]
        rows = [[1, 0b10], [0, 0], [2, 0b11], [1, 0b10]]
        self.assertEqual(run(setup + [lacking(m, 3) for m in range(4)])[-4:], rows)

    def test_sold_part_lacks_again(self):
        self.assert_last(YARD + [car(), off(0, 0), sell(0), lacking(0, 1)], [1, 1])

    def test_nothing_lacks_once_gathered(self):
        self.assertEqual(run(YARD + [car(), gather(0, 0b101010), lacking(0, 0b101010)])[-1], [0, 0])

    def test_model_is_not_there(self):
        self.assert_refused([start(), kind()], lacking(0, 1), -2)
        for m in (4, 6, MOST):
            self.assert_refused(YARD, lacking(m, 1), -2)

    def test_type_is_not_there(self):
        self.assert_refused([start(), model()], lacking(0, 1), -22)
        for types in (64, 65, 127, 256, 1 << 31, MOST):
            self.assert_refused(YARD, lacking(0, types), -22)

    def test_refusal_told_first(self):
        self.assert_refused(YARD, lacking(4, 64), -2)
        self.assert_refused(YARD, lacking(4, 0), -2)
        self.assert_refused(YARD, lacking(MOST, MOST), -2)


class Least(YardCase):
    def assert_least(self, setup, types, row, m=0):
        """br_least answers the row, and br_gather right behind it the same minutes, from the same cars."""
        rows = run(setup + [least(m, types), gather(m, types), lacking(m, types)])
        self.assertEqual(rows[-3:], [row, row[:1], [0, 0]])
        named = {row[at + 1] - 1 for at in (1, 3, 5) if row[at + 1] > 0}
        looks = [look(k) for k in range(8)]
        before = run(setup + looks)[-8:]
        then = run(setup + [gather(m, types)] + looks)[-8:]
        self.assertEqual({k for k in range(8) if before[k] != then[k]}, named)

    def test_nothing_lacks(self):
        self.assert_least(YARD + [car(), car(), off(0, 0)], 0b001, [0, 0, 0, 0, 0, 0, 0])
        self.assert_least(YARD + [car(), off(0, 0), crush(0)], 0b001, [0, 0, 0, 0, 0, 0, 0])
        self.assert_least(YARD + [car(), strip(0, 5), strip(0, 3)], 0b101010, [0, 0, 0, 0, 0, 0, 0])

    def test_one_type_lacks(self):
        self.assert_least(YARD + [car()], 0b000001, [100, 0, 1, 0, 0, 0, 0])
        self.assert_least(YARD + [car(lacks=32), car()], 0b100000, [34, 5, 2, 0, 0, 0, 0])
        self.assert_least(YARD + [car()] + [car(lacks=6)] * 7, 0b100000, [11, 5, 2, 0, 0, 0, 0])
        self.assert_least(YARD + [car(lacks=63)] * 7 + [car()], 0b000010, [20, 1, 8, 0, 0, 0, 0])

    def test_two_types_lack(self):
        self.assert_least(YARD + [car()], 0b000011, [120, 0, 1, 1, 1, 0, 0])
        self.assert_least(YARD + [car(lacks=1), car(lacks=32)], 0b100001, [134, 0, 2, 5, 1, 0, 0])

    def test_three_types_lack(self):
        self.assert_least(YARD + [car()], 0b000111, [123, 0, 1, 1, 1, 2, 1])
        setup = YARD + [car(lacks=0b110), car(lacks=0b101), car(lacks=0b011)]
        self.assert_least(setup, 0b000111, [123, 0, 1, 1, 2, 2, 3])
        setup = YARD + [car(lacks=63), car(lacks=0b011), car(lacks=0b101), car(lacks=0b110)]
        self.assert_least(setup, 0b000111, [123, 0, 4, 1, 3, 2, 2])

    def test_only_those_that_lack_are_told(self):
        setup = YARD + [car(), car(lacks=7), off(0, 1)]
        self.assert_least(setup, 0b000111, [103, 0, 1, 2, 1, 0, 0])
        self.assert_least(setup, 0b000110, [3, 2, 1, 0, 0, 0, 0])

    def test_part_in_the_stock_that_does_not_fit_lacks(self):
        setup = YARD + [car(1), car(0), off(0, 1)]
        self.assert_least(setup, 0b000010, [20, 1, 2, 0, 0, 0, 0])
        self.assert_least(setup, 0b000010, [0, 0, 0, 0, 0, 0, 0], m=1)

    def test_needs_of_several_types_from_one_car_count_once(self):
        # Types 3 and 4 share type 0; 0 itself is wanted, too.
        self.assert_least(YARD + [car()], 0b011000, [116, 3, 1, 4, 1, 0, 0])
        self.assert_least(YARD + [car()], 0b011001, [116, 0, 1, 3, 1, 4, 1])
        self.assert_least(YARD + [car(lacks=16), car()], 0b011000, [116, 3, 2, 4, 2, 0, 0])

    def test_apart_is_less_where_cars_lack_what_is_before(self):
        setup = YARD + [car(), car(lacks=1 | 16), car(lacks=1 | 8)]
        self.assert_least(setup, 0b011000, [16, 3, 2, 4, 3, 0, 0])

    def test_first_of_alike_ways(self):
        self.assert_least(YARD + [car()] * 3, 0b000111, [123, 0, 1, 1, 1, 2, 1])
        self.assert_least(YARD + [car(lacks=2)] + [car()] * 2, 0b000111, [123, 0, 1, 1, 2, 2, 1])
        self.assert_least(YARD + [car(2), car(3), car(1), car(0)], 0b000011, [120, 0, 3, 1, 4, 0, 0])

    def test_car_of_the_least_type_counts_first(self):
        # Types 3 and 4 from cars 0 and 2, or both from car 1: 41 minutes either way, any other way takes more.
        setup = [start(), kind(1, 30), kind(1, 10), kind(1, 20), kind(1, 5, 0b011), kind(1, 6, 0b101), model()]
        setup += [car(lacks=0b10101), car(lacks=0b00110), car(lacks=0b01011)]
        self.assert_least(setup, 0b11000, [41, 3, 1, 4, 3, 0, 0])

    def test_less_minutes_count_ahead_of_lesser_cars(self):
        setup = [start(), kind(1, 29), kind(1, 10), kind(1, 20), kind(1, 5, 0b011), kind(1, 6, 0b101), model()]
        setup += [car(lacks=0b10101), car(lacks=0b00110), car(lacks=0b01011)]
        self.assert_least(setup, 0b11000, [40, 3, 2, 4, 2, 0, 0])

    def test_only_dry_cars_that_fit(self):
        self.assert_least(YARD + [car(3), car(2), car(0)], 0b000001, [100, 0, 3, 0, 0, 0, 0])
        self.assert_least(YARD + [car(3), drain(0), car(0)], 0b000001, [100, 0, 1, 0, 0, 0, 0])
        self.assert_least(YARD + [car(), car(), crush(0)], 0b000001, [100, 0, 2, 0, 0, 0, 0])

    def test_most_minutes(self):
        setup = [start()] + [kind(1, 600, (1 << t) - 1) for t in range(8)] + [model(), car()]
        self.assert_least(setup, 0b11100000, [4800, 5, 1, 6, 1, 7, 1])

    def test_full_stock_is_no_hindrance(self):
        setup = stocked(30) + [sell(i) for i in (0, 8, 16, 24)] + [car()] + [off(4, t) for t in (1, 2, 3, 4)]
        rows = run(setup + [least(0, 1), gather(0, 1)])[-2:]
        self.assertEqual(rows, [[5, 0, 5, 0, 0, 0, 0], [-28]])

    def test_model_is_not_there(self):
        self.assert_refused([start(), kind()], least(0, 1), -2)
        for m in (4, 6, MOST):
            self.assert_refused(YARD + [car()], least(m, 1), -2)

    def test_types_not_as_told(self):
        for types in (0, 15, 63, 64, 65, 256, 1 << 31, MOST):
            self.assert_refused(YARD + [car()], least(0, types), -22)
        self.assert_refused(YARD + [car(), strip(0, 3), strip(0, 5)], least(0, 15), -22)

    def test_no_way(self):
        self.assert_refused(YARD, least(0, 1), -33)
        self.assert_refused(YARD + [car(lacks=1)], least(0, 1), -33)
        self.assert_refused(YARD + [car(2), car(lacks=2)], least(0, 2), -33)
        self.assert_refused(YARD + [car(3)], least(0, 1), -33)
        self.assert_refused(YARD + [car(), crush(0)], least(0, 1), -33)
        for types in (0b011, 0b110, 0b111, 0b010):
            self.assert_refused(YARD + [car(lacks=2)], least(0, types), -33)

    def test_refusal_told_first(self):
        self.assert_refused(YARD, least(4, 0), -2)
        self.assert_refused(YARD, least(4, 1), -2)
        self.assert_refused(YARD, least(MOST, MOST), -2)
        self.assert_refused(YARD, least(0, 0), -22)
        self.assert_refused(YARD, least(0, 64), -22)


class FindingChangesNothing(YardCase):
    def test_all_is_as_it_was(self):
        setup = YARD + [car(), car(1), off(0, 0), off(1, 1), back()]
        looks = [find(0, 0), find(1, 0), had_from(0, 0), lacking(0, 63), least(0, 7), least(0, 0b111000), least(0, 1)]
        rows = run(setup + looks + probe())
        self.assertEqual(rows[:len(setup)] + rows[len(setup) + len(looks):], run(setup + probe()))
