"""Promise 3: br_drain, br_off, br_strip, and the places that parts come to."""

from tests.helper import (MOST, YardCase, car, crush, drain, kind, may_next, model, must, off, pump, run, sell,
                          start, stocked, strip)

# Type 1 needs 0, type 2 needs 1, type 3 needs nothing, type 4 needs 2 and 3.
CHAIN = [start(), kind(1, 100), kind(2, 200, 1), kind(3, 30, 2), kind(4, 4), kind(5, 50, 0b1100)]
DRY = CHAIN + [model(kg=1000)]
WET = CHAIN + [model(kg=1000, litres=60)]


class Draining(YardCase):
    def test_answers_its_litres(self):
        self.assert_last(WET + [car(), drain(0)], [60])

    def test_litres_are_in_the_tank(self):
        setup = WET + [car(), car(), drain(1), drain(0), pump(120)]
        self.assertEqual(run(setup)[-3:], [[60], [60], [0]])
        self.assert_last(setup + [pump(1)], [-12])

    def test_car_is_dry_then(self):
        self.assertEqual(run(WET + [car(), off(0, 0), drain(0), off(0, 0)])[-3:], [[-13], [60], [100]])

    def test_only_that_car(self):
        self.assertEqual(run(WET + [car(), car(), drain(1), off(0, 0), off(1, 0)])[-2:], [[-13], [100]])

    def test_not_there(self):
        self.assert_refused(WET, drain(0), -2)
        for k in (1, 8, MOST):
            self.assert_refused(WET + [car()], drain(k), -2)
        self.assert_refused(WET + [car(), car(), drain(0), crush(0)], drain(0), -2)

    def test_dry_already(self):
        self.assert_refused(DRY + [car()], drain(0), -17)
        self.assert_refused(WET + [car(), drain(0)], drain(0), -17)
        self.assert_refused(WET + [car()] * 6 + [drain(k) for k in range(5)], drain(2), -17)

    def test_tank_has_at_most_300(self):
        setup = WET + [car()] * 6 + [drain(k) for k in range(5)]
        self.assert_last(setup, [60])
        self.assert_refused(setup, drain(5), -62)
        self.assert_refused(setup + [pump(59)], drain(5), -62)
        self.assert_last(setup + [pump(60), drain(5)], [60])

    def test_tank_one_litre_over(self):
        setup = [start(), model(litres=100), model(litres=1), car(), car(), car(), car(1), drain(0), drain(1)]
        self.assert_last(setup + [drain(2)], [100])
        self.assert_refused(setup + [drain(3)], drain(2), -62)


class TakingOff(YardCase):
    def test_answers_the_minutes(self):
        self.assertEqual(run(DRY + [car(), off(0, 0), off(0, 3), off(0, 1)])[-3:], [[100], [4], [200]])

    def test_car_has_it_no_longer(self):
        self.assertEqual(run(DRY + [car(), off(0, 3), must(0, 3), may_next(0)])[-2:], [[-6], [1, 1]])

    def test_car_has_so_many_kg_less(self):
        self.assert_last(DRY + [car(), off(0, 3), off(0, 0), crush(0)], [995])

    def test_part_is_in_the_stock(self):
        self.assertEqual(run(DRY + [car(), off(0, 3), off(0, 0), sell(1), sell(0), sell(2)])[-3:], [[0], [3], [-2]])

    def test_car_is_not_there(self):
        self.assert_refused(DRY, off(0, 0), -2)
        for k in (1, 8, MOST):
            self.assert_refused(DRY + [car()], off(k, 0), -2)
        self.assert_refused(DRY + [car(), car(), crush(0)], off(0, 0), -2)

    def test_has_not_that_type(self):
        self.assert_refused(DRY + [car(lacks=1), car()], off(0, 0), -6)
        self.assert_refused(DRY + [car(), off(0, 0)], off(0, 0), -6)

    def test_type_that_is_not_there_is_one_it_has_not(self):
        for t in (5, 8, 31, 32, MOST):
            self.assert_refused(DRY + [car()], off(0, t), -6)

    def test_not_dry(self):
        self.assert_refused(WET + [car()], off(0, 0), -13)

    def test_something_must_be_off_before(self):
        self.assert_refused(DRY + [car()], off(0, 1), -16)
        self.assert_refused(DRY + [car(lacks=0b1000)], off(0, 4), -16)
        self.assert_refused(DRY + [car(lacks=0b100)], off(0, 4), -16)

    def test_what_it_lacks_need_not_be_off_before(self):
        self.assert_last(DRY + [car(lacks=0b1100), off(0, 4)], [50])
        self.assert_last(DRY + [car(lacks=0b10), off(0, 2)], [30])

    def test_no_free_place(self):
        self.assert_last(stocked(29) + [off(3, 7)], [5])
        self.assert_refused(stocked(30), off(3, 7), -28)
        self.assert_last(stocked(30) + [sell(29), off(3, 7)], [5])

    def test_refusal_told_first(self):
        self.assert_refused(WET + [car(), drain(0), crush(0)], off(0, 9), -2)
        self.assert_refused(WET + [car(lacks=2)], off(0, 1), -6)
        self.assert_refused(WET + [car()], off(0, 1), -13)
        self.assert_refused(stocked(30) + [car(1)], off(9, 0), -2)
        self.assert_refused(stocked(30) + [car(1)], off(0, 0), -6)
        self.assert_refused(stocked(30) + [car(1)], off(4, 0), -13)

    def test_something_before_is_told_ahead_of_the_full_stock(self):
        setup = [start()] + [kind()] * 7 + [kind(needs=1), model()] + [car()] * 5
        setup += [strip(k, t) for k in range(3) for t in range(8)] + [off(3, t) for t in range(1, 7)]
        self.assert_refused(setup, off(4, 7), -16)
        self.assert_refused(setup, off(4, 6), -28)


class Stripping(YardCase):
    def test_all_that_must_come_off(self):
        rows = run(DRY + [car(), strip(0, 2), may_next(0), sell(0), sell(1), sell(2), sell(3)])
        self.assertEqual(rows[-6:], [[330], [1, 0b1000], [0], [1], [2], [-2]])

    def test_counts_once_and_several_needs(self):
        rows = run(DRY + [car(), strip(0, 4), may_next(0), crush(0)])
        self.assertEqual(rows[-3:], [[384], [0, 0], [985]])

    def test_nothing_before(self):
        self.assertEqual(run(DRY + [car(), strip(0, 3), may_next(0)])[-2:], [[4], [1, 1]])

    def test_what_is_off_already(self):
        self.assert_last(DRY + [car(), off(0, 0), strip(0, 2)], [230])

    def test_type_that_it_lacks_between_two_others(self):
        rows = run(DRY + [car(lacks=2), strip(0, 2), may_next(0), sell(0), sell(1)])
        self.assertEqual(rows[-4:], [[30], [2, 0b1001], [2], [-2]])

    def test_kg(self):
        self.assert_last(DRY + [car(), strip(0, 2), crush(0)], [994])

    def test_car_is_not_there(self):
        self.assert_refused(DRY, strip(0, 0), -2)
        for k in (1, 8, MOST):
            self.assert_refused(DRY + [car()], strip(k, 0), -2)
        self.assert_refused(DRY + [car(), crush(0)], strip(0, 0), -2)

    def test_has_not_that_type(self):
        self.assert_refused(DRY + [car(lacks=4)], strip(0, 2), -6)
        self.assert_refused(DRY + [car(), strip(0, 2)], strip(0, 1), -6)
        for t in (5, 8, 31, 32, MOST):
            self.assert_refused(DRY + [car()], strip(0, t), -6)

    def test_not_dry(self):
        self.assert_refused(WET + [car()], strip(0, 4), -13)

    def test_as_many_free_places_as_must_come_off(self):
        setup = [start()] + [kind()] * 6 + [kind(), kind(needs=0b1100000), model(), model(litres=9)] + [car()] * 4
        setup += [strip(k, t) for k in range(3) for t in range(8)] + [off(3, 0), off(3, 1), off(3, 2)]
        self.assert_last(setup + [strip(3, 7)], [15])
        self.assert_refused(setup + [off(3, 3)], strip(3, 7), -28)
        self.assert_last(setup + [off(3, 3), off(3, 5), strip(3, 6)], [5])
        self.assert_refused(setup + [strip(3, 7)], strip(3, 4), -28)
        self.assert_last(setup + [strip(3, 7), sell(11), strip(3, 4)], [5])

    def test_refusal_told_first(self):
        self.assert_refused(WET + [car(), drain(0), crush(0)], strip(0, 9), -2)
        self.assert_refused(WET + [car(lacks=2)], strip(0, 1), -6)
        self.assert_refused(stocked(30) + [car(1)], strip(9, 0), -2)
        self.assert_refused(stocked(30) + [car(1)], strip(0, 0), -6)
        self.assert_refused(stocked(30) + [car(1)], strip(4, 0), -13)
        self.assert_refused(stocked(30) + [car(0)], strip(4, 0), -28)


class Places(YardCase):
    def test_free_place_with_the_least_number(self):
        setup = stocked(8) + [sell(5), sell(2), off(1, 0), off(1, 1), off(1, 3)]
        self.assertEqual(run(setup + [sell(2), sell(5), sell(8), sell(9)])[-4:], [[0], [1], [3], [-2]])

    def test_by_rising_types(self):
        setup = DRY + [car(), car(lacks=0b10110), strip(1, 0), strip(1, 3), sell(0), strip(0, 4)]
        self.assertEqual(run(setup + [sell(i) for i in range(7)])[-7:], [[0], [3], [1], [2], [3], [4], [-2]])

    def test_last_place(self):
        self.assertEqual(run(stocked(30) + [sell(29), sell(30), sell(29)])[-3:], [[5], [-2], [-2]])
