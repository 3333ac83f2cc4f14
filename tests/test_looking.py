"""br_look of promise 6, br_part of promise 7, and promise 8: br_count, br_alike, br_harm."""

from tests.helper import (MOST, YardCase, alike, back, car, count, crush, drain, gather, harm_in, kind, look, model,
                          off, part, probe, pump, run, sell, start, stocked, strip)

# Type 1 needs 0, type 2 needs 1 and does harm, type 3 stands alone and does harm, type 4 needs 2 and 3.
TYPES = [start(), kind(1, 100), kind(2, 200, 1), kind(30, 30, 2, 1), kind(4, 4, 0, 1), kind(5, 50, 0b1100)]
DRY = TYPES + [model(kg=1000), model(kg=2000, litres=60)]


class Look(YardCase):
    def test_model_types_litres_kilograms(self):
        self.assert_last(DRY + [car(), look(0)], [0, 31, 0, 1000])
        self.assert_last(DRY + [car(), car(1), look(1)], [1, 31, 60, 2000])

    def test_what_it_lacks(self):
        self.assert_last(DRY + [car(1, 0b00110), look(0)], [1, 0b11001, 60, 2000 - 32])
        self.assert_last(DRY + [car(0, 31), look(0)], [0, 0, 0, 1000 - 42])

    def test_behind_changes(self):
        setup = DRY + [car(1), drain(0)]
        self.assert_last(setup + [look(0)], [1, 31, 0, 2000])
        self.assert_last(setup + [off(0, 0), look(0)], [1, 30, 0, 1999])
        self.assert_last(setup + [strip(0, 2), look(0)], [1, 0b11000, 0, 2000 - 33])
        self.assert_last(setup + [gather(0, 8), look(0)], [1, 0b10111, 0, 2000 - 4])
        self.assert_last(setup + [off(0, 0), sell(0), pump(60), look(0)], [1, 30, 0, 1999])

    def test_each_car_its_own(self):
        setup = DRY + [car(), car(lacks=3), off(0, 3)]
        self.assertEqual(run(setup + [look(0), look(1)])[-2:], [[0, 0b10111, 0, 996], [0, 0b11100, 0, 997]])

    def test_without_types_and_with_the_most(self):
        self.assert_last([start(), model(kg=0), car(), look(0)], [0, 0, 0, 0])
        setup = [start()] + [kind(500)] * 8 + [model()] * 5 + [model(5000, 100)] + [car(5)] * 8
        self.assert_last(setup + [look(7)], [5, 255, 100, 5000])

    def test_not_there(self):
        self.assert_refused(DRY, look(0), -2)
        for k in (1, 8, MOST):
            self.assert_refused(DRY + [car()], look(k), -2)

    def test_crushed(self):
        setup = DRY + [car(lacks=0b01100), car()]
        self.assert_refused(setup + [crush(0)], look(0), -2)
        self.assert_last(setup + [crush(0), look(1)], [0, 31, 0, 1000])
        self.assert_last(setup + [crush(0), back(), look(0)], [0, 0b10011, 0, 1000 - 34])


class Part(YardCase):
    def test_type_model_kilograms(self):
        setup = DRY + [car(1), car(0), drain(0), off(0, 3), off(1, 0), off(0, 0)]
        self.assertEqual(run(setup + [part(0), part(1), part(2)])[-3:], [[3, 1, 4], [0, 0, 1], [0, 1, 1]])

    def test_last_place(self):
        self.assert_last(stocked(30) + [part(29)], [5, 0, 10])

    def test_part_of_a_car_that_is_crushed(self):
        self.assert_last(DRY + [car(lacks=0b01100), off(0, 0), crush(0), part(0)], [0, 0, 1])

    def test_free_place(self):
        self.assert_refused([start()], part(0), -2)
        self.assert_refused(stocked(4), part(4), -2)
        self.assert_refused(stocked(4), part(29), -2)
        self.assert_refused(stocked(4) + [sell(1)], part(1), -2)

    def test_no_such_place(self):
        for setup in (stocked(4), stocked(30)):
            for i in (30, 31, MOST):
                self.assert_refused(setup, part(i), -2)


class Count(YardCase):
    def test_in_the_stock_then_in_cars(self):
        setup = stocked(0) + [off(0, 1), off(1, 1), off(2, 1), off(2, 7)]
        self.assertEqual(run(setup + [count(t) for t in (0, 1, 7)])[-3:], [[0, 4], [3, 1], [1, 3]])

    def test_none(self):
        self.assert_last([start(), kind(), count(0)], [0, 0])
        self.assert_last(DRY + [car(lacks=1), count(0)], [0, 0])

    def test_cars_of_all_models_dry_or_not(self):
        self.assert_last(DRY + [car(0), car(1), car(1, 1), count(0)], [0, 2])

    def test_sold_parts_are_gone(self):
        self.assert_last(stocked(9) + [sell(0), count(0)], [1, 2])

    def test_crushed_cars_are_gone(self):
        setup = stocked(0) + [crush(0), crush(2)]
        self.assert_last(setup + [count(3)], [0, 2])
        self.assert_last(setup + [back(), count(3)], [0, 3])
        self.assert_last(setup + [crush(1), crush(3), count(3)], [0, 0])

    def test_most(self):
        setup = [start(), kind(), model()] + [car()] * 8
        self.assert_last(setup + [count(0)], [0, 8])
        self.assert_last(setup + [off(k, 0) for k in range(8)] + [count(0)], [8, 0])

    def test_type_is_not_there(self):
        self.assert_refused([start()], count(0), -2)
        for t in (5, 7, 8, 31, 32, MOST):
            self.assert_refused(DRY + [car()], count(t), -2)


class Alike(YardCase):
    def test_no_model(self):
        self.assert_last([start(), kind(), alike(0)], [0, 0, 0, 0, 0, 0, 0])

    def test_one_model(self):
        for group in (0, 9):
            self.assert_last([start(), kind(), model(groups=[group] * 8), alike(0)], [1, group, 0, 0, 0, 0, 0])

    def test_0_behind_them_is_no_group(self):
        setup = [start(), kind(), model(groups=[3] * 8), model(groups=[4] * 8), alike(0)]
        self.assert_last(setup, [2, 3, 4, 0, 0, 0, 0])

    def test_of_that_type(self):
        setup = [start(), kind(), kind(), model(groups=[1, 2] + [0] * 6), model(groups=[1, 0] + [0] * 6)]
        self.assertEqual(run(setup + [alike(0), alike(1)])[-2:], [[1, 1, 1, 0, 0, 0, 0], [2, 2, 0, 0, 0, 0, 0]])

    def test_6_models(self):
        for groups, number in (((5, 3, 5, 0, 3, 9), 4), ((7,) * 6, 1), ((9, 8, 7, 6, 5, 4), 6), ((0,) * 6, 1)):
            setup = [start(), kind()] + [model(groups=[group] * 8) for group in groups]
            self.assert_last(setup + [alike(0)], [number, *groups])

    def test_last_type(self):
        setup = [start()] + [kind()] * 8 + [model(groups=range(8)), model(groups=[0] * 7 + [7])]
        self.assert_last(setup + [alike(7)], [1, 7, 7, 0, 0, 0, 0])

    def test_type_is_not_there(self):
        self.assert_refused([start(), model()], alike(0), -2)
        for t in (5, 7, 8, MOST):
            self.assert_refused(DRY, alike(t), -2)


class Harm(YardCase):
    def test_types_and_minutes_of_all_that_must_come_off(self):
        self.assert_last(DRY + [car(), harm_in(0)], [2, 0b01100, 334])

    def test_were_it_dry(self):
        self.assert_last(DRY + [car(1), harm_in(0)], [2, 0b01100, 334])

    def test_only_those_that_it_has(self):
        self.assert_last(DRY + [car(lacks=0b01000), harm_in(0)], [1, 0b00100, 330])
        self.assert_last(DRY + [car(lacks=0b00100), harm_in(0)], [1, 0b01000, 4])
        self.assert_last(DRY + [car(), off(0, 3), off(0, 0), harm_in(0)], [1, 0b00100, 230])

    def test_chain_ends_at_what_the_car_lacks(self):
        self.assert_last(DRY + [car(lacks=0b00010), harm_in(0)], [2, 0b01100, 34])

    def test_none(self):
        self.assert_last(DRY + [car(lacks=0b01100), harm_in(0)], [0, 0, 0])
        self.assert_last(stocked(0) + [harm_in(0)], [0, 0, 0])

    def test_what_must_come_off_for_several_counts_once(self):
        setup = [start(), kind(1, 100), kind(1, 7, 1, 1), kind(1, 9, 3, 1), model(), car()]
        self.assert_last(setup + [harm_in(0)], [2, 0b110, 116])

    def test_most(self):
        setup = [start()] + [kind(1, 600, (1 << t) - 1, 1) for t in range(8)] + [model(), car()]
        self.assert_last(setup + [harm_in(0)], [8, 255, 4800])

    def test_once_they_are_off_it_can_be_crushed(self):
        setup = DRY + [car(), strip(0, 2), strip(0, 3), harm_in(0), crush(0)]
        self.assertEqual(run(setup)[-2:], [[0, 0, 0], [1000 - 37]])

    def test_not_there(self):
        self.assert_refused(DRY, harm_in(0), -2)
        for k in (1, 8, MOST):
            self.assert_refused(DRY + [car()], harm_in(k), -2)
        self.assert_refused(DRY + [car(lacks=0b01100), crush(0)], harm_in(0), -2)


class LookingChangesNothing(YardCase):
    def test_all_is_as_it_was(self):
        setup = DRY + [car(), car(1, 1), off(0, 3), off(0, 0), back()]
        looks = [look(0), look(1), part(0), count(0), count(3), alike(0), harm_in(0), harm_in(1)]
        rows = run(setup + looks + probe())
        self.assertEqual(rows[:len(setup)] + rows[len(setup) + len(looks):], run(setup + probe()))
