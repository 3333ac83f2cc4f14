"""Promise 5: br_sell, br_crush, br_cart, br_pump."""

from tests.helper import (MOST, YardCase, car, cart, crush, drain, kind, may_next, model, must, off, pump, run, sell,
                          start, stocked)

# Type 1 does harm; type 2 does, too, and needs type 0.
TYPES = [start(), kind(10, 5), kind(20, 6, 0, 1), kind(30, 7, 1, 1)]
DRY = TYPES + [model(kg=1000)]
WET = TYPES + [model(kg=1000, litres=80)]


class SellingParts(YardCase):
    def test_answers_its_type(self):
        self.assertEqual(run(stocked(9) + [sell(3), sell(0), sell(7), sell(8)])[-4:], [[3], [0], [7], [0]])

    def test_part_is_gone_and_the_others_stay(self):
        self.assertEqual(run(stocked(3) + [sell(1), sell(1), sell(0), sell(2)])[-4:], [[1], [-2], [0], [2]])

    def test_edges_of_the_price(self):
        for price in (0, 10000):
            self.assert_last(stocked(1) + [sell(0, price)], [0])
        for price in (10001, MOST):
            self.assert_refused(stocked(1), sell(0, price), -22)

    def test_not_there(self):
        self.assert_refused([start()], sell(0), -2)
        for i in (5, 29, 30, MOST):
            self.assert_refused(stocked(5), sell(i), -2)
        for i in (30, 31, MOST):
            self.assert_refused(stocked(30), sell(i), -2)
        self.assert_refused(stocked(5) + [sell(2)], sell(2), -2)

    def test_refusal_told_first(self):
        for i in (5, 30):
            self.assert_refused(stocked(5), sell(i, 10001), -2)


class Crushing(YardCase):
    def test_answers_its_kilograms_with_its_parts(self):
        self.assert_last(DRY + [car(), off(0, 1), off(0, 0), off(0, 2), crush(0)], [940])
        self.assert_last(DRY + [car(lacks=0b110), crush(0)], [950])

    def test_car_is_gone(self):
        setup = DRY + [car(lacks=6), crush(0), may_next(0), must(0, 0), off(0, 0), drain(0), crush(0)]
        self.assertEqual(run(setup)[-5:], [[-2]] * 5)

    def test_others_stay(self):
        self.assertEqual(run(DRY + [car(lacks=6), car(lacks=6), crush(0), may_next(1)])[-1], [1, 1])

    def test_kilograms_are_scrap(self):
        self.assert_last(DRY + [car(lacks=6), crush(0), cart(1000)], [950])
        self.assert_last(DRY + [car(lacks=6), car(lacks=7), crush(1), crush(0), cart(1000)], [1890])

    def test_parts_in_the_stock_stay(self):
        self.assertEqual(run(DRY + [car(lacks=6), off(0, 0), crush(0), sell(0)])[-2:], [[940], [0]])

    def test_not_there(self):
        self.assert_refused(DRY, crush(0), -2)
        for k in (1, 8, MOST):
            self.assert_refused(DRY + [car()], crush(k), -2)
        self.assert_refused(DRY + [car(lacks=6), crush(0)], crush(0), -2)

    def test_not_dry(self):
        self.assert_refused(WET + [car(lacks=6)], crush(0), -13)
        self.assert_last(WET + [car(lacks=6), drain(0), crush(0)], [950])

    def test_has_a_part_that_does_harm(self):
        self.assert_refused(DRY + [car()], crush(0), -16)
        self.assert_refused(DRY + [car(lacks=2)], crush(0), -16)
        self.assert_refused(DRY + [car(lacks=4)], crush(0), -16)
        self.assert_refused(DRY + [car(), off(0, 1)], crush(0), -16)

    def test_refusal_told_first(self):
        self.assert_refused(WET + [car()], crush(0), -13)
        self.assert_refused(WET + [car()], crush(1), -2)


class Carting(YardCase):
    def test_kilograms_times_price_by_tonne_rounded_down(self):
        setup = TYPES + [model(kg=1999), car(lacks=7), crush(0)]
        for price, earned in ((1000, 1939), (999, 1937), (100, 193), (1, 1), (0, 0)):
            self.assert_last(setup + [cart(price)], [earned])
        self.assert_last([start(), model(kg=999), car(), crush(0), cart(1)], [0])

    def test_of_all_cars_together(self):
        setup = [start(), model(kg=600), car(), car(), crush(0), crush(1), cart(1)]
        self.assert_last(setup, [1])
        self.assert_last([start(), model(kg=5000)] + [car()] * 8 + [crush(k) for k in range(8)] + [cart()], [40000])

    def test_all_of_it_is_sold(self):
        self.assert_refused([start(), model(), car(), car(), crush(0), cart(0)], cart(), -6)
        self.assert_last([start(), model(), car(), car(lacks=0), crush(0), cart(0), crush(1), cart()], [5000])

    def test_price_is_at_most_1000(self):
        for price in (1001, MOST):
            self.assert_refused([start(), model(), car(), crush(0)], cart(price), -22)

    def test_no_scrap(self):
        self.assert_refused([start(), model(), car()], cart(), -6)
        self.assert_refused([start()], cart(0), -6)
        self.assert_refused([start(), model(kg=0), car(), crush(0)], cart(), -6)

    def test_refusal_told_first(self):
        self.assert_refused([start(), model(), car()], cart(1001), -22)


class Pumping(YardCase):
    def test_answers_how_many_the_tank_has_then(self):
        self.assertEqual(run(WET + [car(), drain(0), pump(30, 2), pump(1, 100), pump(49)])[-3:], [[50], [49], [0]])

    def test_edges_of_the_price(self):
        for price in (0, 100):
            self.assert_last(WET + [car(), drain(0), pump(80, price)], [0])
        for price in (101, MOST):
            self.assert_refused(WET + [car(), drain(0)], pump(80, price), -22)

    def test_no_litres(self):
        self.assert_refused(WET + [car(), drain(0)], pump(0), -22)
        self.assert_refused(WET, pump(0), -22)

    def test_tank_has_less(self):
        for n in (81, MOST):
            self.assert_refused(WET + [car(), car(), drain(0)], pump(n), -12)
        self.assert_refused(WET + [car()], pump(1), -12)
        self.assert_refused(WET + [car(), drain(0), pump(80)], pump(1), -12)

    def test_refusal_told_first(self):
        self.assert_refused(WET + [car(), drain(0)], pump(81, 101), -22)
        self.assert_refused(WET, pump(0, 101), -22)
