"""Promise 9: br_weights, br_litres, br_money."""

from tests.helper import (YardCase, again, back, car, cart, crush, drain, gather, kind, least, litres_told, model,
                          money, off, probe, pump, run, sell, start, strip, weights)

# Type 1 needs 0, type 2 needs 1; type 3 does harm.
TYPES = [start(), kind(1, 100), kind(20, 200, 1), kind(300, 30, 2), kind(4, 4, 0, 1)]
YARD = TYPES + [model(kg=1000), model(kg=2000, litres=60)]


class Weights(YardCase):
    def test_nothing_came(self):
        self.assert_last([start(), weights()], [0, 0, 0, 0, 0])
        self.assert_last(YARD + [weights()], [0, 0, 0, 0, 0])

    def test_in_cars(self):
        self.assert_last(YARD + [car(), weights()], [1000, 1000, 0, 0, 0])
        self.assert_last(YARD + [car(), car(1), weights()], [3000, 3000, 0, 0, 0])

    def test_what_a_car_lacks_never_came(self):
        self.assert_last(YARD + [car(lacks=0b0110), weights()], [680, 680, 0, 0, 0])

    def test_in_the_stock(self):
        self.assert_last(YARD + [car(), off(0, 3), weights()], [1000, 996, 4, 0, 0])
        self.assert_last(YARD + [car(), strip(0, 2), weights()], [1000, 679, 321, 0, 0])
        self.assert_last(YARD + [car(), gather(0, 0b1010), weights()], [1000, 975, 25, 0, 0])

    def test_scrap(self):
        setup = YARD + [car(), car(), off(0, 3), off(0, 0), crush(0)]
        self.assert_last(setup + [weights()], [2000, 1000, 5, 995, 0])
        self.assert_last(setup + [off(1, 3), crush(1), weights()], [2000, 0, 9, 1991, 0])

    def test_sold(self):
        setup = YARD + [car(), car(), off(0, 3), off(0, 0)]
        self.assert_last(setup + [sell(0, 7), weights()], [2000, 1995, 1, 0, 4])
        self.assert_last(setup + [crush(0), cart(0), weights()], [2000, 1000, 5, 0, 995])
        self.assert_last(setup + [crush(0), cart(0), sell(1), weights()], [2000, 1000, 4, 0, 996])

    def test_fluids_weigh_nothing(self):
        self.assert_last(YARD + [car(1), drain(0), pump(9), weights()], [2000, 2000, 0, 0, 0])

    def test_most(self):
        setup = [start(), model()] + [car()] * 8
        self.assert_last(setup + [weights()], [40000, 40000, 0, 0, 0])
        self.assert_last(setup + [crush(k) for k in range(8)] + [weights()], [40000, 0, 0, 40000, 0])
        self.assert_last(setup + [crush(k) for k in range(8)] + [cart(), weights()], [40000, 0, 0, 0, 40000])

    def test_full_stock_of_the_heaviest(self):
        setup = [start()] + [kind(kg=500)] * 8 + [model(kg=4000)] + [car()] * 4
        setup += [off(n // 8, n % 8) for n in range(30)]
        self.assert_last(setup + [weights()], [16000, 1000, 15000, 0, 0])


class Litres(YardCase):
    def test_nothing_came(self):
        self.assert_last([start(), litres_told()], [0, 0, 0, 0])
        self.assert_last(YARD + [car(), litres_told()], [0, 0, 0, 0])

    def test_in_cars(self):
        self.assert_last(YARD + [car(1), car(1), litres_told()], [120, 120, 0, 0])

    def test_in_the_tank(self):
        self.assert_last(YARD + [car(1), car(1), drain(1), litres_told()], [120, 60, 60, 0])

    def test_sold(self):
        setup = YARD + [car(1), car(1), drain(1)]
        self.assert_last(setup + [pump(11, 3), litres_told()], [120, 60, 49, 11])
        self.assert_last(setup + [pump(11, 3), pump(1), pump(48, 100), litres_told()], [120, 60, 0, 60])

    def test_crushed_cars_leave_theirs_in_the_tank(self):
        setup = YARD + [car(1), drain(0), off(0, 3), crush(0)]
        self.assert_last(setup + [litres_told()], [60, 0, 60, 0])

    def test_most(self):
        setup = [start(), model(litres=100)] + [car()] * 8 + [drain(k) for k in range(8)]
        self.assert_last(setup + [litres_told()], [800, 500, 300, 0])


class Money(YardCase):
    def test_nothing(self):
        self.assert_last([start(), money()], [0, 0])
        self.assert_last(YARD + [car(), money()], [0, 0])

    def test_minutes_in_all(self):
        self.assert_last(YARD + [car(), off(0, 3), money()], [0, 4])
        self.assert_last(YARD + [car(), off(0, 3), strip(0, 2), money()], [0, 334])
        self.assert_last(YARD + [car(), car(), strip(0, 2), gather(0, 8), off(1, 0), money()], [0, 434])

    def test_gathering_what_is_there_takes_no_minutes(self):
        self.assert_last(YARD + [car(), off(0, 0), gather(0, 1), money()], [0, 100])

    def test_asking_takes_no_minutes(self):
        self.assert_last(YARD + [car(), least(0, 7), money()], [0, 0])

    def test_earned(self):
        setup = YARD + [car(1), drain(0), off(0, 3), off(0, 0)]
        self.assert_last(setup + [sell(0, 10000), money()], [10000, 104])
        self.assert_last(setup + [sell(0, 0), money()], [0, 104])
        self.assert_last(setup + [sell(0, 30), sell(1, 5), money()], [35, 104])
        self.assert_last(setup + [pump(20, 100), pump(3, 1), pump(1, 0), money()], [2003, 104])
        self.assert_last(setup + [crush(0), money()], [0, 104])
        self.assert_last(setup + [crush(0), cart(999), money()], [1995 * 999 // 1000, 104])
        self.assert_last(setup + [crush(0), cart(1), pump(2, 2), sell(1, 9), money()], [1 + 4 + 9, 104])

    def test_refused_sales_earn_nothing(self):
        setup = YARD + [car(1), drain(0), off(0, 3)]
        self.assert_last(setup + [sell(0, 10001), sell(1, 5), pump(61, 1), pump(1, 101), cart(5), money()], [0, 4])


class TakenBack(YardCase):
    """Each kind of change, with the accounts ahead of it, behind it, taken back, and done again."""

    SETUP = YARD + [car(), car(1), car(0), drain(1), off(1, 3), off(2, 3), crush(2)]

    def look_at(self, call, same):
        told = [weights(), litres_told(), money()]
        rows = run(self.SETUP + told + [call] + told + [back()] + told + [again()] + told)[len(self.SETUP):]
        self.assertGreaterEqual(rows[3][0], 0)
        self.assertEqual(rows[0:3] == rows[4:7], same)
        self.assertEqual(rows[8:11], rows[0:3])
        self.assertEqual(rows[12:15], rows[4:7])
        for at in (0, 4, 8, 12):
            self.assertEqual(rows[at][0], sum(rows[at][1:]))
            self.assertEqual(rows[at + 1][0], sum(rows[at + 1][1:]))

    def test_each_kind_of_change(self):
        for call in (car(), car(1, 3), off(0, 3), off(1, 0), strip(0, 2), gather(0, 6), sell(0, 9), cart(500),
                     pump(7, 2), pump(60)):
            with self.subTest(call=call):
                self.look_at(call, False)

    def test_drain_and_crush(self):
        self.SETUP = self.SETUP + [car(1), car(lacks=8)]
        self.look_at(drain(3), False)
        self.look_at(crush(4), False)

    def test_changes_that_the_accounts_do_not_tell(self):
        for call in (model(), gather(0, 8)):
            with self.subTest(call=call):
                self.look_at(call, True)
        self.SETUP = [start(), kind()]
        self.look_at(kind(), True)

    def test_all_the_way_back(self):
        calls = self.SETUP[1:] + [sell(0, 5), cart(1000), pump(60, 3)]
        rows = run(self.SETUP[:1] + calls + [back()] * len(calls) + [weights(), litres_told(), money()])
        self.assertEqual(rows[-3:], [[0, 0, 0, 0, 0], [0, 0, 0, 0], [0, 0]])


class TellingChangesNothing(YardCase):
    def test_all_is_as_it_was(self):
        setup = YARD + [car(), car(1), off(0, 3), sell(0, 5), back()]
        told = [weights(), litres_told(), money()]
        rows = run(setup + told + probe())
        self.assertEqual(rows[:len(setup)] + rows[len(setup) + len(told):], run(setup + probe()))
