"""Promise 6 without br_look, which test_looking.py has: br_fits, br_must, br_may, br_next."""

from tests.helper import (MOST, YardCase, car, crush, drain, fits, kind, may, may_next, model, must, off, probe, run,
                          start)

# Type 1 needs 0, type 2 needs 1, type 3 needs nothing, type 4 needs 2 and 3.
CHAIN = [start(), kind(1, 100), kind(2, 200, 1), kind(3, 30, 2), kind(4, 4), kind(5, 50, 0b1100)]
DRY = CHAIN + [model()]
WET = CHAIN + [model(litres=60)]
THREE = [start(), kind(), kind(), model(groups=[1, 2] + [0] * 6), model(groups=[1, 3] + [0] * 6),
         model(groups=[4, 3] + [0] * 6)]


class Fits(YardCase):
    def test_same_group_of_that_type(self):
        for t, m, n, row in ((0, 0, 1, [1]), (1, 0, 1, [0]), (0, 1, 2, [0]), (1, 1, 2, [1]), (0, 0, 2, [0])):
            self.assert_last(THREE + [fits(t, m, n)], row)
            self.assert_last(THREE + [fits(t, n, m)], row)

    def test_fits_itself(self):
        self.assertEqual(run(THREE + [fits(t, m, m) for t in range(2) for m in range(3)])[-6:], [[1]] * 6)

    def test_without_cars(self):
        self.assert_last([start(), kind(), model(), fits(0, 0, 0)], [1])

    def test_not_there(self):
        for call in (fits(2, 0, 1), fits(MOST, 0, 1), fits(0, 3, 1), fits(0, MOST, 1), fits(0, 0, 3),
                     fits(0, 0, MOST), fits(7, 0, 0), fits(8, 0, 0), fits(MOST, MOST, MOST)):
            self.assert_refused(THREE, call, -2)


class Must(YardCase):
    def test_chain(self):
        setup = DRY + [car()]
        rows = [[100, 1], [300, 3], [330, 7], [4, 8], [384, 31]]
        self.assertEqual(run(setup + [must(0, t) for t in range(5)])[-5:], rows)

    def test_were_it_dry(self):
        self.assert_last(WET + [car(), must(0, 4)], [384, 31])

    def test_what_is_off_no_longer_must(self):
        self.assert_last(DRY + [car(), off(0, 0), off(0, 3), must(0, 4)], [280, 0b10110])

    def test_chain_ends_at_what_the_car_lacks(self):
        self.assert_last(DRY + [car(lacks=2), must(0, 2)], [30, 4])
        self.assert_last(DRY + [car(lacks=2), must(0, 4)], [84, 0b11100])
        self.assert_last(DRY + [car(lacks=4), must(0, 4)], [54, 0b11000])

    def test_most_minutes(self):
        chain = [kind(minutes=600, needs=(1 << t) >> 1) for t in range(8)]
        self.assert_last([start()] + chain + [model(), car(), must(0, 7)], [4800, 255])

    def test_not_there(self):
        for k in (1, 8, MOST):
            self.assert_refused(DRY + [car()], must(k, 0), -2)
        self.assert_refused(DRY + [car(), crush(0)], must(0, 0), -2)

    def test_has_not_that_type(self):
        self.assert_refused(DRY + [car(lacks=2)], must(0, 1), -6)
        self.assert_refused(DRY + [car(), off(0, 0)], must(0, 0), -6)

    def test_type_that_is_not_there_is_one_it_has_not(self):
        for t in (5, 8, 31, 32, MOST):
            self.assert_refused(DRY + [car()], must(0, t), -6)

    def test_refusal_told_first(self):
        self.assert_refused(DRY + [car(lacks=1)], must(1, 5), -2)


class May(YardCase):
    def test_only_if_nothing_is_before(self):
        self.assertEqual(run(DRY + [car()] + [may(0, t) for t in range(5)])[-5:], [[1], [0], [0], [1], [0]])

    def test_once_what_is_before_is_off(self):
        self.assertEqual(run(DRY + [car(), off(0, 0), may(0, 0), may(0, 1)])[-2:], [[0], [1]])

    def test_if_the_car_lacks_what_is_before(self):
        self.assertEqual(run(DRY + [car(lacks=0b1100), may(0, 4), may(0, 2), may(0, 1)])[-3:], [[1], [0], [0]])

    def test_only_from_a_dry_car(self):
        self.assertEqual(run(WET + [car(), may(0, 0), drain(0), may(0, 0)])[-3:], [[0], [60], [1]])

    def test_type_that_is_not_there(self):
        for t in (5, 8, 31, 32, MOST):
            self.assert_last(DRY + [car(), may(0, t)], [0])

    def test_not_there(self):
        for k in (1, 8, MOST):
            self.assert_refused(DRY + [car()], may(k, 0), -2)
        self.assert_refused(DRY + [car(), crush(0)], may(0, 0), -2)
        self.assert_refused(DRY + [car()], may(1, MOST), -2)


class Next(YardCase):
    def test_types_that_may_be_taken_off(self):
        self.assert_last(DRY + [car(), may_next(0)], [2, 0b1001])
        self.assert_last(DRY + [car(), off(0, 0), may_next(0)], [2, 0b1010])
        self.assert_last(DRY + [car(lacks=0b1100), may_next(0)], [2, 0b10001])

    def test_none(self):
        self.assert_last(WET + [car(), may_next(0)], [0, 0])
        self.assert_last(DRY + [car(lacks=31), may_next(0)], [0, 0])

    def test_not_there(self):
        for k in (1, 8, MOST):
            self.assert_refused(DRY + [car()], may_next(k), -2)
        self.assert_refused(DRY + [car(), crush(0)], may_next(0), -2)


class AskingChangesNothing(YardCase):
    def test_all_is_as_it_was(self):
        setup = THREE + [car(), car(1, 1), off(0, 1)]
        asks = [fits(0, 0, 1), must(0, 0), may(0, 0), may(1, 1), may_next(0), may_next(1)]
        rows = run(setup + asks + probe())
        self.assertEqual(rows[:len(setup)] + rows[len(setup) + len(asks):], run(setup + probe()))
