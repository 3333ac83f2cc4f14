"""Promise 2: br_type, br_model, br_car."""

from tests.helper import (MOST, YardCase, car, crush, drain, fits, kind, may_next, model, must, off, run, start,
                          stocked)

EIGHT = [start()] + [kind()] * 8


class AddingTypes(YardCase):
    def test_numbers_rise_from_0(self):
        self.assertEqual(run(EIGHT), [[0]] + [[n] for n in range(8)])

    def test_edges_of_kg_and_minutes(self):
        for kg in (1, 500):
            self.assert_last([start(), kind(kg=kg)], [0])
        for minutes in (1, 600):
            self.assert_last([start(), kind(minutes=minutes)], [0])

    def test_kg_not_as_told(self):
        for kg in (0, 501, MOST):
            self.assert_refused([start(), kind()], kind(kg=kg), -22)

    def test_minutes_not_as_told(self):
        for minutes in (0, 601, MOST):
            self.assert_refused([start(), kind()], kind(minutes=minutes), -22)

    def test_needs_are_types_that_are_there(self):
        self.assert_last([start(), kind(), kind(), kind(needs=3)], [2])
        self.assert_last([start()] + [kind()] * 7 + [kind(needs=127)], [7])
        self.assert_refused([start()], kind(needs=1), -22)
        self.assert_refused([start(), kind(), kind()], kind(needs=4), -22)
        self.assert_refused([start(), kind(), kind()], kind(needs=7), -22)
        for needs in (256, 1 << 31, MOST):
            self.assert_refused([start(), kind()], kind(needs=needs), -22)

    def test_harm_not_as_told(self):
        self.assert_last([start(), kind(harm=1)], [0])
        for harm in (2, MOST):
            self.assert_refused([start(), kind()], kind(harm=harm), -22)

    def test_not_once_there_is_a_model(self):
        self.assert_refused([start(), kind(), model()], kind(), -16)
        self.assert_refused([start(), model()], kind(), -16)

    def test_at_most_8(self):
        self.assert_refused(EIGHT, kind(), -28)
        self.assert_refused(EIGHT, kind(needs=255), -28)

    def test_refusal_told_first(self):
        for wrong in (kind(kg=0), kind(minutes=601), kind(needs=256), kind(harm=2)):
            self.assert_refused(EIGHT, wrong, -22)
            self.assert_refused(EIGHT + [model()], wrong, -22)
        self.assert_refused(EIGHT + [model()], kind(), -16)


class AddingModels(YardCase):
    def test_numbers_rise_from_0(self):
        self.assertEqual(run([start()] + [model()] * 6), [[0]] + [[n] for n in range(6)])

    def test_kg_is_at_least_that_of_all_types(self):
        types = [start(), kind(kg=500), kind(kg=3)]
        self.assert_last(types + [model(kg=503)], [0])
        for kg in (0, 502):
            self.assert_refused(types, model(kg=kg), -22)
        self.assert_last([start()] + [kind(kg=500)] * 8 + [model(kg=4000)], [0])
        self.assert_refused([start()] + [kind(kg=500)] * 8, model(kg=3999), -22)

    def test_kg_may_be_0_without_types(self):
        self.assertEqual(run([start(), model(kg=0), car(), crush(0)])[1:], [[0], [0], [0]])

    def test_kg_is_at_most_5000(self):
        self.assert_last([start(), model(kg=5000)], [0])
        for kg in (5001, MOST):
            self.assert_refused([start(), kind()], model(kg=kg), -22)

    def test_litres_are_at_most_100(self):
        for litres in (0, 100):
            self.assert_last([start(), model(litres=litres)], [0])
        for litres in (101, MOST):
            self.assert_refused([start(), kind()], model(litres=litres), -22)

    def test_groups_are_0_to_9(self):
        self.assert_last(EIGHT + [model(groups=[9] * 8)], [0])
        self.assert_last(EIGHT + [model(groups=range(8))], [0])
        for t in range(8):
            for group in (10, MOST):
                groups = [9] * 8
                groups[t] = group
                self.assert_refused(EIGHT, model(groups=groups), -22)

    def test_groups_behind_the_types_are_looked_at_too(self):
        self.assert_refused([start(), kind()], model(groups=[0, 10, 0, 0, 0, 0, 0, 0]), -22)
        self.assert_refused([start()], model(groups=[0, 0, 0, 0, 0, 0, 0, 10]), -22)

    def test_groups_stand_in_order_of_the_types(self):
        setup = EIGHT + [model(groups=range(8)), model(groups=[3] * 8)]
        self.assertEqual(run(setup + [fits(t, 0, 1) for t in range(8)])[-8:], [[int(t == 3)] for t in range(8)])

    def test_at_most_6(self):
        self.assert_refused([start(), kind()] + [model()] * 6, model(), -28)

    def test_refusal_told_first(self):
        for wrong in (model(kg=5001), model(litres=101), model(groups=[10] * 8)):
            self.assert_refused([start()] + [model()] * 6, wrong, -22)


class AddingCars(YardCase):
    def test_numbers_rise_from_0(self):
        self.assertEqual(run([start(), model()] + [car()] * 8)[2:], [[n] for n in range(8)])

    def test_has_all_types_but_those_it_lacks(self):
        setup = EIGHT + [model(), car(), car(lacks=0b10100001), car(lacks=255)]
        self.assertEqual(run(setup + [may_next(k) for k in range(3)])[-3:], [[8, 255], [5, 0b01011110], [0, 0]])

    def test_without_types(self):
        self.assertEqual(run([start(), model(), car(), may_next(0), must(0, 0)])[-2:], [[0, 0], [-6]])

    def test_kg_are_the_models_less_what_it_lacks(self):
        setup = [start(), kind(kg=1), kind(kg=20), kind(kg=300), model(kg=400), model(kg=321)]
        for m, lacks, kg in ((0, 0, 400), (0, 0b101, 99), (1, 7, 0), (1, 2, 301)):
            self.assert_last(setup + [car(m, lacks), crush(0)], [kg])

    def test_litres_are_the_models(self):
        setup = [start(), kind(), model(litres=7), model(litres=100), car(1), car(0), drain(0), drain(1)]
        self.assertEqual(run(setup)[-2:], [[100], [7]])

    def test_cars_of_one_model_are_each_their_own(self):
        setup = [start(), kind(), model(litres=7), car(), car(), drain(0), off(0, 0), must(1, 0), drain(1)]
        self.assertEqual(run(setup)[-2:], [[5, 1], [7]])

    def test_model_is_not_there(self):
        self.assert_refused([start(), kind()], car(0), -2)
        for m in (1, 6, MOST):
            self.assert_refused([start(), kind(), model()], car(m), -2)

    def test_lacks_a_type_that_is_not_there(self):
        self.assert_refused([start(), model()], car(lacks=1), -22)
        for lacks in (2, 3, 256, MOST):
            self.assert_refused([start(), kind(), model()], car(lacks=lacks), -22)

    def test_at_most_8_ever(self):
        self.assert_refused([start(), model()] + [car()] * 8, car(), -28)
        self.assert_refused([start(), model()] + [car()] * 8 + [crush(3), crush(7)], car(), -28)

    def test_refusal_told_first(self):
        full = [start(), kind(), model()] + [car()] * 8
        self.assert_refused(full, car(1, 2), -2)
        self.assert_refused(full, car(1, 0), -2)
        self.assert_refused(full, car(0, 2), -22)

    def test_crushed_cars_keep_their_numbers(self):
        self.assert_last(stocked(0) + [crush(0), crush(3), car()], [4])
