"""Promise 10, and what promise 1 says of changes: br_back, br_again, br_state."""

from tests.helper import (YardCase, again, alike, back, car, cart, count, crush, drain, find, fits, gather, had_from,
                          harm_in, kind, lacking, least, litres_told, look, may, may_next, model, money, must, off,
                          part, probe, pump, run, sell, shown, start, state, stocked, strip, weights)

# Type 1 needs 0; type 2 does harm.
TYPES = [start(), kind(1, 100), kind(20, 200, 1), kind(300, 30, 0, 1)]
YARD = TYPES + [model(kg=1000), model(kg=2000, litres=60), car(), car(1), car(1), drain(1), car(lacks=4), car(lacks=4),
                off(0, 2), crush(4)]
# Calls of each kind of change that the yard above doesn't refuse; br_type, which it does, is tried by itself.
CHANGES = [model(), car(1, 2), drain(2), off(0, 0), strip(0, 1), gather(0, 2), gather(0, 4), sell(0, 7), crush(3),
           cart(9), pump(60, 2)]
LOOKS = [fits(0, 0, 1), must(0, 0), may(0, 0), may_next(0), look(0), find(2, 0), had_from(0, 0), least(0, 3),
         lacking(0, 7), part(0), count(0), alike(0), harm_in(0), weights(), litres_told(), money(), state()]
REFUSED = [kind(), kind(0), model(0), car(9), drain(0), drain(9), off(0, 1), strip(9, 0), gather(0, 0), sell(9),
           crush(1), crush(4), cart(1001), pump(61), pump(0), fits(9, 0, 0), must(9, 0), may(9, 0), look(4),
           find(0, 0), find(9, 0), had_from(9, 0), least(0, 0), least(9, 1), lacking(9, 0), lacking(0, 8), part(1),
           count(9), alike(9), harm_in(9)]


def counts(rows):
    """Of rows of br_state how many changes can be taken back and done again."""
    return [row[5:] for row in rows]


class Back(YardCase):
    def test_nothing_to_take_back(self):
        self.assert_refused([start()], back(), -2)
        self.assert_refused([start(), kind(), back()], back(), -2)

    def test_answers_how_many_still_can_be(self):
        self.assertEqual(run([start()] + [kind()] * 3 + [back()] * 4)[-4:], [[2], [1], [0], [-2]])

    def test_each_kind_of_change(self):
        for call in CHANGES:
            with self.subTest(call=call):
                rows = run(YARD + shown() + [call, back()] + shown())[len(YARD):]
                ahead, behind = rows[:50], rows[52:]
                self.assertEqual(behind[:-1], ahead[:-1])
                self.assertEqual(rows[51], [len(YARD) - 1])
                self.assertEqual(behind[-1], ahead[-1][:-1] + [1])

    def test_type(self):
        rows = run(TYPES + [kind(harm=1, needs=7), back(), state(), count(3), kind()])
        self.assertEqual(rows[-4:], [[3], [0, 3, 0, 0, 0, 3, 1], [-2], [3]])

    def test_type_that_is_taken_back_leaves_nothing(self):
        setup = TYPES + [kind(500, 600, 7, 1), back(), kind(1, 5), model(kg=322), car(), must(0, 3), harm_in(0)]
        self.assertEqual(run(setup)[-4:], [[0], [0], [5, 8], [1, 4, 30]])

    def test_in_their_order(self):
        setup = YARD + [off(0, 0), off(0, 1), sell(0)]
        rows = run(setup + [call for step in range(4) for call in (look(0), part(0), back())])[-12:]
        self.assertEqual([row[1] for row in rows[0::3]], [0, 0, 0b10, 0b11])
        self.assertEqual(rows[1::3], [[-2], [2, 0, 300], [2, 0, 300], [2, 0, 300]])

    def test_after_it_the_yard_goes_on_as_if_the_change_had_not_been(self):
        for call in CHANGES:
            with self.subTest(call=call):
                other = run(YARD + [call, back(), pump(1)] + probe())[len(YARD) + 2:]
                self.assertEqual(other, run(YARD + [pump(1)] + probe())[len(YARD):])


class Again(YardCase):
    def test_nothing_to_do_again(self):
        self.assert_refused([start()], again(), -2)
        self.assert_refused([start(), kind()], again(), -2)
        self.assert_refused([start(), kind(), back(), again()], again(), -2)

    def test_answers_how_many_there_still_are(self):
        rows = run([start()] + [kind()] * 3 + [back()] * 3 + [again()] * 4)
        self.assertEqual(rows[-4:], [[2], [1], [0], [-2]])

    def test_each_kind_of_change(self):
        for call in CHANGES:
            with self.subTest(call=call):
                rows = run(YARD + [call, back(), again()] + probe())
                self.assertEqual(rows[len(YARD) + 1:len(YARD) + 3], [[len(YARD) - 1], [0]])
                self.assertEqual(rows[len(YARD) + 3:], run(YARD + [call] + probe())[len(YARD) + 1:])

    def test_type(self):
        setup = TYPES + [kind(40, 9, 1, 1), back(), again(), model(), car(), must(0, 3), harm_in(0)]
        self.assertEqual(run(setup)[-5:], [[0], [0], [0], [109, 9], [2, 12, 139]])

    def test_the_one_that_was_taken_back_last(self):
        rows = run(YARD + [off(0, 0), off(0, 1), back(), back(), again(), look(0), again(), look(0)])
        self.assertEqual([row[1] for row in (rows[-3], rows[-1])], [0b10, 0])

    def test_another_change_ends_it(self):
        for call in CHANGES:
            with self.subTest(call=call):
                rows = run(YARD + [pump(1), pump(1), back(), back(), call, state(), again()])
                self.assertEqual(counts(rows[-2:-1]), [[len(YARD), 0]])
                self.assertEqual(rows[-1], [-2])
        self.assert_last([start(), kind(), back(), kind(), again()], [-2])

    def test_the_same_change_made_anew_ends_it_too(self):
        self.assert_last(YARD + [off(0, 0), off(0, 1), back(), back(), off(0, 0), again()], [-2])

    def test_back_and_again_in_turn(self):
        rows = run(YARD + [off(0, 0)] + [back(), look(0), again(), look(0)] * 40)[-160:]
        self.assertEqual(rows, [[len(YARD) - 1], [0, 3, 0, 700], [0], [0, 2, 0, 699]] * 40)


class HowMany(YardCase):
    def model_up_to(self, changes):
        """So many changes, each of which sells one litre."""
        return [start(), model(litres=100), car(), drain(0)] + [pump(1)] * (changes - 3)

    def test_30_changes(self):
        rows = run(self.model_up_to(30) + [state()] + [back()] * 31 + [state(), weights()])
        self.assertEqual(counts([rows[-34]]), [[30, 0]])
        self.assertEqual(rows[-33:-2], [[left] for left in range(29, -1, -1)] + [[-2]])
        self.assertEqual(rows[-2:], [[0, 0, 0, 0, 0, 0, 30], [0, 0, 0, 0, 0]])

    def test_31_changes(self):
        rows = run(self.model_up_to(31) + [state()] + [back()] * 31 + [state()])
        self.assertEqual(counts([rows[-33]]), [[30, 0]])
        self.assertEqual(rows[-32:-1], [[left] for left in range(29, -1, -1)] + [[-2]])
        # The first of the 31 changes, the model, stands.
        self.assertEqual(rows[-1], [0, 0, 1, 0, 0, 0, 30])

    def test_all_30_can_be_done_again(self):
        for changes in (30, 31, 60):
            with self.subTest(changes=changes):
                setup = self.model_up_to(changes)
                rows = run(setup + [back()] * 30 + [again()] * 31 + shown())
                self.assertEqual(rows[-81:-50], [[left] for left in range(29, -1, -1)] + [[-2]])
                self.assertEqual(rows[-50:], run(setup + shown())[-50:])

    def test_no_more_than_30_go_back_after_doing_again(self):
        rows = run(self.model_up_to(40) + [back()] * 5 + [again()] * 3 + [state(), pump(1), state(), pump(1), state()])
        self.assertEqual(counts([rows[-5], rows[-3], rows[-1]]), [[28, 2], [29, 0], [30, 0]])

    def test_those_before_the_last_30_stay_out_of_reach(self):
        rows = run(self.model_up_to(40) + [back()] * 30 + [pump(1), state(), back(), back(), litres_told()])
        self.assertEqual(counts([rows[-4]]), [[1, 0]])
        self.assertEqual(rows[-3:], [[0], [-2], [100, 0, 93, 7]])


class WhatIsNoChange(YardCase):
    def test_looks_leave_both_as_they_are(self):
        setup = YARD + [pump(1), pump(1), pump(1), back()]
        for call in LOOKS:
            with self.subTest(call=call):
                rows = run(setup + [call] + probe())
                self.assertGreaterEqual(rows[len(setup)][0], 0)
                self.assertEqual(rows[len(setup) + 1:], run(setup + probe())[len(setup):])

    def test_refused_calls_leave_both_as_they_are(self):
        setup = YARD + [pump(1), pump(1), pump(1), back()]
        for call in REFUSED:
            with self.subTest(call=call):
                rows = run(setup + [call, state(), again(), again(), state()])[len(setup):]
                self.assertLess(rows[0][0], 0)
                self.assertEqual(counts([rows[1], rows[4]]), [[len(YARD) + 1, 1], [len(YARD) + 2, 0]])
                self.assertEqual(rows[2:4], [[0], [-2]])

    def test_refused_back_and_again(self):
        rows = run([start(), kind(), back(), back(), state(), again(), again(), state()])
        self.assertEqual(counts([rows[4], rows[7]]), [[0, 1], [1, 0]])

    def test_gathering_nothing_is_a_change(self):
        setup = YARD + [pump(1), back(), gather(0, 4), state(), again(), back(), state()]
        rows = run(setup)[-5:]
        self.assertEqual(rows[0], [0])
        self.assertEqual(counts([rows[1], rows[4]]), [[len(YARD), 0], [len(YARD) - 1, 1]])

    def test_start_ends_both(self):
        setup = YARD + [pump(1), pump(1), back(), start()]
        self.assertEqual(run(setup + [state(), back(), again()])[-3:], [[0] * 7, [-2], [-2]])
        self.assertEqual(run(setup + [kind(), back(), back(), again(), again()])[-4:], [[0], [-2], [0], [-2]])


class State(YardCase):
    def test_at_first(self):
        self.assert_last([start(), state()], [0, 0, 0, 0, 0, 0, 0])

    def test_order_of_the_numbers(self):
        self.assert_last(YARD + [back(), state()], [5, 3, 2, 0, 1, 12, 1])
        self.assert_last(YARD + [state()], [5, 3, 2, 1, 1, 13, 0])

    def test_types_and_models(self):
        self.assert_last([start()] + [kind()] * 8 + [state()], [0, 8, 0, 0, 0, 8, 0])
        self.assert_last([start()] + [kind()] * 8 + [model()] * 6 + [state()], [0, 8, 6, 0, 0, 14, 0])

    def test_crushed_cars_have_been_there(self):
        setup = [start(), model()] + [car()] * 8 + [crush(k) for k in (0, 3, 7)]
        self.assert_last(setup + [state()], [8, 0, 1, 3, 0, 12, 0])
        self.assert_last(setup + [crush(k) for k in (1, 2, 4, 5, 6)] + [state()], [8, 0, 1, 8, 0, 17, 0])

    def test_parts_in_the_stock(self):
        self.assert_last(stocked(30) + [state()], [4, 8, 2, 0, 30, 30, 0])
        self.assert_last(stocked(9) + [sell(0), sell(4), state()], [4, 8, 2, 0, 7, 25, 0])

    def test_changes_all_the_while(self):
        calls = [kind(), kind(), back(), again(), model(), back(), back(), again(), model(), model(9, 0), back(),
                 kind(0), look(0), again(), again(), start()]
        rows = run([start(), state()] + [one for call in calls for one in (call, state())])[1::2]
        self.assertEqual(counts(rows), [[0, 0], [1, 0], [2, 0], [1, 1], [2, 0], [3, 0], [2, 1], [1, 2], [2, 1], [3, 0],
                                        [3, 0], [2, 1], [2, 1], [2, 1], [3, 0], [3, 0], [0, 0]])
