"""The interface, and promise 1: the form of what is given back, br_start, and that nothing is kept."""

from breakersyard.yard import answers
from tests.helper import MOST, YardCase, car, drain, kind, may_next, model, must, off, probe, run, start, stocked


class FormOfAnswers(YardCase):
    def test_counts_stand_before_answers(self):
        calls = [0, 1, 10, 7, 0, 0, 2, 100, 3, 8, 1, 2, 3, 4, 5, 6, 7, 8, 3, 0, 0, 4, 0, 13, 0, 0, 15, 0]
        self.assertEqual(answers(calls), [1, 0, 1, 0, 1, 0, 1, 0, 1, 3, 2, 7, 1, 2, 1, 1])

    def test_refusal_is_its_number_alone(self):
        self.assertEqual(answers([0, 13, 0, 0, 15, 0, 0]), [1, 0, 1, -2, 1, -2, 1, 0])

    def test_row_is_read_by_its_count(self):
        self.assertEqual(answers([0, 2, 9, 9, 8, 0, 0, 0, 0, 0, 0, 0, 9, 3, 0, 0]), [1, 0, 1, 0, 1, 0])

    def test_answers_are_whole_numbers(self):
        setup = [start(), kind(), model(litres=3), car(), must(0, 0), may_next(0), [12, 0, 0, 0], [14, 0, 0], [24, 0]]
        given_back = answers([number for call in setup + probe() for number in call])
        self.assertIs(type(given_back), list)
        self.assertEqual({type(number) for number in given_back}, {int})

    def test_thousand_calls(self):
        rows = run([start()] + [kind()] * 8 + [model()] + [car()] * 8 + [may_next(0)] * 982)
        self.assertEqual(len(rows), 1000)
        self.assertEqual(rows[-1], [8, 255])

    def test_each_call_takes_its_own_numbers(self):
        sizes = {1: 4, 3: 2, 4: 1, 5: 2, 6: 2, 7: 2, 8: 2, 9: 1, 10: 1, 11: 2, 12: 3, 13: 2, 14: 2, 15: 1, 16: 1, 17: 2,
                 18: 2, 19: 2, 20: 2, 21: 1, 22: 1, 23: 1, 24: 1, 28: 0, 29: 0}
        for number, size in sizes.items():
            with self.subTest(number=number):
                given_back = answers([0, number] + [MOST] * size + [0])
                self.assertEqual(len(given_back), 6)
                self.assertLess(given_back[3], 0)
                self.assertEqual(given_back[4:], [1, 0])

    def test_calls_without_numbers(self):
        self.assertEqual(answers([0, 25, 26, 27, 28, 29, 30]),
                         [1, 0, 5, 0, 0, 0, 0, 0, 4, 0, 0, 0, 0, 2, 0, 0, 1, -2, 1, -2, 7, 0, 0, 0, 0, 0, 0, 0])

    def test_number_first_then_out_without_a_count(self):
        setup = [start(), kind(), kind(20, 6, 1, 1), model(500, 9, [4] * 8), car(), drain(0), off(0, 0)]
        asked = [[16, 0], [17, 0, 0], [18, 1, 0], [19, 0, 3], [20, 0, 3], [21, 0], [22, 1], [23, 1], [24, 0], [25],
                 [26], [27], [30], [28], [29]]
        told = [[0, 2, 0, 490], [0], [1, 1], [6, 1, 1, 0, 0, 0, 0], [1, 2], [0, 0, 10], [0, 1], [1, 4, 0, 0, 0, 0, 0],
                [1, 2, 6], [500, 490, 10, 0, 0], [9, 0, 9, 0], [0, 5], [1, 2, 1, 0, 1, 6, 0], [5], [0]]
        self.assertEqual(run(setup + asked)[len(setup):], told)

    def test_longest_list(self):
        rows = run([start()] + [model()] * 999)
        self.assertEqual(rows[1:], [[m] for m in range(6)] + [[-28]] * 993)
        rows = run(stocked(0) + [[19, 0, 7]] * (1000 - len(stocked(0))))
        self.assertEqual(rows[-1], [15, 0, 1, 1, 1, 2, 1])


class Fixed(list):
    """A list that can't be changed, not for a while either."""

    def refuse(self, *given):
        raise AssertionError("the list handed in is changed")

    append = clear = extend = insert = pop = remove = reverse = sort = refuse
    __setitem__ = __delitem__ = __iadd__ = __imul__ = refuse


class NothingIsKept(YardCase):
    def test_list_handed_in_is_not_changed(self):
        calls = [number for call in stocked(9) + probe() for number in call]
        before = list(calls)
        answers(calls)
        self.assertEqual(calls, before)
        self.assertEqual(answers(Fixed(calls)), answers(calls))

    def test_second_time_knows_nothing_of_the_first(self):
        calls = [number for call in stocked(30) + probe() for number in call]
        first = answers(calls)
        self.assertEqual(answers([0, 15, 0, 8, 0, 0, 11, 1, 0, 10, 0]), [1, 0, 1, -2, 1, -2, 1, -12, 1, -6])
        self.assertEqual(answers([0, 28, 29, 30]), [1, 0, 1, -2, 1, -2, 7, 0, 0, 0, 0, 0, 0, 0])
        self.assertEqual(answers(calls), first)

    def test_what_is_given_back_is_new(self):
        first = answers([0])
        first.append(7)
        self.assertEqual(answers([0]), [1, 0])


class Start(YardCase):
    def test_answers_0(self):
        self.assert_last([start()], [0])
        self.assert_last([start(), kind(), start()], [0])

    def test_nothing_is_there(self):
        rows = run([start()] + probe())
        self.assertEqual(rows, run(stocked(30) + [start()] + probe())[-len(rows):])

    def test_tank_and_scrap_are_empty_again(self):
        setup = [start(), kind(), model(litres=40), car(), car(), drain(0), drain(1), [9, 1]]
        self.assertEqual(run(setup)[-2:], [[40], [5000]])
        self.assertEqual(run(setup + [start(), [11, 1, 0], [10, 0]])[-2:], [[-12], [-6]])

    def test_numbers_begin_anew(self):
        setup = stocked(3) + [start(), kind(), model(), car(), off(0, 0), [8, 0, 0], [8, 1, 0]]
        self.assertEqual(run(setup)[-7:], [[0], [0], [0], [0], [5], [0], [-2]])
