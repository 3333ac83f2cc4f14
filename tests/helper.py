"""The calls as lists of numbers, what they answer call by call, and what the tests ask of refusals."""

import unittest

from breakersyard.yard import answers

MOST = 4294967295


def start():
    return [0]


def kind(kg=10, minutes=5, needs=0, harm=0):
    return [1, kg, minutes, needs, harm]


def model(kg=5000, litres=0, groups=(0, 0, 0, 0, 0, 0, 0, 0)):
    return [2, kg, litres, 8, *groups]


def car(m=0, lacks=0):
    return [3, m, lacks]


def drain(k):
    return [4, k]


def off(k, t):
    return [5, k, t]


def strip(k, t):
    return [6, k, t]


def gather(m, types):
    return [7, m, types]


def sell(i, price=0):
    return [8, i, price]


def crush(k):
    return [9, k]


def cart(price=1000):
    return [10, price]


def pump(n, price=0):
    return [11, n, price]


def fits(t, m, n):
    return [12, t, m, n]


def must(k, t):
    return [13, k, t]


def may(k, t):
    return [14, k, t]


def may_next(k):
    return [15, k]


def look(k):
    return [16, k]


def find(t, m):
    return [17, t, m]


def had_from(t, m):
    return [18, t, m]


def least(m, types):
    return [19, m, types]


def lacking(m, types):
    return [20, m, types]


def part(i):
    return [21, i]


def count(t):
    return [22, t]


def alike(t):
    return [23, t]


def harm_in(k):
    return [24, k]


def weights():
    return [25]


def litres_told():
    return [26]


def money():
    return [27]


def back():
    return [28]


def again():
    return [29]


def state():
    return [30]


def rows_of(given_back):
    """What is given back, cut into one row for each call."""
    rows = []
    at = 0
    while at < len(given_back):
        count = given_back[at]
        rows.append(given_back[at + 1:at + 1 + count])
        if len(rows[-1]) != count:
            raise AssertionError("a row is shorter than its count")
        at += 1 + count
    return rows


def run(calls):
    """The rows that a list of calls answers."""
    numbers = [number for call in calls for number in call]
    if len(calls) > 1000 or len(numbers) > 20000:
        raise AssertionError("more calls or numbers than are ever handed in")
    rows = rows_of(answers(numbers))
    if len(rows) != len(calls):
        raise AssertionError("there is not one row for each call")
    return rows


def last(calls):
    return run(calls)[-1]


def stocked(count):
    """A yard of one model and 8 types without needs, of 10 kg and 5 minutes; so many places are taken.

    Cars 0 to 3 give the parts, type by type; they are dry, as the model has no litres.
    """
    calls = [start()] + [kind()] * 8 + [model(), model(litres=50)] + [car()] * 4
    return calls + [off(n // 8, n % 8) for n in range(count)]


def shown():
    """Calls that only look, and show cars, stock, models, accounts, and how far it goes back and on."""
    calls = [look(k) for k in range(8)] + [part(i) for i in range(30)] + [alike(t) for t in range(8)]
    return calls + [weights(), litres_told(), money(), state()]


def probe():
    """Calls that show all that can be seen of a yard: the answers differ if something in it does."""
    calls = shown() + [again()] + shown() + [back()] * 2 + shown() + [again()] * 2
    for k in range(9):
        calls += [may_next(k), harm_in(k)]
        calls += [must(k, t) for t in range(8)]
    calls += [kind(), model(), gather(0, 1), gather(1, 2), gather(0, 4)]
    calls += [pump(1)] + [sell(i) for i in range(30)] + [cart()]
    calls += [drain(k) for k in range(8)] + [pump(1)]
    calls += [strip(k, t) for k in range(8) for t in range(8)]
    calls += [sell(i) for i in range(30)]
    calls += [call for k in range(8) for call in (crush(k), cart())]
    return calls + [car()] + shown()


class YardCase(unittest.TestCase):
    def assert_last(self, calls, row):
        self.assertEqual(last(calls), row)

    def assert_refused(self, setup, call, number):
        """The call is refused with just that number, and all is as it was."""
        rows = run(setup + [call] + probe())
        self.assertEqual(rows[len(setup)], [number])
        del rows[len(setup)]
        self.assertEqual(rows, run(setup + probe()))
