"""What holds, over many yards and walks of calls drawn from fixed seeds."""

import itertools
import random

from breakersyard.calls import split_calls
from breakersyard.yard import Record, answer
from tests.helper import (YardCase, car, cart, crush, drain, fits, gather, kind, may, may_next, model, must, off, pump,
                          run, sell, start, strip)


def picture(yard):
    """All that the yard holds, as plain values."""
    shown = dict(vars(yard))
    for name in ("kinds", "models", "cars"):
        shown[name] = [dict(vars(thing)) for thing in shown[name]]
    shown["stock"] = list(shown["stock"])
    return shown


def drawn_yard(draw):
    """A yard of some types, models and cars, most of them dry."""
    types = draw.randint(3, 8)
    calls = [start()]
    for t in range(types):
        needs = draw.getrandbits(t) & draw.getrandbits(t) if t > 0 else 0
        calls.append(kind(draw.randint(1, 500), draw.choice([1, 2, 3, 5, 600]), needs, int(draw.random() < 0.2)))
    models = draw.randint(1, 3)
    for m in range(models):
        calls.append(model(draw.randint(4000, 5000), draw.choice([0, 0, 20, 100]), draw.choices([0, 1], k=8)))
    for k in range(draw.randint(2, 8)):
        calls.append(car(draw.randrange(models), draw.getrandbits(types) & draw.getrandbits(types)))
    return calls + [drain(k) for k in range(8) if draw.random() < 0.7]


def drawn_call(draw):
    k = draw.choice([0, 0, 1, 1, 2, 3, 4, 5, 6, 7, 8])
    t = draw.randrange(9)
    m = draw.randrange(4)
    return draw.choice([
        kind(), model(draw.choice([10, 5000])), car(m, draw.getrandbits(8)), drain(k), off(k, t), off(k, t),
        strip(k, t), gather(m, 1 << t), gather(m, (1 << t) | (1 << draw.randrange(8))), gather(m, draw.getrandbits(9)),
        sell(draw.randrange(31), draw.choice([0, 5, 10000, 10001])), crush(k), cart(draw.choice([0, 7, 1001])),
        pump(draw.randrange(60), draw.choice([0, 3, 101])), fits(t, m, draw.randrange(4)), must(k, t), may(k, t),
        may_next(k), start() if draw.random() < 0.02 else must(k, t)])


class Walks(YardCase):
    def walk(self, seed, look):
        """Make calls one by one; look at each: what it was, its answer, and the yard before and then."""
        draw = random.Random(seed)
        calls = drawn_yard(draw) + [drawn_call(draw) for count in range(150)]
        record = Record()
        for call in calls:
            before = picture(record.now)
            row = answer(record, split_calls(call)[0])
            with self.subTest(seed=seed, call=call):
                look(call, row, before, picture(record.now))

    def look_at_accounts(self, call, row, before, then):
        if call[0] == 0:
            self.came_kg = self.came_litres = self.minutes = self.earned = 0
        elif row[0] >= 0:
            self.book(call, row, before, then)
        stock_kg = sum(then["kinds"][part[0]]["kg"] for part in then["stock"] if part is not None)
        cars = then["cars"]
        self.assertEqual(sum(one["kg"] for one in cars) + stock_kg + then["scrap"] + then["sold_kg"], self.came_kg)
        self.assertEqual(sum(one["litres"] for one in cars) + then["tank"] + then["sold_litres"], self.came_litres)
        self.assertEqual(then["minutes"], self.minutes)
        self.assertEqual(then["earned"], self.earned)
        self.assertLessEqual(then["tank"], 300)

    def book(self, call, row, before, then):
        if call[0] == 3:
            self.came_kg += then["cars"][-1]["kg"]
            self.came_litres += then["cars"][-1]["litres"]
        if call[0] in (5, 6, 7):
            self.minutes += row[0]
        if call[0] == 8:
            self.earned += call[2]
        if call[0] == 10:
            self.earned += before["scrap"] * call[1] // 1000
        if call[0] == 11:
            self.earned += call[1] * call[2]

    def test_each_kilogram_and_litre_is_accounted_for(self):
        for seed in range(60):
            self.walk(seed, self.look_at_accounts)

    def look_at_refusals(self, call, row, before, then):
        if row[0] < 0 or call[0] > 11:
            self.assertEqual(then, before)
        if row[0] < 0:
            self.assertEqual(len(row), 1)

    def test_refused_calls_and_asks_change_nothing(self):
        for seed in range(60, 120):
            self.walk(seed, self.look_at_refusals)

    def look_at_crushed(self, call, row, before, then):
        if call[0] == 9 and row[0] >= 0:
            gone = before["cars"][call[1]]
            harmful = [t for t, one in enumerate(before["kinds"]) if one["harm"] and gone["has"] >> t & 1]
            self.assertEqual((gone["litres"], harmful, gone["crushed"]), (0, [], False))

    def test_crushed_clean(self):
        for seed in range(120, 180):
            self.walk(seed, self.look_at_crushed)

    def look_at_order(self, call, row, before, then):
        if call[0] == 5 and row[0] >= 0:
            giver = before["cars"][call[1]]
            self.assertEqual(giver["litres"], 0)
            self.assertEqual(giver["has"] & before["kinds"][call[2]]["needs"], 0)
            self.assertEqual(then["cars"][call[1]]["has"], giver["has"] - (1 << call[2]))

    def test_in_their_order(self):
        for seed in range(180, 240):
            self.walk(seed, self.look_at_order)


class MustComeOff(YardCase):
    def test_those_told_come_off_each_when_it_may_and_fewer_do_not_do(self):
        for seed in range(40):
            draw = random.Random(seed)
            setup = drawn_yard(draw)
            for t in range(8):
                row = run(setup + [may_next(0), must(0, t)])[-2:]
                if row[0][0] > 0 and row[1][0] >= 0:
                    with self.subTest(seed=seed, t=t):
                        self.look_at(setup, t, row[1])

    def look_at(self, setup, t, row):
        told = [one for one in range(8) if row[1] >> one & 1]
        rows = run(setup + [off(0, one) for one in told])[-len(told):]
        self.assertTrue(all(one[0] > 0 for one in rows))
        self.assertEqual(sum(one[0] for one in rows), row[0])
        self.assertEqual(run(setup + [strip(0, t), may_next(0)])[-2:],
                         [[row[0]], run(setup + [off(0, one) for one in told] + [may_next(0)])[-1]])
        for without in told[:-1]:
            fewer = [one for one in told if one != without]
            rows = run(setup + [off(0, one) for one in fewer])[-len(fewer):]
            self.assertIn([-16], rows)


class LeastMinutes(YardCase):
    def cars_for(self, setup, t):
        """The cars that can give type t for model 0, found by asking alone."""
        models = [call[1] for call in setup if call[0] == 3]
        found = []
        for k, m in enumerate(models):
            has, dry, fit = run(setup + [must(k, t), drain(k), fits(t, m, 0)])[-3:]
            if has[0] >= 0 and dry == [-17] and fit == [1]:
                found.append(k)
        return found

    def ways_to_strip(self, setup, wanted):
        """Each way, in order, with the calls that strip its parts and the minutes that they take."""
        for way in itertools.product(*[self.cars_for(setup, t) for t in wanted]):
            strips = [strip(k, t) for k, t in zip(way, wanted)]
            rows = run(setup + strips)[-len(strips):]
            yield sum(row[0] for row in rows if row[0] > 0), strips

    def test_no_way_takes_less_and_the_first_is_taken(self):
        seen = 0
        for seed in range(150):
            draw = random.Random(seed)
            setup = drawn_yard(draw)
            types = sum(1 for call in setup if call[0] == 1)
            wanted = sorted(draw.sample(range(types), draw.randint(1, 3)))
            ways = list(self.ways_to_strip(setup, wanted))
            call = gather(0, sum(1 << t for t in wanted))
            with self.subTest(seed=seed, wanted=wanted):
                if not ways:
                    self.assert_refused(setup, call, -33)
                    continue
                seen += 1
                minutes, strips = min(ways, key=lambda way: way[0])
                left = [must(k, t) for k in range(8) for t in range(8)]
                rows = run(setup + [call] + left + [call])[len(setup):]
                self.assertEqual(rows[0], [minutes])
                self.assertEqual(rows[1:-1], run(setup + strips + left)[-len(left):])
                self.assertEqual(rows[-1], [0])
        self.assertGreater(seen, 50)


class Fitting(YardCase):
    def test_each_fits_itself_either_way_and_on(self):
        groups = [[m // 2, m % 2, m, 0, 9, m // 3, m % 3, 5] for m in range(6)]
        setup = [start()] + [kind()] * 8 + [model(groups=one) for one in groups]
        for t in range(8):
            asked = list(itertools.product(range(6), repeat=2))
            rows = run(setup + [fits(t, m, n) for m, n in asked])[len(setup):]
            fit = {pair: row == [1] for pair, row in zip(asked, rows)}
            for m, n, o in itertools.product(range(6), repeat=3):
                self.assertTrue(fit[m, m])
                self.assertEqual(fit[m, n], fit[n, m])
                self.assertTrue(fit[m, o] or not (fit[m, n] and fit[n, o]))
