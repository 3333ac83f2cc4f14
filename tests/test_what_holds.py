"""What holds, over many yards and walks of calls drawn from fixed seeds."""

import itertools
import random

from breakersyard.calls import split_calls
from breakersyard.history import Record
from breakersyard.yard import answer
from tests.helper import (YardCase, again, alike, back, car, cart, count, crush, drain, find, fits, gather, had_from,
                          harm_in, kind, lacking, least, litres_told, look, may, may_next, model, money, must, off,
                          part, pump, run, sell, start, state, strip, weights)


def picture(yard):
    """All that the yard holds, as plain values."""
    shown = dict(vars(yard))
    for name in ("kinds", "models", "cars"):
        shown[name] = [dict(vars(thing)) for thing in shown[name]]
    shown["stock"] = list(shown["stock"])
    return shown


def drawn_yard(draw):
    """A yard of some types, models and cars, most of them dry."""
    types = draw.randint(3, 8)
    calls = [start()]
    for t in range(types):
        needs = draw.getrandbits(t) & draw.getrandbits(t) if t > 0 else 0
        calls.append(kind(draw.randint(1, 500), draw.choice([1, 2, 3, 5, 600]), needs, int(draw.random() < 0.2)))
    models = draw.randint(1, 3)
    for m in range(models):
        calls.append(model(draw.randint(4000, 5000), draw.choice([0, 0, 20, 100]), draw.choices([0, 1], k=8)))
    for k in range(draw.randint(2, 8)):
        calls.append(car(draw.randrange(models), draw.getrandbits(types) & draw.getrandbits(types)))
    return calls + [drain(k) for k in range(8) if draw.random() < 0.7]


def gone_back_and_on(draw):
    """Some parts come off; some of that, or more, is taken back, and some of that done again."""
    calls = [strip(draw.randrange(8), draw.randrange(8)) for step in range(5)]
    return calls + [back()] * draw.randint(1, 4) + [again()] * draw.randint(0, 3)


def drawn_change(draw, k, t, m):
    return draw.choice([
        kind(), model(draw.choice([10, 5000])), car(m, draw.getrandbits(8)), drain(k), off(k, t), off(k, t),
        strip(k, t), gather(m, 1 << t), gather(m, (1 << t) | (1 << draw.randrange(8))), gather(m, draw.getrandbits(9)),
        sell(draw.randrange(31), draw.choice([0, 5, 10000, 10001])), crush(k), cart(draw.choice([0, 7, 1001])),
        pump(draw.randrange(60), draw.choice([0, 3, 101]))])


def drawn_look(draw, k, t, m):
    types = draw.choice([1 << t, draw.getrandbits(8) & draw.getrandbits(8), draw.getrandbits(9)])
    return draw.choice([
        fits(t, m, draw.randrange(4)), must(k, t), may(k, t), may_next(k), look(k), find(t, m), had_from(t, m),
        least(m, types), lacking(m, types), part(draw.randrange(31)), count(t), alike(t), harm_in(k), weights(),
        litres_told(), money(), state()])


def drawn_calls(draw):
    """One call, or several of br_back or br_again in a row."""
    numbers = (draw.choice([0, 0, 1, 1, 2, 3, 4, 5, 6, 7, 8]), draw.randrange(9), draw.randrange(4))
    chance = draw.random()
    if chance < 0.02:
        return [start()] if draw.random() < 0.3 else [back()] * 35
    if chance < 0.15:
        return [draw.choice([back(), again()])] * draw.randint(1, 4)
    return [drawn_look(draw, *numbers) if chance < 0.4 else drawn_change(draw, *numbers)]


class Walks(YardCase):
    def walk(self, seed, looker):
        """Make calls one by one; look at each: what it was, its answer, and the yard before and then."""
        draw = random.Random(seed)
        calls = drawn_yard(draw)
        while len(calls) < 250:
            calls += drawn_calls(draw)
        self.record = Record()
        for call in calls:
            before = picture(self.record.now)
            row = self.asked(call)
            with self.subTest(seed=seed, call=call):
                looker(call, row, before, picture(self.record.now))

    def asked(self, call):
        return answer(self.record, split_calls(call)[0])


class History(Walks):
    """Beside the walk stand lists of what the yard was like, and of what was booked by then."""

    def follow(self, call, row, before, then):
        if call[0] == 0:
            self.earlier, self.later, self.booked = [], [], (0, 0, 0, 0)
        elif row[0] < 0:
            self.assertEqual(then, before)
        elif call[0] <= 11:
            self.earlier = (self.earlier + [(before, self.booked)])[-30:]
            self.later = []
            self.booked = tuple(map(sum, zip(self.booked, self.booked_by(call, row, before, then))))
        elif call[0] == 28:
            self.later.append((before, self.booked))
            expected, self.booked = self.earlier.pop()
            self.assertEqual((then, row), (expected, [len(self.earlier)]))
        elif call[0] == 29:
            self.earlier.append((before, self.booked))
            expected, self.booked = self.later.pop()
            self.assertEqual((then, row), (expected, [len(self.later)]))
        else:
            self.assertEqual(then, before)

    def booked_by(self, call, row, before, then):
        """What a change adds to the kilograms and litres that came, the minutes, and what was earned."""
        if call[0] == 3:
            come = then["cars"][-1]
            return (come["kg"], come["litres"], 0, 0)
        if call[0] in (5, 6, 7):
            return (0, 0, row[0], 0)
        if call[0] == 10:
            return (0, 0, 0, before["scrap"] * call[1] // 1000)
        return (0, 0, 0, {8: call[-1], 11: call[1] * call[-1]}.get(call[0], 0))

    def look_at_history(self, call, row, before, then):
        if row == [-2] and call[0] in (28, 29):
            self.assertEqual([self.earlier, self.later][call[0] - 28], [])
        self.follow(call, row, before, then)
        self.furthest["back"] = max(self.furthest["back"], len(self.earlier))
        self.furthest["again"] = max(self.furthest["again"], len(self.later))
        crushed = sum(1 for one in then["cars"] if one["crushed"])
        parts = sum(1 for one in then["stock"] if one is not None)
        counts = [len(then["kinds"]), len(then["models"]), crushed, parts, len(self.earlier), len(self.later)]
        self.assertEqual(self.asked(state()), [len(then["cars"])] + counts)

    def test_all_can_be_taken_back_and_done_again(self):
        self.furthest = {"back": 0, "again": 0}
        for seed in range(100):
            self.walk(seed, self.look_at_history)
        self.assertEqual(self.furthest, {"back": 30, "again": 30})

    def look_at_accounts(self, call, row, before, then):
        self.follow(call, row, before, then)
        came_kg, came_litres, minutes, earned = self.booked
        looks = [one for one in (self.asked(look(k)) for k in range(8)) if one != [-2]]
        parts = [one for one in (self.asked(part(i)) for i in range(30)) if one != [-2]]
        kilograms = self.asked(weights())
        self.assertEqual(kilograms[:3], [came_kg, sum(one[3] for one in looks), sum(one[2] for one in parts)])
        self.assertEqual(sum(kilograms[1:]), came_kg)
        litres = self.asked(litres_told())
        self.assertEqual(litres[:2], [came_litres, sum(one[2] for one in looks)])
        self.assertEqual(sum(litres[1:]), came_litres)
        self.assertLessEqual(litres[2], 300)
        self.assertEqual(self.asked(money()), [earned, minutes])
        self.assertGreaterEqual(min(kilograms + litres), 0)

    def test_each_kilogram_and_litre_is_accounted_for(self):
        for seed in range(100, 160):
            self.walk(seed, self.look_at_accounts)


class Answers(Walks):
    def look_at_refusals(self, call, row, before, then):
        sizes = {13: 2, 15: 2, 16: 4, 18: 2, 19: 7, 20: 2, 21: 3, 22: 2, 23: 7, 24: 3, 25: 5, 26: 4, 27: 2, 30: 7}
        if row[0] < 0 or call[0] in range(12, 28) or call[0] == 30:
            self.assertEqual(then, before)
        self.assertEqual(len(row), 1 if row[0] < 0 else sizes.get(call[0], 1))

    def test_refused_calls_and_looks_change_nothing(self):
        for seed in range(160, 220):
            self.walk(seed, self.look_at_refusals)

    def look_at_crushed(self, call, row, before, then):
        if call[0] == 9 and row[0] >= 0:
            gone = before["cars"][call[1]]
            harmful = [t for t, one in enumerate(before["kinds"]) if one["harm"] and gone["has"] >> t & 1]
            self.assertEqual((gone["litres"], harmful, gone["crushed"]), (0, [], False))

    def test_crushed_clean(self):
        for seed in range(220, 280):
            self.walk(seed, self.look_at_crushed)

    def look_at_order(self, call, row, before, then):
        if call[0] == 5 and row[0] >= 0:
            giver = before["cars"][call[1]]
            self.assertEqual(giver["litres"], 0)
            self.assertEqual(giver["has"] & before["kinds"][call[2]]["needs"], 0)
            self.assertEqual(then["cars"][call[1]]["has"], giver["has"] - (1 << call[2]))

    def test_in_their_order(self):
        for seed in range(280, 340):
            self.walk(seed, self.look_at_order)

    def look_at_gathered(self, call, row, before, then):
        """Behind br_least the same is gathered, and behind br_gather nothing lacks."""
        if call[0] not in (7, 19) or row[0] < 0:
            return
        if call[0] == 19:
            gathered = self.asked(gather(call[1], call[2]))
            if gathered == [-28]:
                return
            self.assertEqual(gathered, row[:1])
            then = picture(self.record.now)
        self.assertEqual(self.asked(lacking(call[1], call[2])), [0, 0])
        self.assertEqual(self.asked(least(call[1], call[2])), [0] * 7)
        self.assertEqual(then["minutes"] - before["minutes"], row[0])

    def test_nothing_lacks_once_gathered(self):
        for seed in range(340, 400):
            self.walk(seed, self.look_at_gathered)

    def look_at_looks(self, call, row, before, then):
        """The calls that look tell what the picture of the yard has."""
        cars = [one for one in enumerate(then["cars"]) if not one[1]["crushed"]]
        stock = [one for one in enumerate(then["stock"]) if one[1] is not None]
        groups = [one["groups"] for one in then["models"]]
        for t in range(len(then["kinds"])):
            have = [(k, one) for k, one in cars if one["has"] >> t & 1]
            self.assertEqual(self.asked(count(t)), [sum(1 for i, one in stock if one[0] == t), len(have)])
            told = [one[t] for one in groups]
            self.assertEqual(self.asked(alike(t)), [len(set(told)), *told, *[0] * (6 - len(told))])
            for m in range(len(groups)):
                places = [i for i, one in stock if one[0] == t and groups[one[1]][t] == told[m]]
                givers = [k for k, one in have if one["litres"] == 0 and groups[one["model"]][t] == told[m]]
                self.assertEqual(self.asked(find(t, m)), places[:1] or [-33])
                self.assertEqual(self.asked(had_from(t, m)), [len(givers), sum(1 << k for k in givers)])
                self.assertEqual(self.asked(lacking(m, 1 << t)), [0, 0] if places else [1, 1 << t])

    def test_looks_tell_what_is_there(self):
        for seed in range(400, 420):
            self.walk(seed, self.look_at_looks)


class MustComeOff(YardCase):
    def test_those_told_come_off_each_when_it_may_and_fewer_do_not_do(self):
        for seed in range(40):
            draw = random.Random(seed)
            setup = drawn_yard(draw)
            if seed % 2 == 0:
                setup += gone_back_and_on(draw)
            for t in range(8):
                row = run(setup + [may_next(0), must(0, t)])[-2:]
                if row[0][0] > 0 and row[1][0] >= 0:
                    with self.subTest(seed=seed, t=t):
                        self.look_at(setup, t, row[1])

    def look_at(self, setup, t, row):
        told = [one for one in range(8) if row[1] >> one & 1]
        rows = run(setup + [off(0, one) for one in told])[-len(told):]
        self.assertTrue(all(one[0] > 0 for one in rows))
        self.assertEqual(sum(one[0] for one in rows), row[0])
        self.assertEqual(run(setup + [strip(0, t), may_next(0)])[-2:],
                         [[row[0]], run(setup + [off(0, one) for one in told] + [may_next(0)])[-1]])
        for without in told[:-1]:
            fewer = [one for one in told if one != without]
            rows = run(setup + [off(0, one) for one in fewer])[-len(fewer):]
            self.assertIn([-16], rows)


class LeastMinutes(YardCase):
    def cars_for(self, setup, t):
        """The cars that can give type t for model 0, found by asking alone."""
        models = [call[1] for call in setup if call[0] == 3]
        found = []
        for k, m in enumerate(models):
            has, dry, fit = run(setup + [must(k, t), drain(k), fits(t, m, 0)])[-3:]
            if has[0] >= 0 and dry == [-17] and fit == [1]:
                found.append(k)
        return found

    def ways_to_strip(self, setup, wanted):
        """Each way, in order, with the calls that strip its parts and the minutes that they take."""
        for way in itertools.product(*[self.cars_for(setup, t) for t in wanted]):
            strips = [strip(k, t) for k, t in zip(way, wanted)]
            rows = run(setup + strips)[len(setup):]
            yield sum(row[0] for row in rows if row[0] > 0), strips

    def wanted_of(self, draw, setup):
        """Up to 3 types, as bits, and which of them lack, found by looking for each in the stock."""
        types = sum(1 for call in setup if call[0] == 1)
        wanted = sorted(draw.sample(range(types), draw.randint(1, 3)))
        return sum(1 << t for t in wanted), [t for t in wanted if run(setup + [find(t, 0)])[-1] == [-33]]

    def test_no_way_takes_less_and_the_first_is_taken(self):
        seen = {0: 0, 1: 0, 2: 0, 3: 0}
        for seed in range(250):
            draw = random.Random(seed)
            setup = drawn_yard(draw)
            if seed % 3 == 1:
                setup += [strip(draw.randrange(8), draw.randrange(8)) for step in range(4)]
            if seed % 3 == 2:
                setup += gone_back_and_on(draw)
            types, lacks = self.wanted_of(draw, setup)
            ways = list(self.ways_to_strip(setup, lacks))
            with self.subTest(seed=seed, types=types):
                if not ways:
                    self.assert_refused(setup, gather(0, types), -33)
                    self.assert_refused(setup, least(0, types), -33)
                    continue
                seen[len(lacks)] += 1
                self.look_at(setup, types, lacks, min(ways, key=lambda way: way[0]))
        self.assertGreater(min(seen.values()), 5)

    def look_at(self, setup, types, lacks, way):
        minutes, strips = way
        left = [look(k) for k in range(8)]
        rows = run(setup + [least(0, types), gather(0, types)] + left + [gather(0, types)])[len(setup):]
        pairs = [number for call in strips for number in (call[2], call[1] + 1)]
        self.assertEqual(rows[0], [minutes, *pairs, *[0] * (6 - len(pairs))])
        self.assertEqual(rows[1], [minutes])
        self.assertEqual(rows[2:-1], run(setup + strips + left)[-len(left):])
        self.assertEqual(rows[-1], [0])


class Fitting(YardCase):
    def test_each_fits_itself_either_way_and_on(self):
        groups = [[m // 2, m % 2, m, 0, 9, m // 3, m % 3, 5] for m in range(6)]
        setup = [start()] + [kind()] * 8 + [model(groups=one) for one in groups]
        plain = self.look_at(setup)
        gone = [start()] + [kind()] * 8 + [model(groups=range(8)), back()] + setup[9:] + [back()] * 4 + [again()] * 4
        self.assertEqual(self.look_at(gone), plain)

    def look_at(self, setup):
        told = []
        for t in range(8):
            asked = list(itertools.product(range(6), repeat=2))
            rows = run(setup + [fits(t, m, n) for m, n in asked])[len(setup):]
            told.append(rows)
            fit = {pair: row == [1] for pair, row in zip(asked, rows)}
            for m, n, o in itertools.product(range(6), repeat=3):
                self.assertTrue(fit[m, m])
                self.assertEqual(fit[m, n], fit[n, m])
                self.assertTrue(fit[m, o] or not (fit[m, n] and fit[n, o]))
        return told
