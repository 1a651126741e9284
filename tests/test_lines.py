"""Many lines of calls, against a model that follows the document's words without any shortcut."""

import random
import unittest

from helper import BIGGEST, run

LINES = 400
CALLS = 60


class Model:
    """The words, as they stand: each hour of the way is written out, what is used is found litre by litre."""

    def __init__(self):
        self.sizes = None

    def start(self, *sizes):
        if any(not 1 <= size <= 10_000_000 for size in sizes):
            return [-22]
        self.sizes = sizes
        self.way = []
        self.legs = 0
        self.hour = 0
        self.n = self.each = 0
        self.on = (0, 0, 0)
        self.tanks = [sizes[0], 0, 0]
        self.ever = 0
        return [0]

    def where(self, hour):
        return self.way[hour] if hour < len(self.way) else (0, 0)

    def allowed(self, hour):
        miles, knots = self.where(hour)
        return (miles >= 12, miles >= 4 and knots >= 6, miles >= 12 and knots >= 4)

    def leg(self, hours, miles, knots):
        if not 1 <= hours <= 500 or miles > 1000 or knots > 40:
            return [-22]
        if self.legs == 10:
            return [-28]
        if self.hour > len(self.way):
            return [-16]
        self.legs += 1
        self.way += [(miles, knots)] * hours
        return [len(self.way)]

    def persons(self, n, uses):
        if n > 5000 or uses > 80:
            return [-22]
        before = [self.n, self.each]
        self.n, self.each = n, uses
        return [n * uses] + before

    def set(self, *on):
        if max(on) > 1:
            return [-22]
        if on == self.on:
            return [-17]
        before, self.on = self.on, on
        return [before[0] * 1 + before[1] * 2 + before[2] * 4]

    def bunker(self, n):
        if n == 0:
            return [-22]
        if self.where(self.hour)[0] != 0:
            return [-16]
        if self.tanks[0] + n > self.sizes[0]:
            return [-62]
        if self.ever + n > 1_000_000_000:
            return [-28]
        self.tanks[0] += n
        self.ever += n
        return [self.tanks[0]]

    def ashore(self, grey, black):
        if grey == 0 and black == 0:
            return [-22]
        if self.where(self.hour)[0] != 0:
            return [-16]
        if grey > self.tanks[1] or black > self.tanks[2]:
            return [-12]
        self.tanks = [self.tanks[0], self.tanks[1] - grey, self.tanks[2] - black]
        return self.tanks[1:]

    def simulate(self, n):
        """What lacks in each of n hours, and the tanks and what was ever made or taken in behind them."""
        fresh_size, makes, grey_size, grey_go, black_size, black_go = self.sizes
        fresh, grey, black = self.tanks
        ever = self.ever
        lacks = []
        for hour in range(self.hour, self.hour + n):
            make, let_grey, let_black = [a and b == 1 for a, b in zip(self.allowed(hour), self.on)]
            if let_grey:
                grey = max(0, grey - grey_go)
            if let_black:
                black = max(0, black - black_go)
            if make:
                made = min(fresh + makes, fresh_size) - fresh
                fresh += made
                ever += made
            want = self.n * self.each
            used = min(want, fresh)
            while used > 0 and (grey + used * 9 // 10 > grey_size or black + used - used * 9 // 10 > black_size):
                used -= 1
            fresh -= used
            grey += used * 9 // 10
            black += used - used * 9 // 10
            lacks.append(want - used)
        return lacks, [fresh, grey, black], ever

    def hours(self, n):
        if not 1 <= n <= 500:
            return [-22]
        if self.hour + n > 10_000:
            return [-75]
        lacks, tanks, ever = self.simulate(n)
        if ever > 1_000_000_000:
            return [-28]
        self.hour += n
        self.tanks = tanks
        self.ever = ever
        return [self.hour, sum(lacks)] + tanks

    def lasts(self):
        lacks = self.simulate(500)[0]
        return [min([k for k, lack in enumerate(lacks) if lack > 0], default=500)]

    def next_go(self):
        found = []
        for what in (1, 2):
            hours = [k for k in range(501) if self.allowed(self.hour + k)[what]]
            found.append(hours[0] + 1 if hours else 0)
        return [0] + found if any(found) else [-33]

    def may(self):
        made, grey, black = self.allowed(self.hour)
        return [1 * made + 2 * grey + 4 * black] + list(self.where(self.hour))

    def ahead(self, n):
        if not 1 <= n <= 500:
            return [-22]
        lacks, tanks, ever = self.simulate(n)
        return tanks + [sum(lacks)]

    def room(self):
        return [self.sizes[0] - self.tanks[0], self.sizes[2] - self.tanks[1], self.sizes[4] - self.tanks[2]]


def some_call(chance):
    """A call whose numbers are mostly small, so that tanks get full, and now and then at or beyond a limit."""
    def one_of(most, *edges):
        return chance.choice(edges) if edges and chance.random() < 0.1 else chance.randint(0, most)

    name = chance.choice(["start"] + ["leg", "persons", "set", "bunker", "ashore", "lasts", "next_go", "may", "ahead",
                                      "room"] * 3 + ["hours"] * 8)
    numbers = {
        "start": lambda: some_start(chance)[1:],
        "leg": lambda: (one_of(12, 500, 501, BIGGEST), one_of(16, 1000, 1001), one_of(9, 40, 41)),
        "persons": lambda: (one_of(12, 5000, 5001), one_of(9, 80, 81)),
        "set": lambda: tuple(one_of(1, 2, BIGGEST) for k in range(3)),
        "bunker": lambda: (one_of(60, BIGGEST),),
        "ashore": lambda: (one_of(30, BIGGEST), one_of(6, BIGGEST)),
        "hours": lambda: (one_of(12, 499, 500, 501),),
        "ahead": lambda: (one_of(30, 500, 501),),
    }
    return (name,) + tuple(numbers.get(name, tuple)())


def some_start(chance):
    numbers = [chance.choice((chance.randint(1, 40), chance.randint(1, 400))) for k in range(6)]
    if chance.random() < 0.2:
        numbers[chance.randrange(6)] = chance.choice((0, 10_000_001, BIGGEST))
    return ("start",) + tuple(numbers)


def some_line(chance):
    line = [("start", 1, 2, 3, 4, 5, 6), some_start(chance)]
    return line + [some_call(chance) for k in range(CALLS)]


class AgainstTheModel(unittest.TestCase):
    def test_many_lines(self):
        seen = {}
        for seed in range(LINES):
            line = some_line(random.Random(seed))
            model = Model()
            told = run(line)
            for k, call in enumerate(line):
                expected = getattr(model, call[0])(*call[1:])
                self.assertEqual(told[k], expected, (seed, k, call))
                seen[(call[0], min(expected[0], 0))] = True
        # All but those that take lines of another kind: 10 legs, hour 10,000, 1,000,000,000 litres.
        for refusal in (("start", -22), ("leg", -22), ("leg", -16), ("persons", -22), ("set", -22), ("set", -17),
                        ("bunker", -22), ("bunker", -16), ("bunker", -62), ("ashore", -22), ("ashore", -16),
                        ("ashore", -12), ("hours", -22), ("next_go", -33), ("ahead", -22)):
            self.assertIn(refusal, seen)


class WhatHolds(unittest.TestCase):
    def lines(self):
        for seed in range(150):
            chance = random.Random(1000 + seed)
            sizes = [chance.choice((chance.randint(1, 40), chance.randint(1, 400))) for k in range(6)]
            legs = [("leg", chance.randint(1, 9), chance.randint(0, 16), chance.randint(0, 9)) for k in range(8)]
            setting = chance.choice([("set", 1, 1, 1), ("set", 1, 1, 0), ("set", 0, 1, 1), ("set", 0, 0, 1)])
            yield chance, sizes, [("start",) + tuple(sizes)] + legs + [
                ("persons", chance.randint(1, 9), chance.randint(1, 9)), setting]

    def test_in_whatever_pieces(self):
        for chance, sizes, line in self.lines():
            n = chance.randint(2, 60)
            whole = run(line + [("hours", n)])[-1]
            pieces = []
            while sum(pieces) < n:
                pieces.append(chance.randint(1, n - sum(pieces)))
            told = run(line + [("hours", piece) for piece in pieces])[len(line):]
            self.assertEqual(told[-1][:1] + told[-1][2:], whole[:1] + whole[2:])
            self.assertEqual(sum(answer[1] for answer in told), whole[1])

    def test_lasts_agrees_with_hours(self):
        for chance, sizes, line in self.lines():
            n = run(line + [("lasts",)])[-1][0]
            if n > 0:
                self.assertEqual(run(line + [("hours", n)])[-1][1], 0)
            if n < 500:
                hours = [("hours", n)] * (n > 0) + [("hours", 1)]
                self.assertGreater(run(line + hours)[-1][1], 0)

    def test_ahead_agrees_with_hours(self):
        for chance, sizes, line in self.lines():
            n = chance.randint(1, 80)
            hours = run(line + [("hours", n)])[-1]
            self.assertEqual(run(line + [("ahead", n)])[-1], hours[2:] + [hours[1]])

    def test_no_tank_runs_over(self):
        for chance, sizes, line in self.lines():
            told = run(line + [("hours", 1), ("room",)] * 60)[len(line):]
            for hour, room in zip(told[0::2], told[1::2]):
                self.assertEqual(room, [sizes[0] - hour[2], sizes[2] - hour[3], sizes[4] - hour[4]])
                self.assertGreaterEqual(min(room + hour), 0)

    def test_each_litre_is_there(self):
        # Nothing is made or let go here, so all there is was there at first, or taken in, less what went ashore.
        for chance, sizes, line in self.lines():
            line = [line[0], line[-2]]
            there = sizes[0]
            for k in range(40):
                line.append(chance.choice((("hours", 1), ("bunker", chance.randint(1, 30)),
                                           ("ashore", chance.randint(0, 9), chance.randint(0, 2)))))
                answer = run(line)[-1]
                if answer[0] >= 0:
                    there += {"hours": 0, "bunker": line[-1][1], "ashore": -sum(line[-1][1:])}[line[-1][0]]
                room = run(line + [("room",)])[-1]
                self.assertEqual(sizes[0] + sizes[2] + sizes[4] - sum(room), there)

    def test_as_much_as_can_be_is_used(self):
        for chance, sizes, line in self.lines():
            # Making and letting go are off, so what an hour uses shows in the fresh tank.
            line = [line[0], line[-2]]
            wanted = line[-1][1] * line[-1][2]
            before = [0, 0, sizes[0], 0, 0]
            for hour in run(line + [("hours", 1)] * 30)[len(line):]:
                used = before[2] - hour[2]
                self.assertEqual(used + hour[1], wanted)
                if hour[1] > 0:
                    more = used + 1
                    too_much = (more > before[2] or before[3] + more * 9 // 10 > sizes[2]
                                or before[4] + more - more * 9 // 10 > sizes[4])
                    self.assertTrue(too_much)
                before = hour


if __name__ == "__main__":
    unittest.main()
