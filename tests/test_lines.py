"""Many lines of calls, against a model that follows the document's words without any shortcut."""

import copy
import random
import unittest

from helper import ASKS, BIGGEST, behind_hours, last, run

LINES = 400
CALLS = 60


class Model:
    """The words, as they stand: each hour of the way is written out, what is used is found litre by litre."""

    def __init__(self):
        self.sizes = None

    def start(self, *sizes):
        if any(not 1 <= size <= 10_000_000 for size in sizes):
            return [-22]
        self.sizes = sizes
        self.now = {
            "legs": [], "way": [], "hour": 0, "n": 0, "each": 0, "on": (0, 0, 0), "tanks": [sizes[0], 0, 0],
            # Made or taken in, used, grey let go, black let go, given ashore, lacked.
            "sums": [0, 0, 0, 0, 0, 0],
        }
        self.before = []
        self.behind = []
        return [0]

    def call(self, name, *numbers):
        if name not in ("leg", "persons", "set", "bunker", "ashore", "hours"):
            return getattr(self, name)(*numbers)
        before = copy.deepcopy(self.now)
        answer = getattr(self, name)(*numbers)
        if answer[0] < 0:
            assert self.now == before
        else:
            self.before = (self.before + [before])[-30:]
            self.behind = []
        return answer

    def place(self, hour):
        return self.now["way"][hour] if hour < len(self.now["way"]) else (0, 0)

    def allowed(self, hour):
        miles, knots = self.place(hour)
        return (miles >= 12, miles >= 4 and knots >= 6, miles >= 12 and knots >= 4)

    def leg(self, hours, miles, knots):
        if not 1 <= hours <= 500 or miles > 1000 or knots > 40:
            return [-22]
        if len(self.now["legs"]) == 10:
            return [-28]
        if self.now["hour"] > len(self.now["way"]):
            return [-16]
        self.now["legs"].append([hours, miles, knots])
        self.now["way"] += [(miles, knots)] * hours
        return [len(self.now["way"])]

    def persons(self, n, uses):
        if n > 5000 or uses > 80:
            return [-22]
        before = [self.now["n"], self.now["each"]]
        self.now["n"], self.now["each"] = n, uses
        return [n * uses] + before

    def told_as_one(self, on):
        return on[0] * 1 + on[1] * 2 + on[2] * 4

    def set(self, *on):
        if max(on) > 1:
            return [-22]
        if on == self.now["on"]:
            return [-17]
        before, self.now["on"] = self.now["on"], on
        return [self.told_as_one(before)]

    def bunker(self, n):
        if n == 0:
            return [-22]
        if self.place(self.now["hour"])[0] != 0:
            return [-16]
        if self.now["tanks"][0] + n > self.sizes[0]:
            return [-62]
        if self.now["sums"][0] + n > 1_000_000_000:
            return [-28]
        self.now["tanks"][0] += n
        self.now["sums"][0] += n
        return [self.now["tanks"][0]]

    def ashore(self, grey, black):
        if grey == 0 and black == 0:
            return [-22]
        if self.place(self.now["hour"])[0] != 0:
            return [-16]
        tanks = self.now["tanks"]
        if grey > tanks[1] or black > tanks[2]:
            return [-12]
        tanks[1] -= grey
        tanks[2] -= black
        self.now["sums"][4] += grey + black
        return tanks[1:]

    def simulate(self, n):
        """For each of n hours: made, grey let go, black let go, used, lacked, and the tanks behind it."""
        fresh_size, makes, grey_size, grey_go, black_size, black_go = self.sizes
        fresh, grey, black = self.now["tanks"]
        rows = []
        for hour in range(self.now["hour"], self.now["hour"] + n):
            make, let_grey, let_black = [a and b == 1 for a, b in zip(self.allowed(hour), self.now["on"])]
            grey_before, black_before, fresh_before = grey, black, fresh
            if let_grey:
                grey = max(0, grey - grey_go)
            if let_black:
                black = max(0, black - black_go)
            if make:
                fresh = min(fresh + makes, fresh_size)
            gone = [fresh - fresh_before, grey_before - grey, black_before - black]
            want = self.now["n"] * self.now["each"]
            used = min(want, fresh)
            while used > 0 and (grey + used * 9 // 10 > grey_size or black + used - used * 9 // 10 > black_size):
                used -= 1
            fresh -= used
            grey += used * 9 // 10
            black += used - used * 9 // 10
            rows.append(gone + [used, want - used, [fresh, grey, black]])
        return rows

    def hours(self, n):
        if not 1 <= n <= 500:
            return [-22]
        if self.now["hour"] + n > 10_000:
            return [-75]
        rows = self.simulate(n)
        made, grey, black, used, lacked = [sum(row[k] for row in rows) for k in range(5)]
        if self.now["sums"][0] + made > 1_000_000_000:
            return [-28]
        self.now["hour"] += n
        self.now["tanks"] = rows[-1][5]
        self.now["sums"] = [a + b for a, b in zip(self.now["sums"], (made, used, grey, black, 0, lacked))]
        return [self.now["hour"], lacked] + self.now["tanks"]

    def lasts(self):
        return [min([k for k, row in enumerate(self.simulate(500)) if row[4] > 0], default=500)]

    def next_go(self):
        found = []
        for what in (1, 2):
            hours = [k for k in range(501) if self.allowed(self.now["hour"] + k)[what]]
            found.append(hours[0] + 1 if hours else 0)
        return [0] + found if any(found) else [-33]

    def may(self):
        return [self.told_as_one(self.allowed(self.now["hour"]))] + list(self.place(self.now["hour"]))

    def ahead(self, n):
        if not 1 <= n <= 500:
            return [-22]
        rows = self.simulate(n)
        return rows[-1][5] + [sum(row[4] for row in rows)]

    def room(self):
        return [size - there for size, there in zip(self.sizes[0::2], self.now["tanks"])]

    def wants(self):
        want = self.now["n"] * self.now["each"]
        return [want, want * 9 // 10, want - want * 9 // 10]

    def where(self, t):
        if t > 10_000:
            return [-22]
        return list(self.place(t)) + [1 * allowed for allowed in self.allowed(t)]

    def look(self, k):
        return self.now["legs"][k] if k < len(self.now["legs"]) else [-2]

    def end(self):
        last = sum(leg[0] for leg in self.now["legs"])
        return [last, max(0, last - self.now["hour"])]

    def full(self, h):
        if not 1 <= h <= 100:
            return [-22]
        behind = [self.now["tanks"]] + [row[5] for row in self.simulate(500)]
        for k, tanks in enumerate(behind):
            if tanks[1] * 100 >= h * self.sizes[2] or tanks[2] * 100 >= h * self.sizes[4]:
                return [k]
        return [-33]

    def tanks(self):
        return [number for pair in zip(self.now["tanks"], self.sizes[0::2]) for number in pair]

    def flows(self):
        return self.simulate(1)[0][:4]

    def sums(self):
        return self.now["sums"]

    def back(self):
        if not self.before:
            return [-2]
        self.behind.append(self.now)
        self.now = self.before.pop()
        return [len(self.before)]

    def again(self):
        if not self.behind:
            return [-2]
        self.before.append(self.now)
        self.now = self.behind.pop()
        return [len(self.behind)]

    def state(self):
        return [self.now["hour"], len(self.now["legs"]), self.now["n"], self.now["each"],
                self.told_as_one(self.now["on"]), len(self.before), len(self.behind)]


CHANGES = ["leg", "persons", "set", "bunker", "ashore"]
ASKING = ["lasts", "next_go", "may", "ahead", "room", "wants", "where", "look", "end", "full", "flows"]
NAMES = ["start"] + CHANGES * 6 + ["hours"] * 20 + ASKING * 2 + ["tanks", "sums", "state"] * 6 + ["back", "again"] * 9


def some_call(chance, names):
    """A call whose numbers are mostly small, so that tanks get full, and now and then at or beyond a limit."""
    def one_of(most, *edges):
        return chance.choice(edges) if edges and chance.random() < 0.1 else chance.randint(0, most)

    name = chance.choice(names)
    numbers = {
        "start": lambda: some_start(chance)[1:],
        "leg": lambda: (one_of(12, 500, 501, BIGGEST), one_of(16, 1000, 1001), one_of(9, 40, 41)),
        "persons": lambda: (one_of(12, 5000, 5001), one_of(9, 80, 81)),
        "set": lambda: tuple(one_of(1, 2, BIGGEST) for k in range(3)),
        "bunker": lambda: (one_of(60, BIGGEST),),
        "ashore": lambda: (one_of(30, BIGGEST), one_of(6, BIGGEST)),
        "hours": lambda: (one_of(12, 499, 500, 501),),
        "ahead": lambda: (one_of(30, 500, 501),),
        "where": lambda: (one_of(60, 10_000, 10_001, BIGGEST),),
        "look": lambda: (one_of(10, BIGGEST),),
        "full": lambda: (one_of(101, 1, 100, BIGGEST),),
    }
    return (name,) + tuple(numbers.get(name, tuple)())


def some_start(chance):
    numbers = [chance.choice((chance.randint(1, 40), chance.randint(1, 400))) for k in range(6)]
    if chance.random() < 0.2:
        numbers[chance.randrange(6)] = chance.choice((0, 10_000_001, BIGGEST))
    return ("start",) + tuple(numbers)


def some_line(chance, calls=CALLS, names=NAMES):
    line = [("start", 1, 2, 3, 4, 5, 6), some_start(chance)]
    return line + [some_call(chance, names) for k in range(calls - len(line))]


class AgainstTheModel(unittest.TestCase):
    def follow(self, line, seen):
        model = Model()
        told = run(line)
        for k, call in enumerate(line):
            expected = model.call(*call)
            self.assertEqual(told[k], expected, (k, call))
            seen[(call[0], min(expected[0], 0))] = True

    def test_many_lines(self):
        seen = {}
        for seed in range(LINES):
            with self.subTest(seed=seed):
                self.follow(some_line(random.Random(seed)), seen)
        # All but those that take lines of another kind: 10 legs, hour 10,000, 1,000,000,000 litres.
        for refusal in (("start", -22), ("leg", -22), ("leg", -16), ("persons", -22), ("set", -22), ("set", -17),
                        ("bunker", -22), ("bunker", -16), ("bunker", -62), ("ashore", -22), ("ashore", -16),
                        ("ashore", -12), ("hours", -22), ("next_go", -33), ("ahead", -22), ("where", -22),
                        ("look", -2), ("full", -22), ("full", -33), ("back", -2), ("again", -2)):
            self.assertIn(refusal, seen)

    def test_long_lines(self):
        seen = {}
        most = [0, 0]
        for seed in range(6):
            chance = random.Random(5000 + seed)
            # No other start and long legs, so that the hours don't leave the way behind.
            line = some_line(chance, 1000, NAMES[1:])
            for k in range(2, 9):
                line[k] = ("leg", chance.randint(50, 500), chance.randint(0, 16), chance.randint(0, 9))
            self.assertEqual(len(line), 1000)
            with self.subTest(seed=seed):
                self.follow(line, seen)
            for call, answer in zip(line, run(line)):
                if call == ("state",):
                    most = [max(pair) for pair in zip(most, answer[5:])]
        self.assertIn(("leg", -28), seen)
        self.assertEqual(most[0], 30)
        self.assertGreaterEqual(most[1], 3)


class WhatHolds(unittest.TestCase):
    def lines(self):
        for seed in range(150):
            chance = random.Random(1000 + seed)
            sizes = [chance.choice((chance.randint(1, 40), chance.randint(1, 400))) for k in range(6)]
            legs = [("leg", chance.randint(1, 9), chance.randint(0, 16), chance.randint(0, 9)) for k in range(8)]
            setting = chance.choice([("set", 1, 1, 1), ("set", 1, 1, 0), ("set", 0, 1, 1), ("set", 0, 0, 1)])
            yield chance, sizes, [("start",) + tuple(sizes)] + legs + [
                ("persons", chance.randint(1, 9), chance.randint(1, 9)), setting]

    def test_in_whatever_pieces(self):
        for chance, sizes, line in self.lines():
            n = chance.randint(2, 60)
            whole = run(line + [("hours", n)] + ASKS)[len(line):]
            pieces = []
            while sum(pieces) < n:
                pieces.append(chance.randint(1, n - sum(pieces)))
            told = run(line + [("hours", piece) for piece in pieces] + ASKS)[len(line):]
            hours = told[:len(pieces)]
            self.assertEqual(hours[-1][:1] + hours[-1][2:], whole[0][:1] + whole[0][2:])
            self.assertEqual(sum(answer[1] for answer in hours), whole[0][1])
            # Tanks and sums.
            self.assertEqual(told[len(pieces):][:2], whole[1:3])

    def test_lasts_agrees_with_hours(self):
        for chance, sizes, line in self.lines():
            n = run(line + [("lasts",)])[-1][0]
            if n > 0:
                self.assertEqual(run(line + [("hours", n)])[-1][1], 0)
            if n < 500:
                hours = behind_hours(line, n) + [("hours", 1)]
                self.assertGreater(run(hours)[-1][1], 0)

    def test_ahead_agrees_with_hours(self):
        for chance, sizes, line in self.lines():
            n = chance.randint(1, 80)
            hours = run(line + [("hours", n)])[-1]
            self.assertEqual(run(line + [("ahead", n)])[-1], hours[2:] + [hours[1]])

    def test_full_agrees_with_hours_and_tanks(self):
        soon, never = 0, 0
        for chance, sizes, line in self.lines():
            line = behind_hours(line, chance.randint(0, 9))
            h = chance.randint(1, 100)
            n = last(line + [("full", h)])[0]
            tanks = run(line + [("tanks",)] + [("hours", 1), ("tanks",)] * 450)[len(line)::2]
            has = [row[2] * 100 >= h * row[3] or row[4] * 100 >= h * row[5] for row in tanks]
            if n >= 0:
                self.assertEqual(has.index(True), n)
                soon += n > 0
            else:
                self.assertEqual(n, -33)
                self.assertNotIn(True, has)
                never += 1
        # Both come often enough to tell something.
        self.assertGreater(soon, 20)
        self.assertGreater(never, 5)

    def test_flows_agree_with_the_hour_that_then_goes_by(self):
        for chance, sizes, line in self.lines():
            told = run(line + [("sums",)] + [("flows",), ("hours", 1), ("sums",)] * 60)[len(line):]
            before = told[0]
            for flows, sums in zip(told[1::3], told[3::3]):
                made, grey, black, used = flows
                self.assertEqual([made, used, grey, black], [b - a for a, b in zip(before, sums)][:4])
                before = sums

    def test_only_where_it_may(self):
        for chance, sizes, line in self.lines():
            told = run(line + [("may",), ("flows",), ("hours", 1)] * 60)[len(line):]
            for may, flows in zip(told[0::3], told[1::3]):
                for bit, flow in zip((1, 2, 4), flows):
                    if may[0] & bit == 0:
                        self.assertEqual(flow, 0)

    def test_no_tank_runs_over(self):
        for chance, sizes, line in self.lines():
            told = run(line + [("hours", 1), ("room",), ("tanks",)] * 60)[len(line):]
            for hour, room, tanks in zip(told[0::3], told[1::3], told[2::3]):
                self.assertEqual(tanks, [hour[2], sizes[0], hour[3], sizes[2], hour[4], sizes[4]])
                self.assertEqual(room, [sizes[0] - hour[2], sizes[2] - hour[3], sizes[4] - hour[4]])
                self.assertGreaterEqual(min(room + hour), 0)

    def test_each_litre_is_accounted_for(self):
        for chance, sizes, line in self.lines():
            names = CHANGES + ["hours"] * 5 + ["back", "again"] * 2
            for k in range(80):
                line += [some_call(chance, names), ("tanks",), ("sums",)]
            told = run(line)[-240:]
            for tanks, sums in zip(told[1::3], told[2::3]):
                there = tanks[0] + tanks[2] + tanks[4]
                taken_in, used, grey_gone, black_gone, ashore, lacked = sums
                gone = grey_gone + black_gone + ashore
                self.assertEqual(sizes[0] + taken_in, there + gone)
                self.assertEqual(used, tanks[2] + tanks[4] + gone)

    def test_what_is_wanted_is_used_or_lacks(self):
        for chance, sizes, line in self.lines():
            n = chance.randint(1, 60)
            wants, hours, sums = run(line + [("wants",), ("hours", n), ("sums",)])[-3:]
            self.assertEqual(sums[1] + sums[5], n * wants[0])
            self.assertEqual(sums[5], hours[1])

    def test_as_much_as_can_be_is_used(self):
        for chance, sizes, line in self.lines():
            told = run(line + [("tanks",), ("flows",), ("hours", 1)] * 60)[len(line):]
            for tanks, flows, hour in zip(told[0::3], told[1::3], told[2::3]):
                if hour[1] > 0:
                    made, grey_gone, black_gone, used = flows
                    more = used + 1
                    self.assertTrue(more > tanks[0] + made
                                    or tanks[2] - grey_gone + more * 9 // 10 > sizes[2]
                                    or tanks[4] - black_gone + more - more * 9 // 10 > sizes[4])

    def test_what_is_taken_back_was_never_there(self):
        for chance, sizes, line in self.lines():
            told = line + [some_call(chance, CHANGES + ["hours"] * 3) for k in range(25)]
            done = [call for call, answer in zip(told, run(told)) if answer[0] >= 0]
            backs = chance.randint(1, len(done) - len(line))
            agains = chance.randint(0, backs)
            history = done + [("back",)] * backs + [("again",)] * agains
            left = done[:len(done) - backs + agains]
            state = ASKS.index(("state",))
            one, other = run(history + ASKS)[len(history):], run(left + ASKS)[len(left):]
            changes, undone = one[state][5:]
            self.assertEqual(undone, backs - agains)
            self.assertEqual(changes, min(len(done) - 1, 30) - backs + agains)
            one[state][5:] = other[state][5:] = []
            self.assertEqual(one, other)


if __name__ == "__main__":
    unittest.main()
