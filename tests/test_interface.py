"""The interface: shiptanks.ship.answers, the list that is handed in and the list that is given back."""

import unittest

from helper import ASKS, BIGGEST, NUMBERS, PROBE, SHIP, flat, run
from shiptanks.ship import answers

LINE = [SHIP, ("leg", 3, 0, 0), ("leg", 9, 12, 6), ("persons", 10, 15), ("set", 1, 1, 1), ("hours", 2)] + PROBE
PLACES = {"start": 6, "leg": 3, "persons": 2, "set": 3, "bunker": 1, "ashore": 2, "hours": 1, "ahead": 1, "where": 1,
          "look": 1, "full": 1}
# How many numbers each call answers when it isn't refused.
COUNTS = {"start": 1, "leg": 1, "persons": 3, "set": 1, "bunker": 1, "ashore": 2, "hours": 5, "lasts": 1, "next_go": 3,
          "may": 3, "ahead": 4, "room": 3, "wants": 3, "where": 5, "look": 3, "end": 2, "full": 1, "tanks": 6,
          "flows": 4, "sums": 6, "back": 1, "again": 1, "state": 7}


class TheList(unittest.TestCase):
    def test_number_by_number(self):
        calls = [0, 1000, 100, 500, 200, 60, 30,
                 1, 3, 0, 0,
                 2, 10, 15,
                 3, 1, 1, 1,
                 6, 2,
                 4, 100,
                 5, 20, 10,
                 7,
                 8,
                 9,
                 10, 1,
                 11,
                 6, 0,
                 12,
                 13, 2,
                 14, 0,
                 15,
                 16, 60,
                 17,
                 18,
                 19,
                 20,
                 21,
                 22,
                 21]
        self.assertEqual(answers(calls), [1, 0,
                                          1, 3,
                                          3, 150, 0, 0,
                                          1, 0,
                                          5, 2, 0, 700, 270, 30,
                                          1, 800,
                                          2, 250, 20,
                                          1, 1,
                                          1, -33,
                                          3, 0, 0, 0,
                                          4, 650, 385, 35, 0,
                                          3, 200, 250, 40,
                                          1, -22,
                                          3, 150, 135, 15,
                                          5, 0, 0, 0, 0, 0,
                                          3, 3, 0, 0,
                                          2, 3, 1,
                                          1, 1,
                                          6, 800, 1000, 250, 500, 20, 60,
                                          4, 0, 0, 0, 150,
                                          6, 100, 300, 0, 0, 30, 0,
                                          1, 5,
                                          1, 0,
                                          7, 2, 1, 10, 15, 7, 6, 0,
                                          1, -2])

    def test_how_many_numbers_each_call_answers(self):
        line = [SHIP, ("leg", 1, 0, 0), ("leg", 3, 12, 6), ("persons", 10, 15), ("set", 1, 1, 1), ("hours", 4),
                ("bunker", 1), ("ashore", 1, 1), ("lasts",), ("leg", 3, 12, 6), ("next_go",), ("may",), ("ahead", 3),
                ("room",), ("wants",), ("where", 10000), ("look", 2), ("end",), ("full", 1), ("tanks",), ("flows",),
                ("sums",), ("back",), ("again",), ("state",)]
        told = run(line)
        self.assertEqual({call[0] for call in line}, set(NUMBERS))
        self.assertEqual([len(answer) for answer in told], [COUNTS[call[0]] for call in line])
        for call, answer in zip(LINE, run(LINE)):
            if answer[0] < 0:
                self.assertEqual(len(answer), 1)
            else:
                self.assertEqual(len(answer), COUNTS[call[0]])
                self.assertGreaterEqual(min(answer), 0)

    def test_plain_whole_numbers_in_a_list(self):
        given = answers(flat(LINE))
        self.assertIs(type(given), list)
        self.assertEqual({type(number) for number in given}, {int})

    def test_what_is_handed_in_is_not_changed(self):
        calls = flat(LINE)
        before = list(calls)
        answers(calls)
        self.assertEqual(calls, before)

    def test_a_second_time_gives_the_same(self):
        calls = flat(LINE)
        first = answers(calls)
        kept = list(first)
        first.append(7)
        answers(flat([("start", 5, 5, 5, 5, 5, 5), ("persons", 1, 1), ("hours", 9), ("back",)]))
        self.assertEqual(answers(calls), kept)

    def test_nothing_is_left_for_a_second_time(self):
        answers(flat(LINE))
        self.assertEqual(run([SHIP, ("back",), ("again",)]), [[0], [-2], [-2]])
        self.assertEqual(run([SHIP] + ASKS)[1:4], [[1000, 1000, 0, 500, 0, 60], [0] * 6, [0] * 7])

    def test_the_longest_lists(self):
        line = [SHIP] + [("leg", 500, 12, 6)] * 10 + [("persons", 1, 1), ("set", 1, 1, 1)]
        line += [("hours", 1), ("room",), ("lasts",)] * 329
        self.assertEqual(len(line), 1000)
        told = run(line)
        self.assertEqual(told[-3:], [[329, 0, 999, 0, 1], [1, 500, 59], [500]])
        self.assertEqual(run([SHIP] * 1000), [[0]] * 1000)

    def test_the_longest_list_of_changes_taken_back(self):
        line = [SHIP, ("persons", 1, 1)] + [("hours", 1)] * 900 + [("back",)] * 40 + [("again",)] * 40
        line += [("hours", 1), ("back",)] * 8 + [("state",), ("tanks",)]
        self.assertEqual(len(line), 1000)
        told = run(line)
        # Of the 901 changes 30 come back and are done again; at the end the 902nd is taken back each time.
        self.assertEqual(told[902:942], [[29 - k] for k in range(30)] + [[-2]] * 10)
        self.assertEqual(told[942:982], [[29 - k] for k in range(30)] + [[-2]] * 10)
        self.assertEqual(told[-4:], [[901, 1, 940, 0, 60], [29], [900, 0, 1, 1, 0, 29, 1], [940, 1000, 0, 500, 60, 60]])

    def test_the_longest_list_of_looks_ahead(self):
        line = [("start",) + (10000000,) * 6] + [("leg", 500, 12, 6)] * 10 + [("persons", 1, 1)]
        line += [("full", 100)] * 494 + [("next_go",), ("lasts",)] * 247
        self.assertEqual(len(line), 1000)
        told = run(line)
        self.assertEqual(told[12:506], [[-33]] * 494)
        self.assertEqual(told[506:], [[0, 1, 1], [500]] * 247)


class TheBiggestNumbers(unittest.TestCase):
    def test_in_every_place(self):
        before = LINE[:6]
        for name, places in PLACES.items():
            for place in range(places):
                for others in (0, 1, BIGGEST):
                    numbers = [others] * places
                    numbers[place] = BIGGEST
                    told = run(before + [(name,) + tuple(numbers)] + PROBE)
                    refusal = told[len(before)]
                    with self.subTest(name=name, numbers=numbers):
                        self.assertEqual(len(refusal), 1)
                        self.assertLess(refusal[0], 0)
                        self.assertEqual(told[len(before) + 1:], run(before + PROBE)[len(before):])

    def test_each_call_with_numbers_is_among_them(self):
        for name, number in NUMBERS.items():
            self.assertEqual(name in PLACES, number <= 6 or number in (10, 13, 14, 16))


if __name__ == "__main__":
    unittest.main()
