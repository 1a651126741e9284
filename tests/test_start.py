"""Point 1: ww_start, and what is as at first."""

import unittest

from helper import BIGGEST, MOST, PROBE, SHIP, check_refused, last, run

BUSY = [SHIP, ("leg", 4, 0, 0), ("leg", 9, 12, 6), ("persons", 10, 15), ("set", 1, 1, 1), ("hours", 2)]


class Starts(unittest.TestCase):
    def test_a_start_answers_0(self):
        self.assertEqual(run([SHIP]), [[0]])

    def test_as_at_first(self):
        self.assertEqual(run([SHIP, ("room",)])[1], [0, 500, 60])
        self.assertEqual(run([SHIP, ("may",)])[1], [0, 0, 0])
        self.assertEqual(run([SHIP, ("next_go",)])[1], [-33])
        self.assertEqual(run([SHIP, ("lasts",)])[1], [500])
        self.assertEqual(run([SHIP, ("persons", 0, 0)])[1], [0, 0, 0])
        self.assertEqual(run([SHIP, ("set", 0, 0, 0)])[1], [-17])
        self.assertEqual(run([SHIP, ("leg", 5, 1, 1)])[1], [5])
        self.assertEqual(run([SHIP, ("hours", 1)])[1], [1, 0, 1000, 0, 0])
        self.assertEqual(run([SHIP, ("wants",)])[1], [0, 0, 0])
        self.assertEqual(run([SHIP, ("where", 0)])[1], [0, 0, 0, 0, 0])
        self.assertEqual(run([SHIP, ("look", 0)])[1], [-2])
        self.assertEqual(run([SHIP, ("end",)])[1], [0, 0])
        self.assertEqual(run([SHIP, ("full", 1)])[1], [-33])
        self.assertEqual(run([SHIP, ("tanks",)])[1], [1000, 1000, 0, 500, 0, 60])
        self.assertEqual(run([SHIP, ("flows",)])[1], [0, 0, 0, 0])
        self.assertEqual(run([SHIP, ("sums",)])[1], [0, 0, 0, 0, 0, 0])
        self.assertEqual(run([SHIP, ("back",)])[1], [-2])
        self.assertEqual(run([SHIP, ("again",)])[1], [-2])
        self.assertEqual(run([SHIP, ("state",)])[1], [0, 0, 0, 0, 0, 0, 0])

    def test_each_number_just_within_and_just_beyond(self):
        for place in range(1, 7):
            for number, answer in ((0, -22), (1, 0), (MOST, 0), (MOST + 1, -22), (BIGGEST, -22)):
                call = list(SHIP)
                call[place] = number
                with self.subTest(place=place, number=number):
                    self.assertEqual(run([tuple(call)]), [[answer]])

    def test_all_numbers_at_their_limits(self):
        self.assertEqual(run([("start", 1, 1, 1, 1, 1, 1), ("room",)]), [[0], [0, 1, 1]])
        self.assertEqual(run([("start",) + (MOST,) * 6, ("room",)]), [[0], [0, MOST, MOST]])
        self.assertEqual(run([("start",) + (BIGGEST,) * 6]), [[-22]])
        self.assertEqual(run([("start",) + (0,) * 6]), [[-22]])

    def test_refused_starts_ahead_of_the_first(self):
        bad = ("start", 0, 1, 1, 1, 1, 1)
        self.assertEqual(run([bad, bad, SHIP, ("room",)]), [[-22], [-22], [0], [0, 500, 60]])
        self.assertEqual(run([bad]), [[-22]])

    def test_a_refused_start_leaves_all_as_it_was(self):
        for place in range(1, 7):
            for number in (0, MOST + 1, BIGGEST):
                call = list(SHIP)
                call[place] = number
                check_refused(self, BUSY, tuple(call), -22)

    def test_another_start_makes_all_as_at_first(self):
        other = ("start", 70, 5, 40, 6, 9, 2)
        again = run(BUSY + [other] + PROBE)
        self.assertEqual(again[len(BUSY):], run([other] + PROBE))

    def test_another_start_with_the_same_numbers(self):
        again = run(BUSY + BUSY + PROBE)
        self.assertEqual(again[len(BUSY):], run(BUSY + PROBE))

    def test_another_start_forgets_what_was_taken_in(self):
        line = [("start", MOST, 1, MOST, MOST, MOST, MOST), ("persons", 5000, 80)]
        for k in range(100):
            line += [("hours", 25), ("ashore", 9000000, 1000000), ("bunker", MOST)]
        self.assertEqual(last(line), [MOST])
        line += [("hours", 1)]
        self.assertEqual(last(line + [("bunker", 1)]), [-28])
        line += [("start", 9, 9, 9, 9, 9, 9), ("persons", 1, 1), ("hours", 1)]
        self.assertEqual(last(line + [("bunker", 1)]), [9])


if __name__ == "__main__":
    unittest.main()
