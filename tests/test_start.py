"""Point 1: ww_start, what is as at first, and what is kept of a change."""

import unittest

from helper import BIGGEST, MOST, PROBE, check_refused, last, run
from shiptanks.changes import make_change
from shiptanks.codes import ASHORE, BUNKER, HOURS, LEG, PERSONS, SET
from shiptanks.state import Ship, Sizes

SMALL = ("start", 1000, 100, 500, 200, 60, 30)
BUSY = [SMALL, ("leg", 4, 0, 0), ("leg", 9, 12, 6), ("persons", 10, 15), ("set", 1, 1, 1), ("hours", 2)]


class Starts(unittest.TestCase):
    def test_a_start_answers_0(self):
        self.assertEqual(run([SMALL]), [[0]])

    def test_as_at_first(self):
        self.assertEqual(run([SMALL, ("room",)])[1], [0, 500, 60])
        self.assertEqual(run([SMALL, ("may",)])[1], [0, 0, 0])
        self.assertEqual(run([SMALL, ("next_go",)])[1], [-33])
        self.assertEqual(run([SMALL, ("lasts",)])[1], [500])
        self.assertEqual(run([SMALL, ("persons", 0, 0)])[1], [0, 0, 0])
        self.assertEqual(run([SMALL, ("set", 0, 0, 0)])[1], [-17])
        self.assertEqual(run([SMALL, ("leg", 5, 1, 1)])[1], [5])
        self.assertEqual(run([SMALL, ("hours", 1)])[1], [1, 0, 1000, 0, 0])

    def test_each_number_just_within_and_just_beyond(self):
        for place in range(1, 7):
            for number, answer in ((0, -22), (1, 0), (MOST, 0), (MOST + 1, -22), (BIGGEST, -22)):
                call = list(SMALL)
                call[place] = number
                with self.subTest(place=place, number=number):
                    self.assertEqual(run([tuple(call)]), [[answer]])

    def test_all_numbers_at_their_limits(self):
        self.assertEqual(run([("start", 1, 1, 1, 1, 1, 1), ("room",)]), [[0], [0, 1, 1]])
        self.assertEqual(run([("start",) + (MOST,) * 6, ("room",)]), [[0], [0, MOST, MOST]])
        self.assertEqual(run([("start",) + (BIGGEST,) * 6]), [[-22]])
        self.assertEqual(run([("start",) + (0,) * 6]), [[-22]])

    def test_refused_starts_ahead_of_the_first(self):
        bad = ("start", 0, 1, 1, 1, 1, 1)
        self.assertEqual(run([bad, bad, SMALL, ("room",)]), [[-22], [-22], [0], [0, 500, 60]])
        self.assertEqual(run([bad]), [[-22]])

    def test_a_refused_start_leaves_all_as_it_was(self):
        for place in range(1, 7):
            for number in (0, MOST + 1, BIGGEST):
                call = list(SMALL)
                call[place] = number
                check_refused(self, BUSY, tuple(call), -22)

    def test_another_start_makes_all_as_at_first(self):
        other = ("start", 70, 5, 40, 6, 9, 2)
        again = run(BUSY + [other] + PROBE)
        self.assertEqual(again[len(BUSY):], run([other] + PROBE))

    def test_another_start_with_the_same_numbers(self):
        again = run(BUSY + BUSY + PROBE)
        self.assertEqual(again[len(BUSY):], run(BUSY + PROBE))

    def test_another_start_forgets_what_was_taken_in(self):
        line = [("start", MOST, 1, MOST, MOST, MOST, MOST), ("persons", 5000, 80)]
        for k in range(100):
            line += [("hours", 25), ("ashore", 9000000, 1000000), ("bunker", MOST)]
        self.assertEqual(last(line), [MOST])
        line += [("hours", 1)]
        self.assertEqual(last(line + [("bunker", 1)]), [-28])
        line += [("start", 9, 9, 9, 9, 9, 9), ("persons", 1, 1), ("hours", 1)]
        self.assertEqual(last(line + [("bunker", 1)]), [9])


def ship_with_all_changes():
    ship = Ship(Sizes(1000, 100, 500, 200, 60, 30))
    make_change(ship, PERSONS, [10, 15])
    make_change(ship, SET, [1, 1, 1])
    make_change(ship, HOURS, [2])
    return ship


def seen(state):
    """All that a state tells, with its legs written out."""
    told = dict(vars(state))
    told["sizes"] = dict(vars(state.sizes))
    told["legs"] = [dict(vars(leg)) for leg in state.legs]
    return told


class Kept(unittest.TestCase):
    def test_each_change_keeps_how_all_stood(self):
        for number, numbers in ((PERSONS, [1, 2]), (SET, [0, 1, 1]), (BUNKER, [5]), (ASHORE, [5, 5]), (HOURS, [3])):
            ship = ship_with_all_changes()
            before = seen(ship.now)
            with self.subTest(number=number):
                self.assertGreaterEqual(make_change(ship, number, numbers)[0], 0)
                self.assertEqual(len(ship.earlier), 4)
                self.assertEqual(seen(ship.earlier[-1]), before)
                self.assertNotEqual(seen(ship.now), before)

    def test_a_leg_keeps_how_all_stood(self):
        ship = Ship(Sizes(1, 1, 1, 1, 1, 1))
        make_change(ship, LEG, [5, 6, 7])
        make_change(ship, LEG, [5, 6, 7])
        self.assertEqual([len(state.legs) for state in ship.earlier], [0, 1])
        self.assertEqual(len(ship.now.legs), 2)

    def test_a_change_to_what_already_is_counts(self):
        ship = ship_with_all_changes()
        make_change(ship, PERSONS, [10, 15])
        self.assertEqual(len(ship.earlier), 4)

    def test_a_refusal_keeps_nothing(self):
        refused = (
            (LEG, [0, 0, 0]), (LEG, [1, 0, 0]), (PERSONS, [5001, 0]), (SET, [2, 0, 0]), (SET, [1, 1, 1]),
            (BUNKER, [0]), (BUNKER, [301]), (ASHORE, [0, 0]), (ASHORE, [271, 0]), (HOURS, [0]),
        )
        for number, numbers in refused:
            ship = ship_with_all_changes()
            before = seen(ship.now)
            ship.undone = [ship.now]
            with self.subTest(number=number, numbers=numbers):
                self.assertLess(make_change(ship, number, numbers)[0], 0)
                self.assertEqual(seen(ship.now), before)
                self.assertEqual(len(ship.earlier), 3)
                self.assertEqual(len(ship.undone), 1)

    def test_hours_refused_for_what_was_made_keep_nothing(self):
        ship = Ship(Sizes(1000, 1000, 1000, 1000, 1000, 1000))
        make_change(ship, LEG, [500, 12, 6])
        make_change(ship, PERSONS, [10, 10])
        make_change(ship, SET, [1, 1, 1])
        ship.now.taken_in = 999999900
        before = seen(ship.now)
        self.assertEqual(make_change(ship, HOURS, [3]), [-28])
        self.assertEqual(seen(ship.now), before)
        self.assertEqual(len(ship.earlier), 3)
        self.assertEqual(make_change(ship, HOURS, [2]), [2, 0, 900, 90, 10])
        self.assertEqual(ship.now.taken_in, 1000000000)

    def test_the_last_30_are_kept(self):
        ship = Ship(Sizes(9, 9, 9, 9, 9, 9))
        for k in range(1, 41):
            make_change(ship, HOURS, [1])
            self.assertEqual(len(ship.earlier), min(k, 30))
        self.assertEqual([state.hour for state in ship.earlier], list(range(10, 40)))
        self.assertEqual(ship.now.hour, 40)

    def test_a_change_ends_what_could_be_done_again(self):
        ship = ship_with_all_changes()
        ship.undone = [ship.now, ship.now]
        make_change(ship, HOURS, [1])
        self.assertEqual(ship.undone, [])

    def test_a_new_ship_has_no_changes(self):
        ship = Ship(Sizes(9, 9, 9, 9, 9, 9))
        self.assertEqual((ship.earlier, ship.undone), ([], []))


if __name__ == "__main__":
    unittest.main()
