"""Point 5: ww_wants, ww_where, ww_look, ww_end."""

import unittest

from helper import BIGGEST, SHIP, VOYAGE, behind_hours, check_refused, check_taken, last, run

# Ten legs, each of its own length, distance and speed.
TEN = [SHIP] + [("leg", 10 + k, k, 2 * k) for k in range(10)]
# The longest way there is: it ends at hour 5,000.
LONGEST = [SHIP] + [("leg", 500, 12, 6)] * 9 + [("leg", 500, 1000, 40)]


class Wants(unittest.TestCase):
    def test_nine_tenths_rounded_down_and_the_rest(self):
        for n, uses, answer in (
            (0, 0, [0, 0, 0]), (0, 80, [0, 0, 0]), (5000, 0, [0, 0, 0]), (1, 1, [1, 0, 1]), (2, 1, [2, 1, 1]),
            (3, 3, [9, 8, 1]), (10, 1, [10, 9, 1]), (11, 1, [11, 9, 2]), (1, 19, [19, 17, 2]), (2, 10, [20, 18, 2]),
            (10, 15, [150, 135, 15]), (7, 17, [119, 107, 12]), (5000, 80, [400000, 360000, 40000]),
            (4999, 79, [394921, 355428, 39493]),
        ):
            check_taken(self, [SHIP, ("persons", n, uses)], ("wants",), answer)

    def test_from_now_on(self):
        line = [SHIP, ("persons", 10, 15), ("wants",), ("persons", 3, 7), ("wants",)]
        self.assertEqual(run(line), [[0], [150, 0, 0], [150, 135, 15], [21, 10, 15], [21, 18, 3]])

    def test_neither_what_there_is_nor_room_matters(self):
        line = [("start", 1, 1, 1, 1, 1, 1), ("persons", 10, 15), ("hours", 9)]
        check_taken(self, line, ("wants",), [150, 135, 15])

    def test_a_refused_change_leaves_it(self):
        check_taken(self, [SHIP, ("persons", 10, 15), ("persons", 5001, 1)], ("wants",), [150, 135, 15])


class Where(unittest.TestCase):
    def test_along_the_way(self):
        port, grey, black, both = [0, 0, 0, 0, 0], [4, 6, 0, 1, 0], [12, 4, 1, 0, 1], [20, 10, 1, 1, 1]
        told = [last(VOYAGE + [("where", t)]) for t in range(17)]
        self.assertEqual(told, [port] * 3 + [grey] * 4 + [black] * 5 + [both] * 2 + [port] * 3)

    def test_what_may_be_by_miles_and_knots(self):
        for miles, knots, may in (
            (0, 0, [0, 0, 0]), (0, 40, [0, 0, 0]), (3, 6, [0, 0, 0]), (3, 40, [0, 0, 0]), (4, 5, [0, 0, 0]),
            (4, 6, [0, 1, 0]), (11, 3, [0, 0, 0]), (11, 5, [0, 0, 0]), (11, 6, [0, 1, 0]), (11, 40, [0, 1, 0]),
            (12, 0, [1, 0, 0]), (12, 3, [1, 0, 0]), (12, 4, [1, 0, 1]), (12, 5, [1, 0, 1]), (12, 6, [1, 1, 1]),
            (1000, 0, [1, 0, 0]), (1000, 40, [1, 1, 1]),
        ):
            check_taken(self, [SHIP, ("leg", 2, miles, knots)], ("where", 1), [miles, knots] + may)

    def test_at_the_ends_of_the_longest_way(self):
        for t, answer in ((0, [12, 6, 1, 1, 1]), (499, [12, 6, 1, 1, 1]), (4499, [12, 6, 1, 1, 1]),
                          (4500, [1000, 40, 1, 1, 1]), (4999, [1000, 40, 1, 1, 1]), (5000, [0, 0, 0, 0, 0]),
                          (5001, [0, 0, 0, 0, 0]), (10000, [0, 0, 0, 0, 0])):
            check_taken(self, LONGEST, ("where", t), answer)

    def test_hour_10000_and_beyond(self):
        for line in ([SHIP], VOYAGE, VOYAGE + [("hours", 9)]):
            check_taken(self, line, ("where", 10000), [0, 0, 0, 0, 0])
            for t in (10001, 10500, BIGGEST):
                check_refused(self, line, ("where", t), -22)

    def test_hours_that_are_past_are_told_alike(self):
        for t in (0, 3, 7, 12, 14):
            self.assertEqual(last(VOYAGE + [("hours", 13), ("where", t)]), last(VOYAGE + [("where", t)]))

    def test_what_is_set_does_not_matter(self):
        check_taken(self, VOYAGE + [("set", 0, 0, 0)], ("where", 12), [20, 10, 1, 1, 1])

    def test_it_agrees_with_may(self):
        for n in range(16):
            told = run(behind_hours(VOYAGE, n) + [("may",), ("where", n)])
            may, where = told[-2:]
            self.assertEqual(may, [where[2] + 2 * where[3] + 4 * where[4], where[0], where[1]])


class Look(unittest.TestCase):
    def test_each_leg(self):
        told = [last(VOYAGE + [("look", k)]) for k in range(4)]
        self.assertEqual(told, [[3, 0, 0], [4, 4, 6], [5, 12, 4], [2, 20, 10]])

    def test_each_of_ten(self):
        for k in range(10):
            check_taken(self, TEN, ("look", k), [10 + k, k, 2 * k])

    def test_legs_at_their_limits(self):
        line = [SHIP, ("leg", 500, 1000, 40), ("leg", 1, 0, 0), ("leg", 500, 0, 40)]
        self.assertEqual(run(line + [("look", 0), ("look", 1), ("look", 2)])[-3:],
                         [[500, 1000, 40], [1, 0, 0], [500, 0, 40]])

    def test_no_such_leg(self):
        for line, legs in (([SHIP], 0), (VOYAGE[:2], 1), (VOYAGE, 4), (TEN, 10)):
            for k in (legs, legs + 1, 5000, BIGGEST):
                check_refused(self, line, ("look", k), -2)
            if legs > 0:
                self.assertGreater(last(line + [("look", legs - 1)])[0], 0)

    def test_legs_that_are_past_stay(self):
        check_taken(self, VOYAGE + [("hours", 100)], ("look", 0), [3, 0, 0])
        check_taken(self, VOYAGE + [("hours", 100)], ("look", 3), [2, 20, 10])

    def test_a_leg_added_on_the_way_has_its_own_hours(self):
        line = VOYAGE + [("hours", 14), ("leg", 6, 7, 8)]
        check_taken(self, line, ("look", 4), [6, 7, 8])

    def test_a_refused_leg_is_not_there(self):
        check_refused(self, VOYAGE + [("leg", 501, 7, 8)], ("look", 4), -2)


class End(unittest.TestCase):
    def test_without_a_leg(self):
        check_taken(self, [SHIP], ("end",), [0, 0])
        check_taken(self, [SHIP, ("hours", 5)], ("end",), [0, 0])

    def test_ahead_of_it_at_it_and_behind_it(self):
        told = [last(behind_hours(VOYAGE, n) + [("end",)]) for n in (0, 1, 12, 13, 14, 15, 500)]
        self.assertEqual(told, [[14, 14], [14, 13], [14, 2], [14, 1], [14, 0], [14, 0], [14, 0]])

    def test_legs_one_behind_another(self):
        line = [SHIP, ("leg", 5, 1, 1), ("end",), ("hours", 5), ("end",), ("leg", 7, 1, 1), ("end",), ("hours", 3),
                ("end",)]
        self.assertEqual(run(line)[2::2], [[5, 5], [5, 0], [12, 7], [12, 4]])

    def test_the_longest_way(self):
        check_taken(self, LONGEST, ("end",), [5000, 5000])
        check_taken(self, LONGEST + [("hours", 500)] * 9 + [("hours", 499)], ("end",), [5000, 1])
        check_taken(self, LONGEST + [("hours", 500)] * 20, ("end",), [5000, 0])
        check_taken(self, TEN, ("end",), [145, 145])


if __name__ == "__main__":
    unittest.main()
