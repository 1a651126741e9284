"""Points 4 and 5: ww_lasts, ww_next, ww_may, ww_ahead, ww_room."""

import unittest

from helper import BIGGEST, PROBE, SHIP, VOYAGE, behind_hours, check_refused, check_taken, last, run


class Lasts(unittest.TestCase):
    def test_how_long(self):
        # The black tank is full behind hour 3; something lacks in hours 4 to 6, 10, 11, 14 and from then on.
        told = [last(behind_hours(VOYAGE, n) + [("lasts",)]) for n in range(16)]
        self.assertEqual(told, [[n] for n in (4, 3, 2, 1, 0, 0, 0, 3, 2, 1, 0, 0, 2, 1, 0, 0)])

    def test_nothing_wanted_lasts_500_hours(self):
        check_taken(self, [SHIP], ("lasts",), [500])

    def test_around_500(self):
        for fresh, n in ((498, 498), (499, 499), (500, 500), (501, 500), (999, 500)):
            line = [("start", fresh, 1, 10000, 1, 10000, 1), ("persons", 1, 1)]
            check_taken(self, line, ("lasts",), [n])

    def test_as_it_is_set(self):
        line = [("start", 100, 10, 90, 90, 90, 90), ("leg", 400, 12, 6), ("persons", 10, 1)]
        # Behind hour 9 there is no fresh water unless it is made, and no room for grey unless it is let go.
        check_taken(self, line, ("lasts",), [10])
        check_taken(self, line + [("set", 0, 1, 1)], ("lasts",), [10])
        check_taken(self, line + [("set", 1, 1, 0)], ("lasts",), [90])
        check_taken(self, line + [("set", 1, 0, 1)], ("lasts",), [10])
        check_taken(self, line + [("set", 1, 1, 1)], ("lasts",), [409])

    def test_what_lacked_before_does_not_count(self):
        line = [("start", 10, 1, 90, 1, 90, 1), ("persons", 10, 1), ("hours", 5), ("bunker", 10)]
        check_taken(self, line, ("lasts",), [1])

    def test_it_looks_on_past_hour_10000(self):
        line = [("start", 10000000, 1, 10000000, 1, 10000000, 1)] + [("hours", 500)] * 20 + [("persons", 500, 80)]
        check_taken(self, line, ("lasts",), [250])
        check_taken(self, line + [("persons", 0, 0)], ("lasts",), [500])


class NextGo(unittest.TestCase):
    def test_here(self):
        check_taken(self, [SHIP, ("leg", 1, 12, 6)], ("next_go",), [0, 1, 1])
        check_taken(self, [SHIP, ("leg", 1, 4, 6)], ("next_go",), [0, 1, 0])
        check_taken(self, [SHIP, ("leg", 1, 12, 4)], ("next_go",), [0, 0, 1])

    def test_later_on(self):
        told = [last(behind_hours(VOYAGE, n) + [("next_go",)]) for n in range(15)]
        self.assertEqual(told, [[0, 4, 8], [0, 3, 7], [0, 2, 6], [0, 1, 5], [0, 1, 4], [0, 1, 3], [0, 1, 2],
                                [0, 6, 1], [0, 5, 1], [0, 4, 1], [0, 3, 1], [0, 2, 1], [0, 1, 1], [0, 1, 1], [-33]])

    def test_the_first_of_several_places(self):
        line = [SHIP, ("leg", 2, 0, 0), ("leg", 2, 12, 6), ("leg", 2, 0, 0), ("leg", 2, 12, 6)]
        check_taken(self, line, ("next_go",), [0, 3, 3])
        check_taken(self, line + [("hours", 4)], ("next_go",), [0, 3, 3])

    def test_neither(self):
        check_refused(self, [SHIP], ("next_go",), -33)
        check_refused(self, [SHIP, ("leg", 9, 3, 40), ("leg", 9, 1000, 3), ("leg", 9, 11, 5)], ("next_go",), -33)
        check_refused(self, [SHIP, ("leg", 2, 12, 6), ("hours", 2)], ("next_go",), -33)

    def test_in_500_hours_is_within_501_is_not(self):
        near = [SHIP, ("leg", 500, 0, 0), ("leg", 1, 12, 6)]
        check_taken(self, near, ("next_go",), [0, 501, 501])
        far = [SHIP, ("leg", 500, 0, 0), ("leg", 1, 0, 0), ("leg", 1, 12, 6)]
        check_refused(self, far, ("next_go",), -33)
        check_taken(self, far + [("hours", 1)], ("next_go",), [0, 501, 501])
        check_taken(self, far + [("hours", 2)], ("next_go",), [0, 500, 500])
        grey_near = [SHIP, ("leg", 500, 0, 0), ("leg", 1, 4, 6), ("leg", 1, 12, 4)]
        check_taken(self, grey_near, ("next_go",), [0, 501, 0])
        black_near = [SHIP, ("leg", 500, 0, 0), ("leg", 1, 12, 4), ("leg", 1, 4, 6)]
        check_taken(self, black_near, ("next_go",), [0, 0, 501])

    def test_neither_what_is_set_nor_what_there_is_matters(self):
        line = [SHIP, ("leg", 5, 0, 0), ("leg", 5, 12, 6)]
        for more in ([], [("set", 1, 1, 1)], [("persons", 10, 15)], [("persons", 10, 15), ("set", 0, 1, 0)]):
            check_taken(self, line + more, ("next_go",), [0, 6, 6])


class May(unittest.TestCase):
    def test_by_miles_and_knots(self):
        for miles, knots, what in (
            (0, 0, 0), (0, 40, 0), (3, 6, 0), (3, 40, 0), (4, 5, 0), (4, 6, 2), (4, 7, 2), (5, 6, 2), (11, 3, 0),
            (11, 5, 0), (11, 6, 2), (11, 40, 2), (12, 0, 1), (12, 3, 1), (12, 4, 5), (12, 5, 5), (12, 6, 7),
            (13, 3, 1), (13, 4, 5), (1000, 0, 1), (1000, 40, 7),
        ):
            check_taken(self, [SHIP, ("leg", 1, miles, knots)], ("may",), [what, miles, knots])

    def test_by_the_hour(self):
        told = [last(behind_hours(VOYAGE, n) + [("may",)]) for n in (0, 2, 3, 6, 7, 11, 12, 13, 14, 500)]
        self.assertEqual(told, [[0, 0, 0], [0, 0, 0], [2, 4, 6], [2, 4, 6], [5, 12, 4], [5, 12, 4], [7, 20, 10],
                                [7, 20, 10], [0, 0, 0], [0, 0, 0]])

    def test_the_tenth_leg(self):
        line = [SHIP] + [("leg", 1, k, k) for k in range(10, 20)]
        self.assertEqual(last(line + [("hours", 9), ("may",)]), [7, 19, 19])
        self.assertEqual(last(line + [("hours", 10), ("may",)]), [0, 0, 0])

    def test_what_is_set_does_not_matter(self):
        line = [SHIP, ("leg", 1, 12, 6)]
        self.assertEqual(last(line + [("set", 1, 0, 1), ("may",)]), last(line + [("may",)]))


class Ahead(unittest.TestCase):
    def test_reckoned_by_hand(self):
        check_taken(self, VOYAGE, ("ahead", 1), [850, 135, 15, 0])
        check_taken(self, VOYAGE, ("ahead", 4), [400, 340, 60, 0])
        check_taken(self, VOYAGE, ("ahead", 7), [400, 0, 60, 450])
        check_taken(self, VOYAGE, ("ahead", 16), [97, 500, 31, 797])
        check_taken(self, VOYAGE + [("hours", 10)], ("ahead", 2), [343, 500, 1, 193])

    def test_numbers_just_within_and_just_beyond(self):
        check_taken(self, [SHIP], ("ahead", 1), [1000, 0, 0, 0])
        check_taken(self, [SHIP], ("ahead", 500), [1000, 0, 0, 0])
        for n in (0, 501, BIGGEST):
            check_refused(self, VOYAGE, ("ahead", n), -22)

    def test_it_looks_on_past_hour_10000(self):
        line = [("start", 1000, 1, 1000, 1, 1000, 1)] + [("hours", 500)] * 20 + [("persons", 10, 1)]
        check_taken(self, line, ("ahead", 50), [500, 450, 50, 0])
        check_taken(self, line, ("ahead", 500), [0, 900, 100, 4000])

    def test_it_agrees_with_hours(self):
        for begin in (1, 5, 9, 13):
            for n in (1, 2, 3, 8, 500):
                line = VOYAGE + [("hours", begin)]
                hours = last(line + [("hours", n)])
                self.assertEqual(last(line + [("ahead", n)]), hours[2:] + hours[1:2])


class Room(unittest.TestCase):
    def test_how_much_more(self):
        check_taken(self, [SHIP], ("room",), [0, 500, 60])
        check_taken(self, VOYAGE + [("hours", 1)], ("room",), [150, 365, 45])
        check_taken(self, VOYAGE + [("hours", 4)], ("room",), [600, 160, 0])
        check_taken(self, VOYAGE + [("hours", 12)], ("room",), [657, 0, 59])

    def test_just_so_much_fits(self):
        line = VOYAGE + [("hours", 2)]
        self.assertEqual(run(line + [("room",), ("bunker", 300), ("room",)])[-3:],
                         [[300, 230, 30], [1000], [0, 230, 30]])


class AskingLeavesAllAsItWas(unittest.TestCase):
    def test_each_call(self):
        for before in ([SHIP], VOYAGE, VOYAGE + [("hours", 5)], VOYAGE + [("hours", 11)]):
            without = run(before + PROBE)[len(before):]
            for call in (("lasts",), ("next_go",), ("may",), ("ahead", 1), ("ahead", 500), ("room",), ("wants",),
                         ("where", 5), ("where", 10000), ("look", 0), ("look", 3), ("end",), ("full", 1), ("full", 100),
                         ("tanks",), ("flows",), ("sums",), ("state",)):
                told = run(before + [call, call] + PROBE)[len(before):]
                self.assertEqual(told[0], told[1], call)
                self.assertEqual(told[2:], without, call)


if __name__ == "__main__":
    unittest.main()
