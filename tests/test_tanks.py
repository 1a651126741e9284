"""Point 6: ww_full, ww_tanks, ww_flows."""

import unittest

from helper import BIGGEST, MOST, SHIP, VOYAGE, behind_hours, check_refused, check_taken, last, run


class Full(unittest.TestCase):
    def test_along_the_voyage(self):
        # Behind hours 0 to 3 the grey tank has 27, 54, 81, 68 hundredths, the black one 25, 50, 75, 100.
        for h, n in ((1, 1), (25, 1), (26, 1), (27, 1), (28, 2), (50, 2), (54, 2), (55, 3), (75, 3), (76, 3), (81, 3),
                     (82, 4), (99, 4), (100, 4)):
            check_taken(self, VOYAGE, ("full", h), [n])

    def test_later_on_the_voyage(self):
        # From hour 7 on the black tank has 60, 45, 30, 15, 11 litres, the grey one 0, 135, 270, 405, 500.
        for n, h, answer in ((6, 100, 0), (7, 100, 0), (8, 100, 3), (8, 75, 0), (8, 76, 2), (8, 81, 2), (8, 82, 3),
                             (9, 54, 0), (9, 55, 1), (10, 82, 1), (11, 100, 0), (12, 100, 0), (13, 87, 0), (13, 88, 2)):
            with self.subTest(n=n, h=h):
                self.assertEqual(last(VOYAGE + [("hours", n), ("full", h)]), [answer])

    def test_numbers_just_within_and_just_beyond(self):
        for line in ([SHIP], VOYAGE, VOYAGE + [("hours", 5)]):
            for h in (0, 101, BIGGEST):
                check_refused(self, line, ("full", h), -22)
        check_taken(self, VOYAGE, ("full", 1), [1])
        check_taken(self, VOYAGE, ("full", 100), [4])

    def test_a_wrong_number_is_told_ahead_of_not_so_soon(self):
        check_refused(self, [SHIP], ("full", 100), -33)
        check_refused(self, [SHIP], ("full", 101), -22)
        check_refused(self, [SHIP], ("full", 0), -22)

    def test_empty_tanks_have_none(self):
        check_refused(self, [SHIP], ("full", 1), -33)
        check_refused(self, [SHIP, ("hours", 500)], ("full", 1), -33)

    def test_a_tank_that_has_just_so_much(self):
        # Of 100 litres an hour come 90 grey and 10 black.
        for grey, black, h in ((9000, 9000, 1), (180, 9000, 50), (90, 9000, 100), (9000, 1000, 1), (9000, 20, 50),
                               (9000, 10, 100)):
            line = [("start", 100, 1, grey, 1, black, 1), ("persons", 10, 10), ("hours", 1), ("persons", 0, 0)]
            check_taken(self, line, ("full", h), [0])
            if h < 100:
                check_refused(self, line, ("full", h + 1), -33)

    def test_hundredths_are_not_rounded(self):
        # 1 of 3 litres is more than 33 hundredths, and less than 34; 2 of 3 between 66 and 67.
        for used, h, answer in ((1, 33, 0), (1, 34, -33), (11, 66, 0), (11, 67, -33)):
            line = [("start", 100, 1, 1000, 1, 3, 1), ("persons", used, 1), ("hours", 1), ("persons", 0, 0)]
            self.assertEqual(last(line + [("full", h)]), [answer])
        for used, h, answer in ((2, 33, 0), (2, 34, -33), (3, 66, 0), (3, 67, -33)):
            line = [("start", 100, 1, 3, 1, 1000, 1), ("persons", used, 1), ("hours", 1), ("persons", 0, 0)]
            self.assertEqual(last(line + [("full", h)]), [answer])

    def test_a_hundredth_of_the_largest_tanks(self):
        line = [("start",) + (MOST,) * 6, ("persons", 5000, 80)]
        # 360,000 grey an hour: 9,000,000 when the fresh water is gone behind hour 24.
        for h, n in ((1, 1), (3, 1), (4, 2), (7, 2), (8, 3), (89, 25), (90, 25)):
            check_taken(self, line, ("full", h), [n])
        check_refused(self, line, ("full", 91), -33)

    def test_in_just_500_hours_and_not_within_500(self):
        # Of one litre an hour all becomes black; of two one becomes grey, one black.
        for sizes, uses in (((2000, 1, 2000, 1, 500, 1), 1), ((2000, 1, 500, 1, 2000, 1), 2)):
            line = [("start",) + sizes, ("persons", 1, uses)]
            check_taken(self, line, ("full", 100), [500])
            check_taken(self, line, ("full", 99), [495])
        for sizes, uses in (((2000, 1, 2000, 1, 501, 1), 1), ((2000, 1, 501, 1, 2000, 1), 2)):
            line = [("start",) + sizes, ("persons", 1, uses)]
            check_refused(self, line, ("full", 100), -33)
            check_taken(self, line + [("hours", 1)], ("full", 100), [500])
            check_taken(self, line + [("hours", 2)], ("full", 100), [499])

    def test_as_it_is_set(self):
        line = [("start", 100, 10, 90, 90, 90, 90), ("leg", 400, 12, 6), ("persons", 10, 1)]
        # 9 grey and 1 black an hour, as long as there's water.
        check_taken(self, line, ("full", 100), [10])
        # The grey tank has at most 9; the black one gets full when water is made.
        check_refused(self, line + [("set", 0, 1, 0)], ("full", 100), -33)
        check_taken(self, line + [("set", 1, 1, 0)], ("full", 100), [90])
        # Behind the last leg nothing goes: 9 grey an hour more than the 9 behind hour 399.
        check_taken(self, line + [("set", 1, 1, 1)], ("full", 100), [409])
        check_taken(self, line + [("set", 1, 1, 1)], ("full", 10), [1])
        check_taken(self, line + [("set", 1, 1, 1)], ("full", 11), [401])

    def test_it_looks_on_past_hour_10000(self):
        line = [("start", 2000, 1, 2000, 1, 300, 1)] + [("hours", 500)] * 20 + [("persons", 1, 1)]
        check_taken(self, line, ("full", 100), [300])

    def test_full_of_fresh_water_does_not_count(self):
        check_taken(self, [SHIP], ("tanks",), [1000, 1000, 0, 500, 0, 60])
        check_refused(self, [SHIP], ("full", 1), -33)


class Tanks(unittest.TestCase):
    # Fresh, grey, black behind each hour of the voyage, from before the first on.
    TANKS = [
        (1000, 0, 0), (850, 135, 15), (700, 270, 30), (550, 405, 45), (400, 340, 60), (400, 140, 60), (400, 0, 60),
        (400, 0, 60), (350, 135, 45), (300, 270, 30), (250, 405, 15), (244, 500, 11), (343, 500, 1), (293, 435, 15),
        (243, 370, 15), (98, 500, 30), (97, 500, 31),
    ]

    def test_along_the_voyage(self):
        for n, (fresh, grey, black) in enumerate(self.TANKS):
            check_taken(self, behind_hours(VOYAGE, n), ("tanks",), [fresh, 1000, grey, 500, black, 60])

    def test_at_first(self):
        check_taken(self, [("start", 1, 2, 3, 4, 5, 6)], ("tanks",), [1, 1, 0, 3, 0, 5])
        check_taken(self, [("start",) + (MOST,) * 6], ("tanks",), [MOST, MOST, 0, MOST, 0, MOST])

    def test_bunkered_and_given_ashore(self):
        line = [SHIP, ("persons", 10, 15), ("hours", 2), ("bunker", 50), ("ashore", 70, 20)]
        check_taken(self, line, ("tanks",), [750, 1000, 200, 500, 10, 60])

    def test_it_agrees_with_room(self):
        for n in range(17):
            tanks, room = run(behind_hours(VOYAGE, n) + [("tanks",), ("room",)])[-2:]
            self.assertEqual(room, [tanks[1] - tanks[0], tanks[3] - tanks[2], tanks[5] - tanks[4]])


class Flows(unittest.TestCase):
    # Made, grey and black let go, used in each hour of the voyage.
    FLOWS = [
        [0, 0, 0, 150], [0, 0, 0, 150], [0, 0, 0, 150], [0, 200, 0, 150], [0, 200, 0, 0], [0, 140, 0, 0], [0, 0, 0, 0],
        [100, 0, 30, 150], [100, 0, 30, 150], [100, 0, 30, 150], [100, 0, 15, 106], [100, 0, 11, 1],
        [100, 200, 1, 150], [100, 200, 15, 150], [0, 0, 0, 145], [0, 0, 0, 1],
    ]

    def test_along_the_voyage(self):
        for n, flows in enumerate(self.FLOWS):
            check_taken(self, behind_hours(VOYAGE, n), ("flows",), flows)

    def test_only_what_is_set(self):
        line = VOYAGE + [("hours", 12)]
        for setting, flows in (((0, 0, 0), [0, 0, 0, 1]), ((1, 0, 0), [100, 0, 0, 1]), ((0, 1, 0), [0, 200, 0, 150]),
                               ((0, 0, 1), [0, 0, 1, 1]), ((0, 1, 1), [0, 200, 1, 150])):
            check_taken(self, line + [("set",) + setting], ("flows",), flows)

    def test_as_much_as_there_is_room_for_is_made(self):
        line = [("start", 100, 50, 500, 500, 500, 500), ("leg", 9, 12, 6), ("persons", 30, 1), ("set", 1, 0, 0)]
        check_taken(self, line, ("flows",), [0, 0, 0, 30])
        check_taken(self, line + [("hours", 1)], ("flows",), [30, 0, 0, 30])
        check_taken(self, line + [("hours", 1), ("persons", 0, 0)], ("flows",), [30, 0, 0, 0])

    def test_no_more_is_used_than_there_is(self):
        line = [("start", 25, 1, 90, 1, 90, 1), ("persons", 10, 1)]
        told = [last(behind_hours(line, n) + [("flows",)]) for n in range(4)]
        self.assertEqual(told, [[0, 0, 0, 10], [0, 0, 0, 10], [0, 0, 0, 5], [0, 0, 0, 0]])

    def test_what_would_be_when_hours_can_no_longer_go_by(self):
        line = [SHIP] + [("hours", 500)] * 20 + [("persons", 10, 15)]
        check_taken(self, line, ("flows",), [0, 0, 0, 150])

    def test_the_largest_numbers(self):
        line = [("start",) + (MOST,) * 6, ("leg", 25, 0, 0), ("leg", 1, 12, 6), ("persons", 5000, 80), ("set", 1, 1, 1),
                ("hours", 25)]
        check_taken(self, line, ("flows",), [MOST, 9000000, 1000000, 400000])


if __name__ == "__main__":
    unittest.main()
