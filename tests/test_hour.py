"""How an hour goes, step by step, with numbers reckoned by hand."""

import unittest

from helper import MOST, VOYAGE, last, run


class AlongSeveralLegs(unittest.TestCase):
    # 150 litres are wanted: 135 would become grey, 15 black.
    LINE = VOYAGE
    # Each: hour behind it, lacked in it, fresh, grey, black.
    HOURS = [
        [1, 0, 850, 135, 15],
        [2, 0, 700, 270, 30],
        [3, 0, 550, 405, 45],
        # From here 200 grey go each hour; the black tank gets just full.
        [4, 0, 400, 340, 60],
        [5, 150, 400, 140, 60],
        [6, 150, 400, 0, 60],
        [7, 150, 400, 0, 60],
        # From here 100 are made and 30 black go each hour, but no grey: it's too slow.
        [8, 0, 350, 135, 45],
        [9, 0, 300, 270, 30],
        [10, 0, 250, 405, 15],
        # There's room for 95 grey: that is what comes of 106.
        [11, 44, 244, 500, 11],
        # With no room for grey, of one litre all becomes black.
        [12, 149, 343, 500, 1],
        # From here all may be.
        [13, 0, 293, 435, 15],
        [14, 0, 243, 370, 15],
        # Behind the last leg, in port: there's room for 130 grey.
        [15, 5, 98, 500, 30],
        [16, 149, 97, 500, 31],
    ]

    def test_hour_by_hour(self):
        told = run(self.LINE + [("hours", 1)] * len(self.HOURS))
        self.assertEqual(told[len(self.LINE):], self.HOURS)

    def test_all_at_once(self):
        lacked = sum(row[1] for row in self.HOURS)
        self.assertEqual(lacked, 797)
        self.assertEqual(last(self.LINE + [("hours", 16)]), [16, 797, 97, 500, 31])

    def test_in_whatever_pieces(self):
        whole = len(self.HOURS)
        for first in range(1, whole):
            for second in range(1, whole - first):
                pieces = [first, second, whole - first - second]
                told = run(self.LINE + [("hours", n) for n in pieces])[len(self.LINE):]
                self.assertEqual(told[-1][2:], self.HOURS[-1][2:])
                self.assertEqual(sum(row[1] for row in told), 797)

    def test_room_on_the_way(self):
        self.assertEqual(last(self.LINE + [("hours", 4), ("room",)]), [600, 160, 0])
        self.assertEqual(last(self.LINE + [("hours", 11), ("room",)]), [756, 0, 49])


class Set(unittest.TestCase):
    def one_hour(self, setting, miles, knots):
        """Fresh, grey, black behind an hour at sea, from 400, 540, 60 on, with nothing wanted."""
        line = [("start", 1000, 100, 1000, 200, 100, 30), ("leg", 6, 0, 0), ("leg", 9, miles, knots),
                ("persons", 10, 10), ("hours", 6), ("persons", 0, 0)]
        if setting != (0, 0, 0):
            line.append(("set",) + setting)
        return last(line + [("hours", 1)])[2:]

    def test_only_what_is_set(self):
        self.assertEqual(self.one_hour((0, 0, 0), 12, 6), [400, 540, 60])
        self.assertEqual(self.one_hour((1, 0, 0), 12, 6), [500, 540, 60])
        self.assertEqual(self.one_hour((0, 1, 0), 12, 6), [400, 340, 60])
        self.assertEqual(self.one_hour((0, 0, 1), 12, 6), [400, 540, 30])
        self.assertEqual(self.one_hour((1, 1, 1), 12, 6), [500, 340, 30])

    def test_only_where_it_may(self):
        for miles, knots, tanks in (
            (0, 0, [400, 540, 60]), (3, 40, [400, 540, 60]), (4, 5, [400, 540, 60]), (4, 6, [400, 340, 60]),
            (11, 40, [400, 340, 60]), (12, 0, [500, 540, 60]), (12, 3, [500, 540, 60]), (12, 4, [500, 540, 30]),
            (12, 5, [500, 540, 30]), (12, 6, [500, 340, 30]), (1000, 40, [500, 340, 30]), (1000, 0, [500, 540, 60]),
            (0, 40, [400, 540, 60]), (11, 5, [400, 540, 60]),
        ):
            with self.subTest(miles=miles, knots=knots):
                self.assertEqual(self.one_hour((1, 1, 1), miles, knots), tanks)


class Amounts(unittest.TestCase):
    def at_sea(self, sizes, used, setting, n):
        """Used for an hour in port, then n hours at sea with nothing wanted."""
        line = [("start",) + sizes, ("leg", 1, 0, 0), ("leg", 9, 12, 6), ("persons", used, 1), ("hours", 1),
                ("persons", 0, 0), ("set",) + setting, ("hours", n)]
        return last(line)[2:]

    def test_as_much_as_may_be_or_all(self):
        for go, grey in ((89, 1), (90, 0), (91, 0)):
            self.assertEqual(self.at_sea((100, 1, 90, go, 10, 1), 100, (0, 1, 0), 1), [0, grey, 10])
        for go, black in ((9, 1), (10, 0), (11, 0)):
            self.assertEqual(self.at_sea((100, 1, 90, 1, 10, go), 100, (0, 0, 1), 1), [0, 90, black])

    def test_as_much_as_is_made_or_there_is_room_for(self):
        for makes, fresh in ((99, 99), (100, 100), (101, 100), (MOST, 100)):
            self.assertEqual(self.at_sea((100, makes, 90, 1, 10, 1), 100, (1, 0, 0), 1), [fresh, 90, 10])
        self.assertEqual(self.at_sea((100, 30, 90, 1, 10, 1), 100, (1, 0, 0), 4), [100, 90, 10])

    def test_nothing_is_made_ahead_of_use_when_the_tank_is_full(self):
        line = [("start", 100, 50, 500, 500, 500, 500), ("leg", 9, 12, 6), ("persons", 30, 1), ("set", 1, 0, 0)]
        self.assertEqual(last(line + [("hours", 1)]), [1, 0, 70, 27, 3])
        self.assertEqual(last(line + [("hours", 2)]), [2, 0, 70, 54, 6])

    def test_what_is_made_can_be_used_in_the_same_hour(self):
        line = [("start", 10, 7, 500, 1, 500, 1), ("leg", 9, 12, 6), ("persons", 10, 1), ("set", 1, 0, 0)]
        self.assertEqual(last(line + [("hours", 1)]), [1, 0, 0, 9, 1])
        self.assertEqual(last(line + [("hours", 2)]), [2, 3, 0, 15, 2])

    def test_what_is_let_go_makes_room_in_the_same_hour(self):
        line = [("start", 100, 1, 9, 9, 1, 1), ("leg", 9, 12, 6), ("persons", 10, 1)]
        self.assertEqual(last(line + [("hours", 3)]), [3, 20, 90, 9, 1])
        self.assertEqual(last(line + [("set", 0, 1, 1), ("hours", 3)]), [3, 0, 70, 9, 1])

    def test_what_comes_of_an_hour_goes_in_the_next_at_the_earliest(self):
        line = [("start", 100, 1, 500, 500, 500, 500), ("leg", 9, 12, 6), ("persons", 10, 1), ("set", 0, 1, 1)]
        self.assertEqual(last(line + [("hours", 1)]), [1, 0, 90, 9, 1])
        self.assertEqual(last(line + [("hours", 5)]), [5, 0, 50, 9, 1])


class NineTenths(unittest.TestCase):
    def test_rounded_down_each_hour(self):
        for used, grey, black in ((1, 0, 1), (2, 1, 1), (3, 2, 1), (9, 8, 1), (10, 9, 1), (11, 9, 2), (12, 10, 2),
                                  (19, 17, 2), (20, 18, 2), (21, 18, 3), (99, 89, 10), (101, 90, 11)):
            line = [("start", 1000, 1, 1000, 1, 1000, 1), ("persons", used, 1)]
            with self.subTest(used=used):
                self.assertEqual(last(line + [("hours", 1)]), [1, 0, 1000 - used, grey, black])
                self.assertEqual(last(line + [("hours", 2)]), [2, 0, 1000 - 2 * used, 2 * grey, 2 * black])

    def test_as_much_as_the_grey_tank_holds(self):
        # Of 12 come 10 grey, of 11 come 9, of 10 come 9, of 9 come 8.
        for holds, used, grey, black in ((1, 2, 1, 1), (8, 9, 8, 1), (9, 11, 9, 2), (10, 12, 10, 2), (18, 21, 18, 3)):
            line = [("start", 1000, 1, holds, 1, 1000, 1), ("persons", 50, 1), ("hours", 1)]
            with self.subTest(holds=holds):
                self.assertEqual(last(line), [1, 50 - used, 1000 - used, grey, black])

    def test_as_much_as_the_black_tank_holds(self):
        for holds, used, grey in ((1, 10, 9), (2, 20, 18), (4, 40, 36), (5, 50, 45), (6, 50, 45)):
            line = [("start", 1000, 1, 1000, 1, holds, 1), ("persons", 50, 1), ("hours", 1)]
            with self.subTest(holds=holds):
                self.assertEqual(last(line), [1, 50 - used, 1000 - used, grey, used - grey])

    def test_a_full_grey_tank_takes_what_comes_of_one_litre(self):
        line = [("start", 1000, 1, 9, 1, 3, 1), ("persons", 10, 1)]
        self.assertEqual(last(line + [("hours", 1)]), [1, 0, 990, 9, 1])
        self.assertEqual(last(line + [("hours", 2)]), [2, 9, 989, 9, 2])
        self.assertEqual(last(line + [("hours", 3)]), [3, 18, 988, 9, 3])
        self.assertEqual(last(line + [("hours", 4)]), [4, 28, 988, 9, 3])

    def test_fresh_water_that_is_just_enough(self):
        for fresh, lacked, left in ((99, 1, 0), (100, 0, 0), (101, 0, 1)):
            line = [("start", fresh, 1, 1000, 1, 1000, 1), ("persons", 10, 5), ("hours", 2)]
            self.assertEqual(last(line)[:3], [2, lacked, left])

    def test_the_largest_numbers(self):
        line = [("start",) + (MOST,) * 6, ("persons", 5000, 80)]
        self.assertEqual(last(line + [("hours", 25)]), [25, 0, 0, 9000000, 1000000])
        self.assertEqual(last(line + [("hours", 500)]), [500, 475 * 400000, 0, 9000000, 1000000])


class AtLegsEnds(unittest.TestCase):
    LINE = [("start", 100, 10, 90, 10, 50, 5), ("leg", 1, 0, 0), ("leg", 2, 12, 6), ("leg", 1, 11, 6),
            ("persons", 20, 5), ("hours", 1), ("persons", 0, 0), ("set", 1, 1, 1)]

    def test_the_last_hour_of_a_leg_is_in_it_and_the_next_is_not(self):
        told = run(self.LINE + [("hours", 1)] * 5)[len(self.LINE):]
        self.assertEqual(told, [[2, 0, 10, 80, 5], [3, 0, 20, 70, 0], [4, 0, 20, 60, 0], [5, 0, 20, 60, 0],
                                [6, 0, 20, 60, 0]])

    def test_a_leg_added_at_the_end_goes_on_from_there(self):
        self.assertEqual(last(self.LINE + [("hours", 3), ("leg", 1, 12, 6), ("hours", 2)]), [6, 0, 30, 50, 0])


if __name__ == "__main__":
    unittest.main()
