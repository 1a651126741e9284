"""Point 3: ww_bunker, ww_ashore, ww_hours."""

import unittest

from helper import BIGGEST, MOST, SHIP, check_refused, check_taken, last, run

# In port with 700 fresh, 270 grey and 30 black.
USED = [SHIP, ("persons", 10, 15), ("hours", 2), ("persons", 0, 0)]

# 400,000 are used each hour and, from the second on, made: just 1,000,000,000 when hour 2,501 comes.
THIRSTY = [("start", MOST, MOST, MOST, MOST, MOST, MOST)] + [("leg", 500, 12, 6)] * 5
THIRSTY += [("persons", 5000, 80), ("set", 1, 1, 1)]


class Bunker(unittest.TestCase):
    def test_there_is_more(self):
        check_taken(self, USED, ("bunker", 1), [701])
        self.assertEqual(run(USED + [("bunker", 100), ("bunker", 50), ("room",)])[-3:], [[800], [850], [150, 230, 30]])

    def test_none_at_all(self):
        check_refused(self, USED, ("bunker", 0), -22)

    def test_just_as_much_as_there_is_room_for(self):
        check_taken(self, USED, ("bunker", 300), [1000])
        check_refused(self, USED, ("bunker", 301), -62)
        check_refused(self, USED, ("bunker", BIGGEST), -62)
        check_refused(self, [SHIP], ("bunker", 1), -62)

    def test_only_in_port(self):
        for miles in (1, 4, 12, 1000):
            check_refused(self, [SHIP, ("leg", 5, 0, 0), ("leg", 5, miles, 0), ("persons", 1, 9), ("hours", 5)],
                          ("bunker", 1), -16)
        # In port is where it's 0 miles off, however fast.
        check_taken(self, [SHIP, ("leg", 5, 0, 40), ("persons", 1, 9), ("hours", 1)], ("bunker", 1), [992])

    def test_at_a_legs_end(self):
        before = [SHIP, ("leg", 2, 0, 0), ("leg", 3, 1, 1), ("persons", 1, 10)]
        check_taken(self, before + [("hours", 1)], ("bunker", 10), [1000])
        check_refused(self, before + [("hours", 2)], ("bunker", 10), -16)
        check_refused(self, before + [("hours", 4)], ("bunker", 10), -16)
        check_taken(self, before + [("hours", 5)], ("bunker", 10), [960])

    def test_which_refusal_is_told_first(self):
        at_sea = [SHIP, ("leg", 5, 12, 6)]
        check_refused(self, at_sea, ("bunker", 0), -22)
        check_refused(self, at_sea, ("bunker", 1), -16)
        check_refused(self, at_sea, ("bunker", BIGGEST), -16)

    def test_at_most_1000000000_ever_made_or_taken_in(self):
        # 999,600,000 are made in 2,500 hours; then it's in port with room for 400,000.
        before = THIRSTY + [("hours", 500)] * 5
        check_taken(self, before, ("bunker", 400000), [MOST])
        full = before + [("bunker", 399999)]
        check_taken(self, full, ("bunker", 1), [MOST])
        full += [("ashore", 360000, 40000), ("hours", 1)]
        check_taken(self, full, ("bunker", 1), [MOST - 400000])
        check_refused(self, full, ("bunker", 2), -28)
        check_refused(self, full, ("bunker", 400001), -28)
        check_refused(self, full, ("bunker", 400002), -62)
        check_refused(self, full, ("bunker", BIGGEST), -62)
        check_refused(self, full, ("bunker", 0), -22)

    def test_at_sea_is_told_ahead_of_too_much(self):
        before = THIRSTY + [("leg", 1, 12, 6), ("leg", 1, 1, 0)] + [("hours", 500)] * 5 + [("hours", 1)]
        check_refused(self, before, ("bunker", 1), -16)
        check_refused(self, before + [("hours", 1)], ("bunker", 1), -28)

    def test_what_was_there_at_first_does_not_count(self):
        line = [("start", MOST, 1, MOST, 1, MOST, 1), ("persons", 5000, 80)]
        for k in range(100):
            line += [("hours", 25), ("ashore", 9000000, 1000000), ("bunker", MOST)]
        self.assertEqual(last(line), [MOST])
        check_refused(self, line + [("hours", 1)], ("bunker", 1), -28)


class Ashore(unittest.TestCase):
    def test_so_much_of_both(self):
        self.assertEqual(run(USED + [("ashore", 100, 10), ("ashore", 1, 0), ("ashore", 0, 1), ("room",)])[-4:],
                         [[170, 20], [169, 20], [169, 19], [300, 331, 41]])

    def test_none_at_all(self):
        check_refused(self, USED, ("ashore", 0, 0), -22)

    def test_just_as_much_as_there_is(self):
        check_taken(self, USED, ("ashore", 270, 30), [0, 0])
        check_taken(self, USED, ("ashore", 270, 0), [0, 30])
        check_taken(self, USED, ("ashore", 0, 30), [270, 0])
        for call in (("ashore", 271, 0), ("ashore", 0, 31), ("ashore", 271, 30), ("ashore", 270, 31),
                     ("ashore", BIGGEST, 0), ("ashore", 0, BIGGEST), ("ashore", BIGGEST, BIGGEST)):
            check_refused(self, USED, call, -12)

    def test_only_in_port(self):
        for miles in (1, 12):
            check_refused(self, [SHIP, ("leg", 5, miles, 0), ("persons", 9, 9), ("hours", 1)], ("ashore", 1, 1), -16)
        check_taken(self, [SHIP, ("leg", 5, 0, 40), ("persons", 10, 1), ("hours", 1)], ("ashore", 1, 1), [8, 0])

    def test_at_a_legs_end(self):
        before = [SHIP, ("leg", 2, 0, 0), ("leg", 3, 1, 1), ("persons", 1, 10)]
        check_taken(self, before + [("hours", 1)], ("ashore", 9, 1), [0, 0])
        check_refused(self, before + [("hours", 2)], ("ashore", 9, 1), -16)
        check_refused(self, before + [("hours", 4)], ("ashore", 9, 1), -16)
        check_taken(self, before + [("hours", 5)], ("ashore", 9, 1), [36, 4])

    def test_which_refusal_is_told_first(self):
        at_sea = [SHIP, ("leg", 5, 12, 6)]
        check_refused(self, at_sea, ("ashore", 0, 0), -22)
        check_refused(self, at_sea, ("ashore", 1, 0), -16)
        check_refused(self, at_sea, ("ashore", BIGGEST, BIGGEST), -16)

    def test_it_makes_room(self):
        line = [("start", 100, 1, 9, 1, 1, 1), ("persons", 10, 1), ("hours", 1)]
        self.assertEqual(last(line + [("hours", 1)]), [2, 10, 90, 9, 1])
        self.assertEqual(last(line + [("ashore", 9, 1), ("hours", 1)]), [2, 0, 80, 9, 1])


class Hours(unittest.TestCase):
    def test_numbers_just_within_and_just_beyond(self):
        check_taken(self, [SHIP], ("hours", 1), [1, 0, 1000, 0, 0])
        check_taken(self, [SHIP], ("hours", 500), [500, 0, 1000, 0, 0])
        for n in (0, 501, 10001, BIGGEST):
            check_refused(self, USED, ("hours", n), -22)

    def test_what_lacks_is_told_for_these_hours_alone(self):
        line = [("start", 25, 1, 90, 1, 90, 1), ("persons", 10, 1)]
        self.assertEqual(run(line + [("hours", 3), ("hours", 1), ("hours", 2)])[2:],
                         [[3, 5, 0, 22, 3], [4, 10, 0, 22, 3], [6, 20, 0, 22, 3]])

    def test_not_later_than_hour_10000(self):
        before = [SHIP, ("persons", 1, 1)] + [("hours", 500)] * 19
        # The black tank is full behind hour 59: from then on all that's wanted lacks.
        check_taken(self, before, ("hours", 500), [10000, 500, 940, 0, 60])
        check_refused(self, before + [("hours", 1)], ("hours", 500), -75)
        at_end = before + [("hours", 500)]
        self.assertEqual(last(at_end)[0], 10000)
        check_refused(self, at_end, ("hours", 1), -75)
        check_refused(self, at_end, ("hours", 500), -75)
        check_refused(self, before + [("hours", 499)], ("hours", 2), -75)
        self.assertEqual(last(before + [("hours", 499), ("hours", 1)])[0], 10000)

    def test_a_wrong_number_is_told_ahead_of_too_late(self):
        at_end = [SHIP] + [("hours", 500)] * 20
        for n in (0, 501, BIGGEST):
            check_refused(self, at_end, ("hours", n), -22)

    def test_at_most_1000000000_ever_made_or_taken_in(self):
        before = THIRSTY + [("leg", 500, 12, 6)] + [("hours", 500)] * 4 + [("hours", 499)]
        check_taken(self, before, ("hours", 2), [2501, 0, MOST - 400000, 360000, 40000])
        check_refused(self, before, ("hours", 3), -28)
        check_refused(self, before, ("hours", 500), -28)
        check_refused(self, before + [("hours", 2)], ("hours", 1), -28)
        check_refused(self, before + [("hours", 2)], ("hours", 501), -22)
        # With making off the hours can go by.
        check_taken(self, before + [("hours", 2), ("set", 0, 1, 1)], ("hours", 1),
                    [2502, 0, MOST - 800000, 360000, 40000])

    def test_what_was_taken_in_counts_for_hours_too(self):
        line = [("start", MOST, 400000, MOST, MOST, MOST, MOST)] + [("leg", 500, 0, 0)] * 5
        line += [("leg", 1, 0, 0), ("leg", 9, 12, 6), ("persons", 5000, 80), ("set", 1, 1, 1)]
        for k in range(99):
            line += [("hours", 25), ("ashore", 9000000, 1000000), ("bunker", MOST)]
        # 990,000,000 so far, and 9,600,000 more; behind one hour in port, each at sea makes 400,000.
        line += [("hours", 25), ("bunker", 9600000)]
        self.assertEqual(last(line), [9600000])
        check_taken(self, line, ("hours", 2), [2502, 0, 9200000, 360000, 40000])
        check_refused(self, line, ("hours", 3), -28)


if __name__ == "__main__":
    unittest.main()
