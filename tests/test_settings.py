"""Point 2: ww_leg, ww_persons, ww_set."""

import unittest

from helper import BIGGEST, SHIP, check_refused, check_taken, last, run


class Legs(unittest.TestCase):
    def test_each_leg_tells_where_it_ends(self):
        self.assertEqual(run([SHIP, ("leg", 3, 0, 0), ("leg", 500, 4, 6), ("leg", 1, 1000, 40)])[1:],
                         [[3], [503], [504]])

    def test_numbers_just_within(self):
        for call, end in ((("leg", 1, 0, 0), 1), (("leg", 500, 0, 0), 500), (("leg", 7, 1000, 0), 7),
                          (("leg", 7, 0, 40), 7), (("leg", 500, 1000, 40), 500)):
            check_taken(self, [SHIP], call, [end])

    def test_numbers_beyond(self):
        before = [SHIP, ("leg", 6, 12, 6), ("persons", 2, 2)]
        for call in (("leg", 0, 0, 0), ("leg", 501, 0, 0), ("leg", 7, 1001, 0), ("leg", 7, 0, 41),
                     ("leg", BIGGEST, 0, 0), ("leg", 7, BIGGEST, 0), ("leg", 7, 0, BIGGEST),
                     ("leg", BIGGEST, BIGGEST, BIGGEST)):
            check_refused(self, before, call, -22)

    def test_at_most_10(self):
        ten = [SHIP] + [("leg", 500, 12, 6)] * 10
        self.assertEqual(run(ten)[1:], [[500 * k] for k in range(1, 11)])
        check_refused(self, ten, ("leg", 1, 0, 0), -28)
        check_taken(self, ten[:-1], ("leg", 1, 0, 0), [4501])

    def test_not_behind_the_last_end(self):
        before = [SHIP, ("leg", 3, 12, 6), ("leg", 2, 5, 6)]
        check_taken(self, before + [("hours", 4)], ("leg", 4, 7, 8), [9])
        at_end = before + [("hours", 5)]
        check_taken(self, at_end, ("leg", 4, 7, 8), [9])
        self.assertEqual(last(at_end + [("leg", 4, 7, 8), ("may",)]), [2, 7, 8])
        check_refused(self, before + [("hours", 6)], ("leg", 4, 7, 8), -16)
        check_refused(self, before + [("hours", 500)], ("leg", 500, 0, 0), -16)

    def test_without_legs_the_way_ends_at_hour_0(self):
        check_taken(self, [SHIP], ("leg", 4, 7, 8), [4])
        check_refused(self, [SHIP, ("hours", 1)], ("leg", 4, 7, 8), -16)

    def test_which_refusal_is_told_first(self):
        ten = [SHIP] + [("leg", 1, 12, 6)] * 10
        check_refused(self, ten, ("leg", 0, 0, 0), -22)
        check_refused(self, ten, ("leg", 1, 1001, 0), -22)
        check_refused(self, ten, ("leg", 1, 0, 41), -22)
        late = ten + [("hours", 11)]
        check_refused(self, late, ("leg", 1, 0, 0), -28)
        check_refused(self, late, ("leg", 501, 0, 0), -22)
        check_refused(self, [SHIP, ("leg", 1, 0, 0), ("hours", 2)], ("leg", 501, 0, 0), -22)


class Persons(unittest.TestCase):
    def test_what_is_wanted_and_what_was_before(self):
        self.assertEqual(run([SHIP, ("persons", 10, 15), ("persons", 3, 7), ("persons", 0, 80), ("persons", 5, 0)])[1:],
                         [[150, 0, 0], [21, 10, 15], [0, 3, 7], [0, 0, 80]])

    def test_numbers_just_within(self):
        check_taken(self, [SHIP], ("persons", 5000, 80), [400000, 0, 0])
        check_taken(self, [SHIP], ("persons", 5000, 0), [0, 0, 0])
        check_taken(self, [SHIP], ("persons", 0, 80), [0, 0, 0])

    def test_numbers_beyond(self):
        before = [SHIP, ("persons", 4, 9)]
        for call in (("persons", 5001, 0), ("persons", 0, 81), ("persons", BIGGEST, 1), ("persons", 1, BIGGEST),
                     ("persons", BIGGEST, BIGGEST)):
            check_refused(self, before, call, -22)

    def test_the_same_again_is_taken(self):
        check_taken(self, [SHIP, ("persons", 4, 9)], ("persons", 4, 9), [36, 4, 9])

    def test_from_now_on(self):
        line = [SHIP, ("hours", 1), ("persons", 10, 1), ("hours", 2), ("persons", 1, 1), ("hours", 1)]
        self.assertEqual(last(line), [4, 0, 979, 18, 3])


class Switches(unittest.TestCase):
    def test_what_they_were(self):
        settings = [(1, 0, 0), (0, 1, 0), (0, 0, 1), (1, 1, 0), (1, 0, 1), (0, 1, 1), (1, 1, 1), (0, 0, 0)]
        told = run([SHIP] + [("set",) + each for each in settings])
        self.assertEqual(told[1:], [[0], [1], [2], [4], [3], [5], [6], [7]])

    def test_numbers_beyond(self):
        before = [SHIP, ("leg", 9, 12, 6), ("persons", 9, 9), ("set", 1, 0, 1)]
        for number in (2, BIGGEST):
            for call in (("set", number, 0, 0), ("set", 0, number, 0), ("set", 0, 0, number)):
                check_refused(self, before, call, -22)
        # Told as one number these would be alike: 3 is neither on nor off all the same.
        check_refused(self, [SHIP, ("set", 1, 1, 0)], ("set", 3, 0, 0), -22)

    def test_all_three_are_so(self):
        for making in (0, 1):
            for grey in (0, 1):
                for black in (0, 1):
                    # First another setting, so that all three off is reached by a call too.
                    before = [SHIP, ("leg", 9, 12, 6), ("set", 1, 1, 1)]
                    if (making, grey, black) != (1, 1, 1):
                        before.append(("set", making, grey, black))
                    check_refused(self, before, ("set", making, grey, black), -17)

    def test_one_other_is_enough(self):
        before = [SHIP, ("set", 1, 1, 1)]
        for call in (("set", 0, 1, 1), ("set", 1, 0, 1), ("set", 1, 1, 0)):
            check_taken(self, before, call, [7])


if __name__ == "__main__":
    unittest.main()
