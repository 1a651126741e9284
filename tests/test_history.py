"""Points 1 and 7: ww_sums, ww_back, ww_again, ww_state, and what a change is."""

import unittest

from helper import ASKS, BIGGEST, MOST, PROBE, SHIP, VOYAGE, behind_hours, check_refused, check_taken, last, run

# In port, with water in each tank and room in each, and another leg still possible.
PORT = [SHIP, ("leg", 9, 0, 0), ("persons", 10, 15), ("set", 1, 0, 1), ("hours", 2)]
# One of each kind of change, each possible in port and each to be seen.
CHANGES = [("leg", 5, 12, 6), ("persons", 3, 7), ("set", 0, 1, 0), ("bunker", 7), ("ashore", 11, 2), ("hours", 3)]
REFUSED = [("leg", 0, 0, 0), ("persons", 5001, 0), ("set", 2, 0, 0), ("set", 1, 0, 1), ("bunker", 0), ("bunker", 301),
           ("ashore", 0, 0), ("ashore", 271, 0), ("hours", 0), ("hours", 501), ("start", 0, 1, 1, 1, 1, 1),
           ("ahead", 0), ("where", 10001), ("look", 1), ("full", 0), ("full", 101), ("next_go",)]
ONLY_ASK = [("lasts",), ("next_go",), ("may",), ("ahead", 9), ("room",), ("wants",), ("where", 3), ("look", 0),
            ("end",), ("full", 100), ("tanks",), ("flows",), ("sums",), ("state",)]


def stands(line):
    """Every number that stands behind a line, but for how many changes there are."""
    told = run(line + ASKS)[len(line):]
    state = ASKS.index(("state",))
    return told[:state] + [told[state][:5]] + told[state + 1:]


def counts(line):
    """How many changes can be taken back, and be done again, behind a line."""
    return last(line + [("state",)])[5:]


class Sums(unittest.TestCase):
    # Made or taken in; used, grey and black let go, given ashore, lacked, behind each hour of the voyage.
    SUMS = [
        [0, 0, 0, 0, 0, 0], [0, 150, 0, 0, 0, 0], [0, 300, 0, 0, 0, 0], [0, 450, 0, 0, 0, 0], [0, 600, 200, 0, 0, 0],
        [0, 600, 400, 0, 0, 150], [0, 600, 540, 0, 0, 300], [0, 600, 540, 0, 0, 450], [100, 750, 540, 30, 0, 450],
        [200, 900, 540, 60, 0, 450], [300, 1050, 540, 90, 0, 450], [400, 1156, 540, 105, 0, 494],
        [500, 1157, 540, 116, 0, 643], [600, 1307, 740, 117, 0, 643], [700, 1457, 940, 132, 0, 643],
        [700, 1602, 940, 132, 0, 648], [700, 1603, 940, 132, 0, 797],
    ]

    def test_along_the_voyage(self):
        for n, sums in enumerate(self.SUMS):
            check_taken(self, behind_hours(VOYAGE, n), ("sums",), sums)

    def test_hour_by_hour(self):
        told = run(VOYAGE + [("hours", 1), ("sums",)] * 16)[len(VOYAGE) + 1::2]
        self.assertEqual(told, self.SUMS[1:])

    def test_taken_in_and_given_ashore(self):
        line = VOYAGE + [("hours", 16), ("bunker", 3), ("sums",), ("ashore", 500, 1), ("sums",), ("ashore", 0, 30),
                         ("bunker", 900), ("sums",)]
        told = run(line)
        self.assertEqual(told[-6], [703, 1603, 940, 132, 0, 797])
        self.assertEqual(told[-4], [703, 1603, 940, 132, 501, 797])
        self.assertEqual(told[-1], [1603, 1603, 940, 132, 531, 797])

    def test_refused_calls_add_nothing(self):
        line = PORT + [("bunker", 301), ("ashore", 271, 0), ("ashore", 0, 31), ("hours", 501)]
        check_taken(self, line, ("sums",), [0, 300, 0, 0, 0, 0])

    def test_hours_refused_for_what_would_be_made_add_nothing(self):
        line = [("start",) + (MOST,) * 6] + [("leg", 500, 12, 6)] * 6 + [("persons", 5000, 80), ("set", 1, 1, 1)]
        line += [("hours", 500)] * 5 + [("hours", 1)]
        sums = [1000000000, 2501 * 400000, 2500 * 360000, 2500 * 40000, 0, 0]
        self.assertEqual(run(line + [("sums",), ("hours", 1), ("sums",)])[-3:], [sums, [-28], sums])
        self.assertEqual(last(line + [("hours", 1), ("state",)])[0], 2501)

    def test_another_start_forgets_them(self):
        check_taken(self, VOYAGE + [("hours", 16), SHIP], ("sums",), [0, 0, 0, 0, 0, 0])

    def test_the_most_that_can_lack(self):
        line = [("start", 1, 1, 1, 1, 1, 1), ("persons", 5000, 80)] + [("hours", 500)] * 20
        # One litre is used: all of it becomes black.
        check_taken(self, line, ("sums",), [0, 1, 0, 0, 0, 3999999999])


class State(unittest.TestCase):
    def test_each_number(self):
        check_taken(self, [SHIP], ("state",), [0, 0, 0, 0, 0, 0, 0])
        check_taken(self, VOYAGE, ("state",), [0, 4, 10, 15, 7, 6, 0])
        check_taken(self, VOYAGE + [("hours", 9), ("hours", 2)], ("state",), [11, 4, 10, 15, 7, 8, 0])
        check_taken(self, VOYAGE + [("back",)], ("state",), [0, 4, 10, 15, 0, 5, 1])
        check_taken(self, VOYAGE + [("back",)] * 3, ("state",), [0, 3, 0, 0, 0, 3, 3])
        check_taken(self, VOYAGE + [("back",)] * 3 + [("again",)], ("state",), [0, 4, 0, 0, 0, 4, 2])

    def test_what_is_set(self):
        for making in (0, 1):
            for grey in (0, 1):
                for black in (0, 1):
                    line = [SHIP, ("set", 1, 1, 1), ("set", making, grey, black)]
                    self.assertEqual(last(line + [("state",)])[4], making + 2 * grey + 4 * black)

    def test_numbers_at_their_limits(self):
        line = [SHIP] + [("leg", 500, 1000, 40)] * 10 + [("persons", 5000, 80)] + [("hours", 500)] * 20
        check_taken(self, line, ("state",), [10000, 10, 5000, 80, 0, 30, 0])
        check_taken(self, line + [("back",)] * 30, ("state",), [0, 1, 0, 0, 0, 0, 30])


class Back(unittest.TestCase):
    def test_each_change(self):
        for call in CHANGES:
            with self.subTest(call=call):
                self.assertGreaterEqual(last(PORT + [call])[0], 0)
                self.assertNotEqual(stands(PORT + [call]), stands(PORT))
                check_taken(self, PORT + [call], ("back",), [4])
                self.assertEqual(stands(PORT + [call, ("back",)]), stands(PORT))
                self.assertEqual(counts(PORT + [call, ("back",)]), [4, 1])

    def test_one_behind_another_and_again(self):
        behind = [stands(PORT + CHANGES[:k]) for k in range(7)]
        for k in range(7):
            line = PORT + CHANGES + [("back",)] * k
            self.assertEqual(stands(line), behind[6 - k])
            self.assertEqual(counts(line), [10 - k, k])
            for j in range(k + 1):
                self.assertEqual(stands(line + [("again",)] * j), behind[6 - k + j])
                self.assertEqual(counts(line + [("again",)] * j), [10 - k + j, k - j])

    def test_how_many_can_still_be(self):
        told = run(PORT + CHANGES + [("back",)] * 11)[-11:]
        self.assertEqual(told, [[9], [8], [7], [6], [5], [4], [3], [2], [1], [0], [-2]])

    def test_numbers_reckoned_by_hand(self):
        line = VOYAGE + [("hours", 8), ("hours", 4), ("back",)]
        self.assertEqual(run(line + [("tanks",), ("sums",), ("state",)])[-4:],
                         [[7], [350, 1000, 135, 500, 45, 60], [100, 750, 540, 30, 0, 450], [8, 4, 10, 15, 7, 7, 1]])
        self.assertEqual(run(line + [("again",), ("tanks",), ("sums",), ("state",)])[-4:],
                         [[0], [343, 1000, 500, 500, 1, 60], [500, 1157, 540, 116, 0, 643], [12, 4, 10, 15, 7, 8, 0]])
        # From there on the hours go as if nothing had been taken back.
        self.assertEqual(last(line + [("hours", 1)]), [9, 0, 300, 270, 30])
        self.assertEqual(last(line + [("again",), ("hours", 1)]), [13, 0, 293, 435, 15])

    def test_a_change_to_what_already_is_counts(self):
        self.assertEqual(counts(PORT + [("persons", 10, 15)]), [5, 0])
        self.assertEqual(last(PORT + [("persons", 10, 15), ("back",), ("state",)]), [2, 1, 10, 15, 5, 4, 1])

    def test_no_change_to_take_back(self):
        check_refused(self, [SHIP], ("back",), -2)
        check_refused(self, [SHIP, ("hours", 5), ("back",)], ("back",), -2)
        check_taken(self, [SHIP, ("hours", 5)], ("back",), [0])
        check_refused(self, PORT + CHANGES + [("back",)] * 10, ("back",), -2)

    def test_a_leg_that_was_taken_back_can_come_otherwise(self):
        line = VOYAGE[:5] + [("back",), ("leg", 6, 7, 8)]
        self.assertEqual(run(line + [("look", 3), ("end",), ("where", 12), ("look", 4)])[-5:],
                         [[18], [6, 7, 8], [18, 18], [7, 8, 0, 1, 0], [-2]])

    def test_what_was_ever_taken_in_is_taken_back_too(self):
        line = [("start",) + (MOST,) * 6] + [("leg", 500, 12, 6)] * 6 + [("persons", 5000, 80), ("set", 1, 1, 1)]
        line += [("hours", 500)] * 5 + [("hours", 1)]
        check_refused(self, line, ("hours", 1), -28)
        self.assertEqual(last(line + [("back",), ("hours", 1)])[0], 2501)
        check_refused(self, line + [("back",)], ("hours", 2), -28)

    def test_the_hour_is_taken_back_too(self):
        line = [SHIP] + [("hours", 500)] * 20
        check_refused(self, line, ("hours", 1), -75)
        self.assertEqual(last(line + [("back",), ("hours", 499)])[0], 9999)


class Thirty(unittest.TestCase):
    def hours(self, n):
        return [SHIP, ("persons", 1, 9)] + [("hours", 1)] * (n - 1)

    def test_as_many_as_there_are_up_to_30(self):
        for n, kept in ((1, 1), (2, 2), (29, 29), (30, 30), (31, 30), (32, 30), (60, 30), (61, 30), (100, 30)):
            line = self.hours(n)
            self.assertEqual(counts(line), [kept, 0])
            told = run(line + [("back",)] * (kept + 1))[len(line):]
            self.assertEqual(told, [[kept - k] for k in range(1, kept + 1)] + [[-2]])
            left = self.hours(n - kept) if n > kept else [SHIP]
            self.assertEqual(stands(line + [("back",)] * kept), stands(left))

    def test_refused_when_just_all_are_taken_back(self):
        for n in (30, 31, 45):
            check_refused(self, self.hours(n) + [("back",)] * 30, ("back",), -2)
            check_taken(self, self.hours(n) + [("back",)] * 29, ("back",), [0])

    def test_all_30_can_be_done_again(self):
        for n in (30, 31, 45):
            line = self.hours(n) + [("back",)] * 30
            told = run(line + [("again",)] * 31)[len(line):]
            self.assertEqual(told, [[29 - k] for k in range(30)] + [[-2]])
            self.assertEqual(stands(line + [("again",)] * 30), stands(self.hours(n)))
            self.assertEqual(counts(line + [("again",)] * 30), [30, 0])
            for k in (1, 15, 29):
                self.assertEqual(stands(line + [("again",)] * k), stands(self.hours(n - 30 + k)))

    def test_what_is_beyond_30_does_not_come_back(self):
        # Of 40 the last 30 are left; when 10 of those are taken back there are 20, and one more is the 21st.
        line = self.hours(40) + [("back",)] * 10
        self.assertEqual(counts(line), [20, 10])
        self.assertEqual(counts(line + [("hours", 2)]), [21, 0])
        self.assertEqual(counts(line + [("again",)] * 10 + [("hours", 2)]), [30, 0])
        self.assertEqual(last(line + [("hours", 2)] + [("back",)] * 21 + [("state",)]), [9, 0, 1, 9, 0, 0, 21])

    def test_back_and_again_many_times(self):
        line = self.hours(30)
        for k in range(200):
            line += [("back",), ("back",), ("again",)] if k < 29 else [("again",), ("back",)]
        self.assertEqual(run(line)[-2:], [[28], [1]])
        self.assertEqual(counts(line), [1, 29])
        self.assertEqual(stands(line), stands(self.hours(1)))


class Again(unittest.TestCase):
    def test_none_to_be_done_again(self):
        check_refused(self, [SHIP], ("again",), -2)
        check_refused(self, PORT, ("again",), -2)
        check_refused(self, PORT + [("back",), ("again",)], ("again",), -2)
        check_taken(self, PORT + [("back",)], ("again",), [0])

    def test_the_one_that_was_taken_back_last(self):
        line = PORT + [("persons", 1, 1), ("persons", 2, 2), ("persons", 3, 3), ("back",), ("back",), ("back",)]
        told = run(line + [("again",), ("wants",), ("again",), ("wants",), ("again",), ("wants",)])[len(line):]
        self.assertEqual(told, [[2], [1, 0, 1], [1], [4, 3, 1], [0], [9, 8, 1]])

    def test_a_change_behind_one_that_was_taken_back(self):
        for call in CHANGES:
            line = PORT + [("persons", 1, 1), ("hours", 1), ("back",), ("back",)]
            self.assertEqual(counts(line), [4, 2])
            self.assertEqual(counts(line + [call]), [5, 0])
            check_refused(self, line + [call], ("again",), -2)
            self.assertEqual(stands(line + [call]), stands(PORT + [call]))
            # What that change left behind comes when it's taken back itself, and it can be done again.
            self.assertEqual(stands(line + [call, ("back",)]), stands(PORT))
            self.assertEqual(stands(line + [call, ("back",), ("again",)]), stands(PORT + [call]))

    def test_a_change_to_what_already_is_ends_it_too(self):
        check_refused(self, PORT + [("hours", 1), ("back",), ("persons", 10, 15)], ("again",), -2)
        check_refused(self, PORT + [("hours", 1), ("back",), ("hours", 1)], ("again",), -2)

    def test_a_call_that_is_refused_or_only_asks_in_between(self):
        line = PORT + [("persons", 1, 1), ("hours", 1), ("back",), ("back",)]
        for call in REFUSED:
            with self.subTest(call=call):
                self.assertLess(last(line + [call])[0], 0)
                self.assertEqual(counts(line + [call]), [4, 2])
                self.assertEqual(run(line + [call] + PROBE)[len(line) + 1:], run(line + PROBE)[len(line):])
        for call in ONLY_ASK:
            with self.subTest(call=call):
                self.assertEqual(counts(line + [call]), [4, 2])
                self.assertEqual(run(line + [call] + PROBE)[len(line) + 1:], run(line + PROBE)[len(line):])

    def test_refused_in_the_middle_of_hours_in_between(self):
        # Here the hours are only refused when they have been reckoned through.
        line = [("start",) + (MOST,) * 6] + [("leg", 500, 12, 6)] * 6 + [("persons", 5000, 80), ("set", 1, 1, 1)]
        line += [("hours", 500)] * 5 + [("hours", 1), ("persons", 4999, 80), ("back",)]
        check_refused(self, line, ("hours", 3), -28)
        self.assertEqual(counts(line + [("hours", 3)]), [14, 1])

    def test_a_start_in_between(self):
        line = PORT + [("persons", 1, 1), ("hours", 1), ("back",)]
        self.assertEqual(counts(line), [5, 1])
        for place in range(1, 7):
            for number in (0, MOST + 1, BIGGEST):
                call = list(SHIP)
                call[place] = number
                check_refused(self, line, tuple(call), -22)
                self.assertEqual(counts(line + [tuple(call)]), [5, 1])
        other = ("start", 70, 5, 40, 6, 9, 2)
        for call in (SHIP, other):
            check_refused(self, line + [call], ("back",), -2)
            check_refused(self, line + [call], ("again",), -2)
            check_taken(self, line + [call], ("state",), [0, 0, 0, 0, 0, 0, 0])
            self.assertEqual(run(line + [call] + PROBE)[len(line):], run([call] + PROBE))

    def test_back_and_again_are_no_changes_themselves(self):
        line = PORT + [("back",), ("again",)]
        self.assertEqual(counts(line), [4, 0])
        self.assertEqual(run(line + PROBE)[len(line):], run(PORT + PROBE)[len(PORT):])


if __name__ == "__main__":
    unittest.main()
