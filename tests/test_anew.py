"""Promise 4: anew."""

import unittest

from lines import all_told, anew, ask, ask_behind, begin, book, cancel, free, row, state, who

# Booking 3 changes once: it sits on seat 0 on parts 0 and 1, on seat 1 on part 2.
CHANGED_ONCE = [begin(4, 2), book(2, 3), book(0, 2), book(0, 2), cancel(1), book(0, 3)]
# Booking 6 changes on every part: it sits on the seats 0, 1, 0, 1.
CHANGED_OFTEN = [begin(5, 2), book(0, 1), book(0, 1), book(1, 2), book(2, 3), book(2, 3), book(3, 4),
                 cancel(0), cancel(3), book(0, 4)]


class Anew(unittest.TestCase):
    def test_nobody_booked(self):
        self.assertEqual(ask(begin(2, 1), anew(), state()), [[0], [0], [0, 0, 0]])
        self.assertEqual(ask(begin(17, 12), anew(), anew(), book(0, 16))[1:], [[0], [0], [0, 0]])

    def test_all_cancelled(self):
        before = [begin(4, 2), book(0, 3), book(1, 2), cancel(0), cancel(1)]
        self.assertEqual(ask_behind(before, anew(), state(), free(0, 3), row(0), row(1), book(0, 3), row(2)),
                         [[0], [0, 2, 0], [2, 0, 1], [-2], [-2], [2, 0], [3, 0, 0, 0, 0]])

    def test_nobody_changed_before(self):
        before = [begin(4, 3), book(1, 3), book(0, 3), book(0, 1)]
        self.assertEqual(ask_behind(before, row(0), row(1), row(2)), [[2, 1, 0, 0], [3, 0, 1, 1, 1], [1, 0, 0]])
        got = ask_behind(before, anew(), row(0), row(1), row(2))
        # By their beginnings: 1 and 2 from stop 0, then 0 where 2 gets out.
        self.assertEqual(got, [[0], [2, 1, 1, 1], [3, 0, 0, 0, 0], [1, 0, 1]])

    def test_one_changed_before(self):
        self.assertEqual(ask_behind(CHANGED_ONCE, row(3), row(2), row(0), state()),
                         [[3, 0, 0, 0, 1], [2, 0, 1, 1], [1, 2, 0], [3, 4, 1]])
        got = ask_behind(CHANGED_ONCE, anew(), row(3), row(2), row(0), state())
        self.assertEqual(got, [[1], [3, 0, 1, 1, 1], [2, 0, 0, 0], [1, 2, 0], [3, 4, 0]])

    def test_one_changed_on_every_part(self):
        self.assertEqual(ask_behind(CHANGED_OFTEN, row(6), state()), [[4, 0, 0, 1, 0, 1], [5, 7, 3]])
        got = ask_behind(CHANGED_OFTEN, anew(), row(6), row(1), row(2), row(4), row(5), state())
        self.assertEqual(got, [[3], [4, 0, 1, 1, 1, 1], [1, 0, 0], [1, 1, 0], [1, 2, 0], [1, 3, 0], [5, 7, 0]])

    def test_changes_of_several_are_added(self):
        # Free: on part 0 the seats 0 and 1, on part 1 the seats 2 and 3.
        before = [begin(3, 4)] + [book(0, 1)] * 4 + [book(1, 2)] * 4 + [cancel(k) for k in (0, 1, 6, 7)]
        before += [book(0, 2), book(0, 2)]
        self.assertEqual(ask_behind(before, row(8), row(9), state()), [[2, 0, 0, 2], [2, 0, 1, 3], [6, 10, 2]])
        got = ask_behind(before, anew(), state(), row(8), row(9), row(2), row(3), row(4), row(5))
        self.assertEqual(got, [[2], [6, 10, 0], [2, 0, 2, 2], [2, 0, 3, 3], [1, 0, 0], [1, 0, 1], [1, 1, 0], [1, 1, 1]])

    def test_changes_of_cancelled_ones_do_not_count(self):
        self.assertEqual(ask_behind(CHANGED_ONCE, cancel(3), anew()), [[2], [0]])
        self.assertEqual(ask_behind(CHANGED_OFTEN, cancel(1), anew()), [[4], [3]])

    def test_second_time_nobody_changed(self):
        for before, changes in ((CHANGED_ONCE, 1), (CHANGED_OFTEN, 3)):
            got = ask_behind(before, anew(), *all_told(5, 2), anew(), *all_told(5, 2))
            half = len(got) // 2
            self.assertEqual([got[0], got[half]], [[changes], [0]])
            self.assertEqual(got[1:half], got[half + 1:])

    def test_cancelled_ones_between(self):
        # The cancelled ones would have been seated first.
        before = [begin(4, 4), book(0, 3), book(0, 3), book(0, 2), book(1, 3), cancel(0), cancel(2)]
        self.assertEqual(ask_behind(before, row(1), row(3)), [[3, 0, 1, 1, 1], [2, 1, 3, 3]])
        got = ask_behind(before, anew(), row(0), row(1), row(2), row(3), state(), free(0, 3))
        self.assertEqual(got, [[0], [-2], [3, 0, 0, 0, 0], [-2], [2, 1, 1, 1], [2, 4, 0], [2, 2, 3]])

    def test_of_like_beginnings_the_lesser_number_first(self):
        # The shorter way is neither drawn ahead nor put behind.
        before = [begin(5, 3), book(1, 4), book(1, 2), book(1, 3), cancel(0), book(1, 4), cancel(1), book(1, 2)]
        got = ask_behind(before, row(2), row(3), row(4), anew(), row(2), row(3), row(4))
        self.assertEqual(got, [[2, 1, 2, 2], [3, 1, 0, 0, 0], [1, 1, 1],
                               [0], [2, 1, 0, 0], [3, 1, 1, 1, 1], [1, 1, 2]])

    def test_beginnings_go_ahead_of_numbers(self):
        before = [begin(5, 2), book(3, 4), book(2, 4), book(1, 2), book(0, 1), book(0, 3)]
        got = ask_behind(before, anew(), *[row(k) for k in range(5)])
        self.assertEqual(got, [[1], [1, 3, 1], [2, 2, 0, 0], [1, 1, 0], [1, 0, 0], [3, 0, 1, 1, 1]])

    def test_one_gets_in_where_another_gets_out(self):
        before = [begin(4, 3), book(1, 3), book(0, 2), cancel(0), book(2, 3), book(0, 3), cancel(1), book(0, 2)]
        self.assertEqual(ask_behind(before, row(2), row(3), row(4)), [[1, 2, 0], [3, 0, 2, 2, 2], [2, 0, 0, 0]])
        got = ask_behind(before, anew(), row(2), row(3), row(4), who(1, 1), who(1, 2))
        self.assertEqual(got, [[0], [1, 2, 1], [3, 0, 0, 0, 0], [2, 0, 1, 1], [4], [2]])

    def test_full_train(self):
        before = [begin(3, 12)] + [book(1, 2)] * 12 + [book(0, 1)] * 12
        got = ask_behind(before, anew(), *[row(k) for k in range(24)], free(0, 1), free(1, 2), book(0, 2))
        self.assertEqual(got[0], [0])
        self.assertEqual(got[1:25], [[1, 1, k] for k in range(12)] + [[1, 0, k] for k in range(12)])
        self.assertEqual(got[25:], [[0], [0], [-1000]])

    def test_forty_bookings(self):
        before = [begin(17, 3)] + [book(k % 13, k % 13 + 1) for k in range(39)] + [book(13, 16)]
        got = ask_behind(before, anew(), state(), book(14, 15), row(39), who(0, 15), who(1, 12))
        self.assertEqual(got, [[0], [40, 40, 0], [-12], [3, 13, 0, 0, 0], [39], [25]])

    def test_as_book_seats_all_at_once(self):
        for before in (CHANGED_ONCE, CHANGED_OFTEN):
            stops = before[0][1]
            last = ask_behind(before, state())[0][1] - 1
            for from_stop in range(stops - 1):
                booked = [cancel(last), book(from_stop, stops - 1, 1)]
                booked_then_anew = [cancel(last), book(from_stop, stops - 1, 0), anew()]
                self.assertEqual(ask_behind(before, *booked, *all_told(stops, 2))[2:],
                                 ask_behind(before, *booked_then_anew, *all_told(stops, 2))[3:], from_stop)


if __name__ == "__main__":
    unittest.main()
