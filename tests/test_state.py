"""Promise 6: state."""

import unittest

from lines import LARGEST, anew, ask, ask_behind, begin, book, cancel, free, row, state, who


class State(unittest.TestCase):
    def test_no_bookings(self):
        self.assertEqual(ask(begin(2, 1), state(), begin(17, 12), state()), [[0], [0, 0, 0], [0], [0, 0, 0]])

    def test_bookings(self):
        got = ask(begin(3, 3), book(0, 2), state(), book(0, 1), state(), book(1, 2, 1), state())
        self.assertEqual(got[2::2], [[1, 1, 0], [2, 2, 0], [3, 3, 0]])

    def test_cancelled_ones_are_still_among_all(self):
        before = [begin(3, 3), book(0, 2), book(0, 1), book(1, 2)]
        got = ask_behind(before, cancel(1), state(), cancel(0), state(), cancel(2), state(), book(0, 2), state())
        self.assertEqual(got[1::2], [[2, 3, 0], [1, 3, 0], [0, 3, 0], [1, 4, 0]])

    def test_changes_come_and_go(self):
        # Free: seat 0 on part 0, seat 1 on part 1.
        before = [begin(3, 2), book(0, 1), book(0, 1), cancel(0), book(1, 2)]
        got = ask_behind(before, state(), book(0, 2), state(), cancel(3), state(), book(0, 2), state())
        self.assertEqual(got, [[2, 3, 0], [3, 1], [3, 4, 1], [2], [2, 4, 0], [4, 1], [3, 5, 1]])
        self.assertEqual(ask_behind(before, book(0, 2), anew(), state()), [[3, 1], [1], [3, 4, 0]])

    def test_changes_of_all_are_added(self):
        # Free: on the parts 0 and 2 the seats 0 and 1, on part 1 the seats 2 and 3.
        before = [begin(4, 4)] + [book(0, 1)] * 4 + [book(1, 2)] * 4 + [book(2, 3)] * 4
        before += [cancel(k) for k in (0, 1, 6, 7, 8, 9)]
        got = ask_behind(before, state(), book(0, 3), state(), book(0, 2), state(), book(2, 3), state(), cancel(12),
                         state(), row(13), row(14))
        self.assertEqual(got, [[6, 12, 0], [12, 2], [7, 13, 2], [13, 1], [8, 14, 3], [14, 0], [9, 15, 3], [8],
                               [8, 15, 1], [2, 0, 1, 3], [1, 2, 1]])

    def test_changes_go_where_all_are_seated_at_once(self):
        before = [begin(4, 2), book(0, 1), book(0, 1), cancel(0), book(1, 2), book(0, 2)]
        self.assertEqual(ask_behind(before, state(), book(2, 3, 1), state()), [[3, 4, 1], [4, 0], [4, 5, 0]])
        self.assertEqual(ask_behind(before, state(), book(2, 3, 0), state()), [[3, 4, 1], [4, 0], [4, 5, 1]])

    def test_forty_bookings(self):
        before = [begin(17, 12)] + [book(k % 16, k % 16 + 1) for k in range(40)]
        got = ask_behind(before, state(), book(0, 1), state(), cancel(39), cancel(0), book(0, 1), state())
        self.assertEqual(got, [[40, 40, 0], [-12], [40, 40, 0], [39], [38], [-12], [38, 40, 0]])

    def test_refused_calls_leave_it(self):
        before = [begin(3, 2), book(0, 1), book(0, 1), cancel(0), book(1, 2), book(0, 2)]
        for refused in (begin(1, 1), book(0, 2), book(0, 3), book(1, 1), book(0, 1, 2), cancel(0), cancel(4),
                        cancel(LARGEST), row(0), row(4), free(2, 1), free(0, LARGEST), who(2, 0), who(0, 2),
                        book(0, 1, 1), book(1, 2, 1)):
            got = ask_behind(before, refused, state(), row(3))
            self.assertLess(got[0][0], 0, refused)
            self.assertEqual(got[1:], [[3, 4, 1], [2, 0, 0, 1]], refused)

    def test_telling_leaves_it(self):
        before = [begin(3, 2), book(0, 1), book(0, 1), cancel(0), book(1, 2), book(0, 2)]
        got = ask_behind(before, state(), state(), row(3), free(0, 2), who(0, 0), state())
        self.assertEqual(got, [[3, 4, 1], [3, 4, 1], [2, 0, 0, 1], [0], [3], [3, 4, 1]])


if __name__ == "__main__":
    unittest.main()
