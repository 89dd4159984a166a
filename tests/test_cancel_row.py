"""Promise 3: cancel and row, with their refusals."""

import unittest

from lines import LARGEST, ask, ask_behind, begin, book, cancel, row


class Cancel(unittest.TestCase):
    def test_answers_how_many_are_left(self):
        got = ask(begin(3, 3), book(0, 2), book(0, 1), book(1, 2), cancel(1), cancel(0), cancel(2))
        self.assertEqual(got[4:], [[2], [1], [0]])

    def test_cancelled_and_booked_again(self):
        got = ask(begin(4, 1), book(0, 3), cancel(0), book(0, 3), row(0), row(1), cancel(0), cancel(1), book(1, 2))
        self.assertEqual(got[2:], [[0], [1, 0], [-2], [3, 0, 0, 0, 0], [-2], [0], [2, 0]])

    def test_freed_seat_is_given_again(self):
        got = ask(begin(4, 3), book(0, 3), book(0, 3), book(0, 3), cancel(1), book(1, 2), row(3))
        self.assertEqual(got[4:], [[2], [3, 0], [1, 1, 1]])

    def test_others_stay(self):
        before = [begin(4, 3), book(0, 3), book(0, 3), book(1, 2)]
        got = ask_behind(before, cancel(0), row(1), row(2))
        self.assertEqual(got, [[2], [3, 0, 1, 1, 1], [1, 1, 2]])

    def test_no_such_booking(self):
        got = ask(begin(3, 2), cancel(0), book(0, 2), cancel(1), cancel(2), cancel(39), cancel(LARGEST), cancel(0))
        self.assertEqual(got[1:], [[-2], [0, 0], [-2], [-2], [-2], [-2], [0]])

    def test_cancelled_twice(self):
        got = ask(begin(3, 2), book(0, 2), book(0, 2), cancel(0), cancel(0), cancel(1), cancel(1))
        self.assertEqual(got[3:], [[1], [-2], [0], [-2]])

    def test_refused_ones_change_nothing(self):
        before = [begin(3, 2), book(0, 2), book(0, 1), cancel(0)]
        behind = [row(0), row(1), book(0, 2), row(2), book(0, 1), cancel(1)]
        expected = ask_behind(before, *behind)
        self.assertEqual(expected, [[-2], [1, 0, 1], [2, 0], [2, 0, 0, 0], [-1000], [1]])
        for refused in (cancel(0), cancel(2), cancel(LARGEST), row(0), row(2), row(LARGEST)):
            self.assertEqual(ask_behind(before, refused, *behind), [[-2]] + expected, refused)


class Row(unittest.TestCase):
    def test_parts_then_first_stop_then_seats(self):
        got = ask(begin(17, 12), book(3, 7), book(5, 16), row(0), row(1))
        self.assertEqual(got[3:], [[4, 3, 0, 0, 0, 0], [11, 5] + [1] * 11])

    def test_longest_and_shortest(self):
        got = ask(begin(17, 1), book(0, 16), row(0), begin(2, 1), book(0, 1), row(0))
        self.assertEqual([got[2], got[5]], [[16, 0] + [0] * 16, [1, 0, 0]])

    def test_change_on_the_last_part(self):
        # Seat 0 is free on parts 0 and 1, seat 1 on part 2.
        before = [begin(4, 2), book(2, 3), book(0, 2), book(0, 2), cancel(1)]
        got = ask_behind(before, row(0), row(2), book(0, 3), row(3))
        self.assertEqual(got, [[1, 2, 0], [2, 0, 1, 1], [3, 1], [3, 0, 0, 0, 1]])

    def test_no_such_booking(self):
        got = ask(begin(3, 2), row(0), book(0, 2), row(0), row(1), row(39), row(40), row(LARGEST))
        self.assertEqual(got[1:], [[-2], [0, 0], [2, 0, 0, 0], [-2], [-2], [-2], [-2]])

    def test_cancelled(self):
        got = ask(begin(3, 2), book(0, 2), book(0, 1), cancel(0), row(0), row(1))
        self.assertEqual(got[4:], [[-2], [1, 0, 1]])

    def test_telling_changes_nothing(self):
        got = ask(begin(3, 2), book(0, 2), book(1, 2), row(1), row(1), row(0), row(1))
        self.assertEqual(got[3:], [[1, 1, 1], [1, 1, 1], [2, 0, 0, 0], [1, 1, 1]])


if __name__ == "__main__":
    unittest.main()
