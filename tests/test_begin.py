"""Promise 1: begin with its refusal, and -61 of book, anew, free and state where there is no train."""

import unittest

from lines import LARGEST, anew, ask, ask_behind, begin, book, cancel, free, row, state, who


class Begin(unittest.TestCase):
    def test_every_size_in_range_is_begun(self):
        for stops in range(2, 18):
            for seats in range(1, 13):
                self.assertEqual(ask(begin(stops, seats)), [[0]], (stops, seats))

    def test_sizes_out_of_range_are_refused(self):
        for stops in (0, 1, 18, 19, 255, LARGEST):
            for seats in (1, 12):
                self.assertEqual(ask(begin(stops, seats)), [[-22]], (stops, seats))
        for seats in (0, 13, 14, 255, LARGEST):
            for stops in (2, 17):
                self.assertEqual(ask(begin(stops, seats)), [[-22]], (stops, seats))
        self.assertEqual(ask(begin(0, 0), begin(LARGEST, LARGEST)), [[-22], [-22]])

    def test_train_has_as_many_stops_as_told(self):
        for stops in (2, 3, 16, 17):
            got = ask(begin(stops, 1), book(0, stops), book(0, stops - 1))
            self.assertEqual(got, [[0], [-22], [0, 0]], stops)

    def test_train_has_as_many_seats_as_told(self):
        for seats in (1, 2, 11, 12):
            got = ask(begin(2, seats), *[book(0, 1) for k in range(seats + 1)])
            self.assertEqual(got[1:], [[k, 0] for k in range(seats)] + [[-1000]], seats)

    def test_new_begin_puts_a_train_without_bookings(self):
        got = ask(begin(3, 1), book(0, 2), book(0, 2), begin(5, 2),
                  row(0), cancel(0), book(0, 4), book(0, 4), book(0, 4), row(1))
        self.assertEqual(got, [[0], [0, 0], [-1000], [0],
                               [-2], [-2], [0, 0], [1, 0], [-1000], [4, 0, 1, 1, 1, 1]])

    def test_new_begin_of_the_same_size_forgets_bookings_too(self):
        got = ask(begin(3, 1), book(0, 2), begin(3, 1), row(0), book(0, 2))
        self.assertEqual(got, [[0], [0, 0], [0], [-2], [0, 0]])

    def test_state_free_and_who_behind_a_new_begin(self):
        before = [begin(4, 2), book(0, 3), book(1, 2), book(0, 1), cancel(0)]
        self.assertEqual(ask_behind(before, state(), free(1, 2), who(1, 1)), [[2, 3, 0], [1, 0], [1]])
        got = ask_behind(before, begin(4, 2), state(), free(1, 2), who(1, 1), anew(), state())
        self.assertEqual(got, [[0], [0, 0, 0], [2, 0, 1], [-6], [0], [0, 0, 0]])
        got = ask_behind(before, begin(3, 4), state(), free(0, 2), free(0, 3), who(3, 1), who(0, 2))
        self.assertEqual(got, [[0], [0, 0, 0], [4, 0, 1, 2, 3], [-22], [-6], [-2]])

    def test_refused_begin_keeps_the_train(self):
        before = [begin(4, 2), book(0, 3), book(1, 2), cancel(0)]
        for refused in (begin(1, 2), begin(18, 2), begin(4, 0), begin(4, 13), begin(LARGEST, LARGEST)):
            got = ask_behind(before, refused, row(0), row(1), book(0, 3), row(2), book(0, 4))
            self.assertEqual(got, [[-22], [-2], [1, 1, 1], [2, 0], [3, 0, 0, 0, 0], [-22]], refused)
            got = ask_behind(before, refused, state(), free(0, 3), free(0, 4), who(1, 1), who(0, 2), who(0, 3))
            self.assertEqual(got, [[-22], [1, 2, 0], [1, 0], [-22], [1], [-6], [-2]], refused)


class NoTrain(unittest.TestCase):
    def test_book_is_refused(self):
        self.assertEqual(ask(book(0, 1), book(0, 1, 1)), [[-61], [-61]])

    def test_book_is_refused_so_whatever_else_is_wrong(self):
        for wrong in (book(1, 1), book(2, 1), book(0, 1, 2), book(LARGEST, LARGEST, LARGEST)):
            self.assertEqual(ask(wrong), [[-61]], wrong)

    def test_anew_free_and_state_are_refused(self):
        self.assertEqual(ask(anew(), free(0, 1), state()), [[-61], [-61], [-61]])
        self.assertEqual(ask(state()), [[-61]])
        self.assertEqual(ask(anew()), [[-61]])

    def test_free_is_refused_so_whatever_else_is_wrong(self):
        for wrong in (free(0, 0), free(2, 1), free(0, 17), free(LARGEST, 0), free(LARGEST, LARGEST)):
            self.assertEqual(ask(wrong), [[-61]], wrong)

    def test_who_knows_no_seat(self):
        for place in ((0, 0), (11, 15), (0, LARGEST), (LARGEST, LARGEST)):
            self.assertEqual(ask(who(*place)), [[-2]], place)

    def test_cancel_and_row_know_no_booking(self):
        self.assertEqual(ask(cancel(0), row(0), cancel(LARGEST), row(LARGEST)), [[-2], [-2], [-2], [-2]])

    def test_refused_begin_makes_no_train(self):
        self.assertEqual(ask(begin(1, 1), book(0, 1), begin(2, 13), book(0, 1)), [[-22], [-61], [-22], [-61]])
        self.assertEqual(ask(begin(18, 1), anew(), free(0, 1), who(0, 0), state()),
                         [[-22], [-61], [-61], [-2], [-61]])

    def test_train_can_be_begun_behind_refusals(self):
        got = ask(book(0, 1), cancel(0), row(0), begin(2, 1), book(0, 1))
        self.assertEqual(got, [[-61], [-2], [-2], [0], [0, 0]])
        got = ask(anew(), free(0, 1), who(0, 0), state(), begin(2, 1), state(), free(0, 1), who(0, 0), anew())
        self.assertEqual(got, [[-61], [-61], [-2], [-61], [0], [0, 0, 0], [1, 0], [-6], [0]])


if __name__ == "__main__":
    unittest.main()
