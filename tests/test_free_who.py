"""Promise 5: free and who, with their refusals."""

import unittest

from lines import LARGEST, all_told, anew, ask, ask_behind, begin, book, cancel, free, row, who


class Free(unittest.TestCase):
    def test_all_seats(self):
        self.assertEqual(ask(begin(2, 1), free(0, 1))[1:], [[1, 0]])
        for way in ((0, 16), (0, 1), (15, 16), (7, 9)):
            self.assertEqual(ask(begin(17, 12), free(*way))[1:], [[12] + list(range(12))], way)

    def test_no_seat(self):
        self.assertEqual(ask(begin(2, 1), book(0, 1), free(0, 1))[2:], [[0]])
        got = ask(begin(17, 12), *[book(0, 16)] * 12, free(0, 16), free(0, 1), free(15, 16))
        self.assertEqual(got[13:], [[0], [0], [0]])

    def test_no_seat_all_the_way_though_one_on_each_part(self):
        before = [begin(3, 2), book(0, 1), book(0, 1), cancel(0), book(1, 2)]
        got = ask_behind(before, row(1), row(2), free(0, 1), free(1, 2), free(0, 2))
        self.assertEqual(got, [[1, 0, 1], [1, 1, 0], [1, 0], [1, 1], [0]])
        self.assertEqual(ask_behind(before, book(0, 2)), [[3, 1]])

    def test_some_seats_rising(self):
        before = [begin(3, 6)] + [book(0, 2)] * 6
        self.assertEqual(ask_behind(before, cancel(4), cancel(1), cancel(2), free(0, 2))[3:], [[3, 1, 2, 4]])
        self.assertEqual(ask_behind(before, cancel(5), cancel(0), free(0, 2))[2:], [[2, 0, 5]])

    def test_seat_free_all_the_way_but_for_one_part(self):
        for part in range(5):
            got = ask(begin(6, 2), book(part, part + 1), free(0, 5), free(part, part + 1))
            self.assertEqual(got[2:], [[1, 1], [1, 1]], part)
            if part > 0:
                self.assertEqual(ask(begin(6, 2), book(part, part + 1), free(0, part))[2:], [[2, 0, 1]], part)
            if part < 4:
                self.assertEqual(ask(begin(6, 2), book(part, part + 1), free(part + 1, 5))[2:], [[2, 0, 1]], part)

    def test_each_seat_taken_on_another_part(self):
        before = [begin(5, 3), book(0, 1), book(0, 2), book(0, 4), cancel(1), cancel(0), book(1, 2), cancel(2),
                  book(1, 3), book(3, 4)]
        rows = ask_behind(before, row(3), row(4), row(5))
        self.assertEqual(rows, [[1, 1, 0], [2, 1, 1, 1], [1, 3, 0]])
        got = ask_behind(before, free(0, 4), free(0, 1), free(0, 2), free(1, 3), free(2, 3), free(3, 4), free(2, 4))
        self.assertEqual(got, [[1, 2], [3, 0, 1, 2], [1, 2], [1, 2], [2, 0, 2], [2, 1, 2], [1, 2]])

    def test_one_gets_in_where_another_gets_out(self):
        before = [begin(5, 1), book(1, 3)]
        got = ask_behind(before, free(0, 1), free(3, 4), free(0, 2), free(2, 4), free(1, 3), free(0, 4))
        self.assertEqual(got, [[1, 0], [1, 0], [0], [0], [0], [0]])

    def test_last_part(self):
        got = ask(begin(17, 2), book(15, 16), free(15, 16), free(14, 15), free(14, 16), free(0, 16), free(0, 15))
        self.assertEqual(got[2:], [[1, 1], [2, 0, 1], [1, 1], [1, 1], [2, 0, 1]])

    def test_row_with_changes_takes_each_seat_on_its_parts(self):
        before = [begin(3, 2), book(0, 1), book(0, 1), cancel(0), book(1, 2), book(0, 2), cancel(1), cancel(2)]
        self.assertEqual(ask_behind(before, row(3), free(0, 1), free(1, 2), free(0, 2)),
                         [[2, 0, 0, 1], [1, 1], [1, 0], [0]])
        self.assertEqual(ask_behind(before, anew(), row(3), free(0, 1), free(1, 2), free(0, 2)),
                         [[1], [2, 0, 0, 0], [1, 1], [1, 1], [1, 1]])

    def test_cancelled_and_booked_again(self):
        got = ask(begin(3, 2), book(0, 2), free(0, 2), cancel(0), free(0, 2), book(0, 2), free(0, 2), free(1, 2))
        self.assertEqual(got[2:], [[1, 1], [0], [2, 0, 1], [1, 0], [1, 1], [1, 1]])

    def test_to_stop_is_not_behind_from_stop(self):
        before = [begin(5, 2), book(0, 4)]
        for way in ((0, 0), (1, 1), (4, 4), (1, 0), (4, 3), (4, 0), (5, 4), (LARGEST, 0), (LARGEST, 4)):
            self.assertEqual(ask_behind(before, free(*way)), [[-22]], way)

    def test_to_stop_is_no_stop(self):
        for stops in (2, 5, 17):
            for way in ((0, stops), (stops - 1, stops), (0, LARGEST), (stops, stops + 1), (stops - 2, stops),
                        (LARGEST, LARGEST), (LARGEST - 1, LARGEST), (0, 255)):
                self.assertEqual(ask(begin(stops, 1), free(*way)), [[0], [-22]], (stops, way))


class Who(unittest.TestCase):
    def test_whose_booking(self):
        before = [begin(4, 3), book(0, 2), book(1, 3), book(2, 3)]
        got = ask_behind(before, *[who(seat, part) for seat in range(3) for part in range(3)])
        self.assertEqual(got, [[0], [0], [2], [-6], [1], [1], [-6], [-6], [-6]])

    def test_nobody(self):
        self.assertEqual(ask(begin(2, 1), who(0, 0))[1:], [[-6]])
        got = ask(begin(17, 12), *[who(seat, part) for seat in range(12) for part in range(16)])
        self.assertEqual(got[1:], [[-6]] * 192)

    def test_first_booking_is_told_as_0(self):
        self.assertEqual(ask(begin(2, 1), book(0, 1), who(0, 0))[2:], [[0]])

    def test_one_gets_in_where_another_gets_out(self):
        got = ask(begin(5, 1), book(0, 2), book(2, 3), who(0, 1), who(0, 2), who(0, 3))
        self.assertEqual(got[3:], [[0], [1], [-6]])

    def test_last_part_and_last_seat(self):
        before = [begin(17, 12)] + [book(0, 16)] * 11 + [book(15, 16)]
        got = ask_behind(before, who(11, 15), who(11, 14), who(10, 15), who(0, 15), who(11, 16), who(12, 15))
        self.assertEqual(got, [[11], [-6], [10], [0], [-2], [-2]])

    def test_cancelled_and_booked_again(self):
        before = [begin(3, 2), book(0, 2), book(0, 2)]
        got = ask_behind(before, cancel(0), who(0, 0), who(1, 0), book(1, 2), who(0, 0), who(0, 1), who(1, 1))
        self.assertEqual(got, [[1], [-6], [1], [2, 0], [-6], [2], [1]])

    def test_row_with_changes(self):
        before = [begin(3, 2), book(0, 1), book(0, 1), cancel(0), book(1, 2), book(0, 2)]
        places = [who(0, 0), who(0, 1), who(1, 0), who(1, 1)]
        self.assertEqual(ask_behind(before, row(3), *places), [[2, 0, 0, 1], [3], [2], [1], [3]])
        self.assertEqual(ask_behind(before, anew(), *places), [[1], [1], [2], [3], [3]])

    def test_behind_all_seated_at_once(self):
        got = ask(begin(3, 2), book(1, 2), book(0, 2, 1), who(0, 0), who(0, 1), who(1, 0), who(1, 1))
        self.assertEqual(got[3:], [[1], [1], [-6], [0]])

    def test_no_such_seat(self):
        for seats in (1, 2, 12):
            for seat in (seats, seats + 1, 255, LARGEST):
                self.assertEqual(ask(begin(3, seats), book(0, 2), who(seat, 0))[2:], [[-2]], (seats, seat))

    def test_no_such_part(self):
        for stops in (2, 3, 17):
            got = ask(begin(stops, 1), book(0, stops - 1), who(0, stops - 2), who(0, stops - 1), who(0, stops),
                      who(0, stops + 1), who(0, LARGEST), who(LARGEST, LARGEST), who(1, stops - 1))
            self.assertEqual(got[2:], [[0]] + [[-2]] * 6, stops)

    def test_neither_taken_nor_there(self):
        self.assertEqual(ask(begin(3, 2), who(1, 1), who(1, 2), who(2, 1))[1:], [[-6], [-2], [-2]])


class NothingChanges(unittest.TestCase):
    def test_told_or_refused(self):
        before = [begin(3, 2), book(0, 1), book(0, 1), cancel(0), book(1, 2), book(0, 2)]
        behind = all_told(3, 2) + [book(1, 2), cancel(2), book(1, 2), anew()] + all_told(3, 2)
        expected = ask_behind(before, *behind)
        refused = [(free(1, 1), -22), (free(0, 3), -22), (free(LARGEST, LARGEST), -22), (who(2, 0), -2),
                   (who(0, 2), -2), (who(LARGEST, LARGEST), -2), (free(0, 2), 0), (free(0, 1), 0), (who(1, 1), 3)]
        for call, number in refused:
            got = ask_behind(before, call, *behind)
            self.assertEqual(got[0], [number], call)
            self.assertEqual(got[1:], expected, call)
        # Nobody has this place, which is refused too.
        before.append(cancel(3))
        self.assertEqual(ask_behind(before, who(0, 0), *behind), [[-6]] + ask_behind(before, *behind))


if __name__ == "__main__":
    unittest.main()
