"""Promise 2: book with how 0 and how 1, and its refusals."""

import unittest

from lines import LARGEST, ask, ask_behind, begin, book, cancel, row


class OthersStay(unittest.TestCase):
    def test_least_free_seat_all_the_way(self):
        got = ask(begin(4, 3), book(0, 3), book(1, 3), book(0, 2), row(0), row(1), row(2))
        self.assertEqual(got[1:], [[0, 0], [1, 0], [2, 0], [3, 0, 0, 0, 0], [2, 1, 1, 1], [2, 0, 2, 2]])

    def test_one_gets_in_where_another_gets_out(self):
        got = ask(begin(4, 2), book(0, 2), book(2, 3), book(1, 2), row(0), row(1), row(2))
        self.assertEqual(got[1:], [[0, 0], [1, 0], [2, 0], [2, 0, 0, 0], [1, 2, 0], [1, 1, 1]])

    def test_one_seat_filled_part_by_part(self):
        got = ask(begin(5, 1), *[book(k, k + 1) for k in (3, 0, 2, 1)], *[row(k) for k in range(4)])
        self.assertEqual(got[1:], [[0, 0], [1, 0], [2, 0], [3, 0],
                                   [1, 3, 0], [1, 0, 0], [1, 2, 0], [1, 1, 0]])

    def test_seat_free_but_for_one_part_gives_way_to_one_that_is_free(self):
        got = ask(begin(6, 2), book(2, 3), book(0, 5), row(1))
        self.assertEqual(got[1:], [[0, 0], [1, 0], [5, 0, 1, 1, 1, 1, 1]])

    def test_seat_free_but_for_the_first_or_last_part_gives_way(self):
        self.assertEqual(ask(begin(4, 2), book(0, 1), book(0, 3), row(1))[2:], [[1, 0], [3, 0, 1, 1, 1]])
        self.assertEqual(ask(begin(4, 2), book(2, 3), book(0, 3), row(1))[2:], [[1, 0], [3, 0, 1, 1, 1]])

    def test_lesser_seat_as_long_as_it_is_free(self):
        # Free: seat 0 on parts 0 and 1, seat 1 on parts 1 and 2.
        before = [begin(4, 2), book(0, 1), book(0, 1), cancel(0), book(2, 3)]
        self.assertEqual(ask_behind(before, row(1), row(2)), [[1, 0, 1], [1, 2, 0]])
        self.assertEqual(ask_behind(before, book(0, 3), row(3)), [[3, 1], [3, 0, 0, 0, 1]])

    def test_lesser_seat_as_soon_as_it_is_free(self):
        # Free: seat 1 on parts 0 and 1, seat 0 on parts 1 and 2.
        before = [begin(4, 2), book(0, 1), book(2, 3), book(2, 3), cancel(1)]
        self.assertEqual(ask_behind(before, row(0), row(2)), [[1, 0, 0], [1, 2, 1]])
        self.assertEqual(ask_behind(before, book(0, 3), row(3)), [[3, 1], [3, 0, 1, 0, 0]])

    def test_of_rows_that_change_equally_often_the_first(self):
        # Free: part 0 seats 0 and 1, part 1 seats 0 to 2, part 2 seat 2 alone.
        before = [begin(4, 3), book(0, 1), book(0, 1), book(0, 1), book(2, 3), book(2, 3), cancel(0), cancel(1)]
        got = ask_behind(before, row(2), row(3), row(4), book(0, 3), row(5))
        self.assertEqual(got, [[1, 0, 2], [1, 2, 0], [1, 2, 1], [5, 1], [3, 0, 0, 0, 2]])

    def test_least_seat_of_the_first_part_only_if_changes_stay_fewest(self):
        # Free: seat 0 on part 0, seat 1 on parts 0 to 2, seat 2 on part 3.
        before = [begin(5, 3), book(1, 4), book(3, 4), book(0, 3), book(0, 3), cancel(2)]
        self.assertEqual(ask_behind(before, row(0), row(1), row(3)),
                         [[3, 1, 0, 0, 0], [1, 3, 1], [3, 0, 2, 2, 2]])
        self.assertEqual(ask_behind(before, book(0, 4), row(4)), [[4, 1], [4, 0, 1, 1, 1, 2]])

    def test_lesser_seat_later_does_not_draw_one_off(self):
        # Seat 0 gets free on part 1, but staying on seat 1 needs no change.
        got = ask(begin(4, 2), book(0, 1), book(0, 3), row(1))
        self.assertEqual(got[2:], [[1, 0], [3, 0, 1, 1, 1]])

    def test_changes_on_every_part(self):
        # Free: seats 0, 1, 0, 1 on the parts 0 to 3.
        takers = [book(0, 1), book(0, 1), book(1, 2), book(2, 3), book(2, 3), book(3, 4)]
        before = [begin(5, 2)] + takers + [cancel(0), cancel(3)]
        got = ask_behind(before, book(0, 4), row(6), book(1, 3), row(0), row(1))
        self.assertEqual(got, [[6, 3], [4, 0, 0, 1, 0, 1], [-1001], [-2], [1, 0, 1]])

    def test_others_keep_their_rows(self):
        before = [begin(6, 3), book(0, 2), book(1, 4), book(3, 5), book(0, 5), cancel(0)]
        rows = [row(k) for k in range(4)]
        first = ask_behind(before, *rows)
        again = ask_behind(before, book(0, 2), book(4, 5), book(4, 5), *rows)[3:]
        self.assertEqual(first, again)

    def test_last_part(self):
        for stops in (2, 3, 17):
            last = stops - 1
            got = ask(begin(stops, 1), book(last - 1, last), row(0), book(last - 1, last), book(0, last))
            self.assertEqual(got[1:3], [[0, 0], [1, last - 1, 0]], stops)
            self.assertEqual(got[3:], [[-1000 - (last - 1)], [-1000 - (last - 1)]], stops)


class SeatedAtOnce(unittest.TestCase):
    def test_seat_free_all_the_way_still_seats_all_anew(self):
        # The new one begins first, so it has seat 0, though seat 2 was free for it all the way.
        got = ask(begin(5, 3), book(2, 4), book(1, 3), book(0, 4, 1), row(0), row(1), row(2))
        self.assertEqual(got[1:], [[0, 0], [1, 0], [2, 0],
                                   [2, 2, 2, 2], [2, 1, 1, 1], [4, 0, 0, 0, 0, 0]])

    def test_of_like_beginnings_the_one_told_first(self):
        got = ask(begin(4, 3), book(0, 3), book(0, 1), book(0, 2, 1), row(0), row(1), row(2))
        self.assertEqual(got[3:], [[2, 0], [3, 0, 0, 0, 0], [1, 0, 1], [2, 0, 2, 2]])

    def test_the_new_one_stands_behind_its_like(self):
        got = ask(begin(3, 2), book(0, 1), book(0, 2, 1), row(0), row(1))
        self.assertEqual(got[2:], [[1, 0], [1, 0, 0], [2, 0, 1, 1]])

    def test_gets_in_where_another_gets_out(self):
        got = ask(begin(4, 2), book(2, 3), book(0, 2, 1), book(1, 2, 1), row(0), row(1), row(2))
        self.assertEqual(got[1:], [[0, 0], [1, 0], [2, 0], [1, 2, 0], [2, 0, 0, 0], [1, 1, 1]])

    def test_cancelled_ones_between_are_not_seated(self):
        before = [begin(4, 3), book(0, 3), book(0, 3), book(0, 3), cancel(1)]
        got = ask_behind(before, book(0, 3, 1), row(0), row(1), row(2), row(3))
        self.assertEqual(got, [[3, 0], [3, 0, 0, 0, 0], [-2], [3, 0, 1, 1, 1], [3, 0, 2, 2, 2]])

    def test_all_others_cancelled(self):
        got = ask(begin(3, 2), book(0, 2), book(0, 2), cancel(0), cancel(1), book(0, 2, 1), row(2))
        self.assertEqual(got[5:], [[2, 0], [2, 0, 0, 0]])

    def test_who_changed_changes_no_more_and_ways_are_as_they_were(self):
        takers = [book(0, 1), book(0, 1), book(1, 2), book(2, 3), book(2, 3), book(3, 4)]
        before = [begin(6, 2)] + takers + [cancel(0), cancel(3), book(0, 4)]
        self.assertEqual(ask(*before)[-1], [6, 3])
        got = ask_behind(before, book(4, 5, 1), *[row(k) for k in range(8)])
        self.assertEqual(got, [[7, 0], [-2], [1, 0, 0], [1, 1, 0], [-2], [1, 2, 0], [1, 3, 0],
                               [4, 0, 1, 1, 1, 1], [1, 4, 0]])

    def test_first_booking(self):
        self.assertEqual(ask(begin(17, 12), book(15, 16, 1), row(0))[1:], [[0, 0], [1, 15, 0]])

    def test_full_train_is_seated(self):
        ways = [(k, k + 4) for k in range(13)]
        got = ask(begin(17, 4), *[book(a, b, 1) for a, b in reversed(ways)], *[row(k) for k in range(13)])
        self.assertEqual(got[1:14], [[k, 0] for k in range(13)])
        self.assertEqual(got[14:], [[4, 12 - k] + [(12 - k) % 4] * 4 for k in range(13)])


class Refusals(unittest.TestCase):
    BEFORE = [begin(5, 2), book(0, 2), book(1, 3), cancel(0), book(1, 2), book(0, 1)]
    WRONG = [book(1, 1), book(2, 1), book(0, 0), book(4, 4), book(4, 3), book(0, 5), book(4, 5), book(5, 6),
             book(0, LARGEST), book(LARGEST, 0), book(LARGEST, LARGEST), book(LARGEST - 1, LARGEST),
             book(0, 1, 2), book(0, 1, 3), book(0, 1, LARGEST), book(2, 1, 1), book(0, 5, 1), book(1, 1, 1),
             book(1, 0, 2), book(0, 5, 2)]

    def test_wrong_values(self):
        for wrong in self.WRONG:
            self.assertEqual(ask(begin(5, 2), wrong), [[0], [-22]], wrong)

    def test_last_stop_is_a_stop(self):
        for how in (0, 1):
            self.assertEqual(ask(begin(5, 2), book(0, 4, how), book(3, 4, how))[1:], [[0, 0], [1, 0]])

    def test_wrong_values_are_told_ahead_of_a_full_part(self):
        full = [begin(3, 1), book(0, 2)]
        got = ask_behind(full, book(0, 3), book(1, 1), book(0, 2, 2), book(0, 2), book(0, 2, 1))
        self.assertEqual(got, [[-22], [-22], [-22], [-1000], [-1000]])

    def test_first_full_part_of_the_way(self):
        # Parts 3 and 5 of 16 are full.
        before = [begin(17, 2), book(3, 4), book(5, 6), book(3, 4), book(5, 6), book(4, 5)]
        for how in (0, 1):
            got = ask_behind(before, book(0, 16, how), book(3, 5, how), book(4, 16, how), book(5, 6, how))
            self.assertEqual(got, [[-1003], [-1003], [-1005], [-1005]], how)
            # Just beside the full parts there is room.
            got = ask_behind(before, book(0, 3, how), book(4, 5, how), book(6, 16, how))
            self.assertEqual(got, [[5, 0], [6, 0], [7, 0]], how)

    def test_full_parts_at_both_ends(self):
        before = [begin(17, 1), book(0, 1), book(15, 16)]
        for how in (0, 1):
            got = ask_behind(before, book(0, 16, how), book(1, 16, how), book(15, 16, how), book(1, 15, how))
            self.assertEqual(got, [[-1000], [-1015], [-1015], [2, 0]], how)

    def test_cancelled_ones_fill_no_part(self):
        for how in (0, 1):
            got = ask(begin(3, 1), book(0, 2), book(1, 2, how), cancel(0), book(1, 2, how), row(1))
            self.assertEqual(got[2:], [[-1001], [0], [1, 0], [1, 1, 0]], how)

    def test_fortieth_booking_and_one_more(self):
        for how in (0, 1):
            forty = [begin(17, 12)] + [book(k % 16, k % 16 + 1) for k in range(39)]
            got = ask_behind(forty, book(7, 8, how), row(39), book(9, 10, how), book(0, 16, how), row(40), cancel(39))
            self.assertEqual(got, [[39, 0], [1, 7, 2], [-12], [-12], [-2], [39]], how)

    def test_cancelled_ones_count_among_the_forty(self):
        forty = [begin(2, 1)]
        for k in range(40):
            forty = forty + [book(0, 1), cancel(k)]
        self.assertEqual(ask(*forty)[1:], [[k, 0] if half == 0 else [0] for k in range(40) for half in (0, 1)])
        got = ask_behind(forty, book(0, 1), book(0, 1, 1), book(1, 1), book(0, 1, 2), begin(2, 1), book(0, 1))
        self.assertEqual(got, [[-12], [-12], [-22], [-22], [0], [0, 0]])

    def test_forty_is_told_ahead_of_a_full_part(self):
        forty = [begin(17, 12)] + [book(0, 1) for k in range(12)] + [book(1, 2) for k in range(12)]
        forty = forty + [book(2, 3) for k in range(12)] + [book(3, 4) for k in range(3)]
        got = ask_behind(forty, book(0, 1), book(3, 4), book(0, 1), book(0, 1, 1))
        self.assertEqual(got, [[-1000], [39, 0], [-12], [-12]])

    def test_refused_ones_change_nothing(self):
        # Part 1 is full; every row is told before and behind, and the next number is as it was.
        full = [book(1, 2), book(0, 4), book(0, 4, 1), book(1, 4, 1)]
        behind = [row(k) for k in range(5)] + [book(2, 4), row(4), book(0, 1, 1)] + [row(k) for k in range(6)]
        expected = ask_behind(self.BEFORE, *behind)
        for refused in self.WRONG + full:
            got = ask_behind(self.BEFORE, refused, *behind)
            self.assertLess(got[0][0], 0, refused)
            self.assertEqual(len(got[0]), 1, refused)
            self.assertEqual(got[1:], expected, refused)


if __name__ == "__main__":
    unittest.main()
