"""What is said of a line as a whole: how it is handed in, and how it is answered."""

import time
import unittest

from lines import LARGEST, anew, ask, begin, book, cancel, free, line_of, row, split_answers, state, who
from trainseatsdesk.seating import answers

SECONDS_FOR_A_LINE = 20


class Lines(unittest.TestCase):
    MIXED = [row(0), anew(), free(0, 1), who(0, 0), state(), begin(5, 2), book(0, 4), book(1, 3), book(1, 2),
             state(), cancel(0), book(0, 2, 1), row(1), row(2), anew(), free(0, 4), free(3, 4), who(1, 1), who(0, 3),
             book(LARGEST, 0, LARGEST), free(LARGEST, LARGEST), who(LARGEST, LARGEST), begin(0, 0), cancel(7),
             state(), begin(3, 1), book(0, 2), row(0), anew(), free(0, 2), who(0, 1), state()]

    def test_answers_stand_behind_how_many_numbers_they_have(self):
        line = [0, 4, 2, 1, 0, 3, 0, 3, 0, 2, 0, 2, 0, 1, 3, 3, 0]
        self.assertEqual(answers(line), [1, 0, 2, 0, 0, 5, 3, 0, 0, 0, 0, 1, 0, 1, -2, 1, -22])

    def test_no_numbers_stand_behind_anew_and_state(self):
        line = [0, 3, 2, 4, 7, 1, 0, 2, 0, 7, 4, 5, 0, 2, 6, 0, 1, 6, 1, 1, 6, 2, 1, 5, 2, 2, 4, 7]
        self.assertEqual(answers(line), [1, 0, 1, 0, 3, 0, 0, 0, 2, 0, 0, 3, 1, 1, 0, 1, 0, 2, 1, 1,
                                         1, 0, 1, -6, 1, -2, 1, -22, 1, 0, 3, 1, 1, 0])

    def test_one_call(self):
        self.assertEqual(answers([0, 2, 1]), [1, 0])
        self.assertEqual(answers([1, 0, 1, 0]), [1, -61])
        self.assertEqual(answers([2, 0]), [1, -2])
        self.assertEqual(answers([3, 0]), [1, -2])
        self.assertEqual(answers([4]), [1, -61])
        self.assertEqual(answers([5, 0, 1]), [1, -61])
        self.assertEqual(answers([6, 0, 0]), [1, -2])
        self.assertEqual(answers([7]), [1, -61])

    def test_free_tells_its_count_once(self):
        # How many numbers are answered; how many seats; the seats.
        self.assertEqual(answers([0, 2, 3, 5, 0, 1]), [1, 0, 4, 3, 0, 1, 2])
        self.assertEqual(answers([0, 2, 1, 1, 0, 1, 0, 5, 0, 1]), [1, 0, 2, 0, 0, 1, 0])

    def test_whole_numbers_in_a_list(self):
        answered = answers(line_of(self.MIXED))
        self.assertIs(type(answered), list)
        for number in answered:
            self.assertIs(type(number), int)

    def test_list_handed_in_stays(self):
        line = line_of(self.MIXED)
        before = list(line)
        answered = answers(line)
        self.assertEqual(line, before)
        self.assertIsNot(answered, line)

    def test_handed_in_list_is_never_changed_for_a_while(self):
        answers(Unchanged(line_of(self.MIXED)))

    def test_second_time_as_the_first(self):
        line = line_of(self.MIXED)
        first = answers(line)
        kept = list(first)
        self.assertEqual(answers(line), kept)
        first.clear()
        self.assertEqual(answers(line), kept)

    def test_nothing_is_kept_from_one_line_to_the_next(self):
        self.assertEqual(ask(begin(3, 1), book(0, 2)), [[0], [0, 0]])
        self.assertEqual(ask(book(0, 2), row(0), cancel(0)), [[-61], [-2], [-2]])
        self.assertEqual(ask(anew(), free(0, 2), who(0, 0), state()), [[-61], [-61], [-2], [-61]])
        self.assertEqual(ask(begin(3, 1), state(), free(0, 2), who(0, 0)), [[0], [0, 0, 0], [1, 0], [-6]])


class Unchanged(list):
    """A list that fails when it is changed."""

    def refuse(self, *values, **named):
        raise AssertionError("the list that was handed in is changed")

    append = clear = extend = insert = pop = remove = reverse = sort = refuse
    __setitem__ = __delitem__ = __iadd__ = __imul__ = refuse


class LongLines(unittest.TestCase):
    def answer_in_time(self, calls):
        line = line_of(calls)
        self.assertEqual(len(calls), 5000)
        self.assertLessEqual(len(line), 30000)
        began = time.monotonic()
        answered = answers(line)
        self.assertLess(time.monotonic() - began, SECONDS_FOR_A_LINE)
        split = split_answers(answered)
        self.assertEqual(len(split), 5000)
        return split

    def assert_all_are(self, expected, told):
        # One by one: to show how two such long lists differ would take minutes.
        for answer in told:
            self.assertEqual(answer, expected)

    def train_after_train(self, how):
        one_train = [begin(17, 12)] + [book(k % 8, 16 - k % 3, how) for k in range(12)]
        one_train += [cancel(k) for k in range(0, 12, 2)] + [book(k % 4, 9 + k % 8, how) for k in range(28)]
        one_train += [row(k) for k in range(40)]
        many = []
        while len(many) < 5000:
            many += one_train
        return one_train, many[:5000]

    def test_trains_one_behind_another(self):
        for how in (0, 1):
            one_train, many = self.train_after_train(how)
            split = self.answer_in_time(many)
            size = len(one_train)
            self.assertEqual(split[:size], ask(*one_train))
            self.assertEqual(split[size:2 * size], split[:size])

    def test_all_kinds(self):
        one_train = [begin(17, 12)]
        for k in range(44):
            one_train += [book(k % 11, k % 11 + 1 + k % 6, k % 5 // 4), state(), free(k % 16, 16), who(k % 12, k % 16)]
            one_train += [cancel(k - 2)] if k % 3 == 2 else [row(k)]
            one_train += [anew()] if k % 7 == 6 else [free(0, 1 + k % 16)]
        self.assertEqual({call[0] for call in one_train}, set(range(8)))
        size = len(one_train)
        split = self.answer_in_time((one_train * (5000 // size + 1))[:5000])
        once = ask(*one_train)
        for place, answer in enumerate(split):
            self.assertEqual(answer, once[place % size])

    def test_many_of_each_kind_on_a_full_train(self):
        # Each of the forty bookings that can be, on as many parts as fit.
        full = [begin(17, 12)] + [book(k % 4 * 4, k % 4 * 4 + 4) for k in range(40)]
        for call in (anew(), free(0, 16), free(15, 16), who(9, 15), who(11, 15), state(), row(39)):
            expected = ask(*full, call)[-1]
            split = self.answer_in_time(full + [call] * 4959)
            self.assert_all_are(expected, split[41:])

    def test_many_rows(self):
        split = self.answer_in_time([begin(17, 12), book(0, 16)] + [row(0)] * 4998)
        self.assert_all_are([16, 0] + [0] * 16, split[2:])

    def test_many_refused_bookings(self):
        full = [begin(17, 12)] + [book(0, 16)] * 12
        split = self.answer_in_time(full + [book(0, 16, k % 2) for k in range(4987)])
        self.assert_all_are([-1000], split[13:])


if __name__ == "__main__":
    unittest.main()
