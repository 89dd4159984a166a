"""Compares lines of all calls with a slow model that tries every row and looks at every part."""

import itertools
import random
import unittest

from lines import LARGEST, all_told, anew, ask, begin, book, cancel, free, row, state, who


def changes(seats):
    return sum(1 for one, other in zip(seats, seats[1:]) if one != other)


class Model:
    """Keeps who sits where as a dict: (part, seat) -> booking."""

    def __init__(self):
        self.size = None

    def begin(self, stops, seats):
        if stops not in range(2, 18) or seats not in range(1, 13):
            return [-22]
        self.size = (stops, seats)
        self.ways = []
        self.dropped = set()
        self.sits = {}
        return [0]

    def book(self, from_stop, to_stop, how):
        if self.size is None:
            return [-61]
        if to_stop <= from_stop or to_stop > self.size[0] - 1 or how > 1:
            return [-22]
        if len(self.ways) >= 40:
            return [-12]
        seats = range(self.size[1])
        free = [[s for s in seats if (part, s) not in self.sits] for part in range(from_stop, to_stop)]
        for part, left in enumerate(free):
            if not left:
                return [-1000 - from_stop - part]
        number = len(self.ways)
        self.ways.append((from_stop, to_stop))
        if how == 0:
            # product goes through rows from the first on, and min takes the first of like ones.
            chosen = min(itertools.product(*free), key=changes)
            for part, seat in enumerate(chosen):
                self.sits[from_stop + part, seat] = number
        else:
            self.seat_at_once()
        return [number, changes(self.seats_of(number))]

    def seat_at_once(self):
        self.sits = {}
        left = [k for k in range(len(self.ways)) if k not in self.dropped]
        while left:
            number = min(left, key=lambda k: self.ways[k][0])
            left.remove(number)
            parts = range(*self.ways[number])
            seat = 0
            while any((part, seat) in self.sits for part in parts):
                seat += 1
            for part in parts:
                self.sits[part, seat] = number

    def seats_of(self, number):
        found = sorted(place for place, whose in self.sits.items() if whose == number)
        return [seat for part, seat in found]

    def known(self, number):
        return self.size is not None and number < len(self.ways) and number not in self.dropped

    def cancel(self, number):
        if not self.known(number):
            return [-2]
        self.dropped.add(number)
        self.sits = {place: whose for place, whose in self.sits.items() if whose != number}
        return [len(self.ways) - len(self.dropped)]

    def row(self, number):
        if not self.known(number):
            return [-2]
        from_stop, to_stop = self.ways[number]
        return [to_stop - from_stop, from_stop] + self.seats_of(number)

    def all_changes(self):
        return sum(changes(self.seats_of(number)) for number in range(len(self.ways)))

    def anew(self):
        if self.size is None:
            return [-61]
        before = self.all_changes()
        self.seat_at_once()
        return [before]

    def free(self, from_stop, to_stop):
        if self.size is None:
            return [-61]
        if to_stop <= from_stop or to_stop > self.size[0] - 1:
            return [-22]
        taken = {seat for part, seat in self.sits if from_stop <= part < to_stop}
        left = sorted(set(range(self.size[1])) - taken)
        return [len(left), *left]

    def who(self, seat, part):
        if self.size is None or seat not in range(self.size[1]) or part not in range(self.size[0] - 1):
            return [-2]
        return [self.sits.get((part, seat), -6)]

    def state(self):
        if self.size is None:
            return [-61]
        return [len(self.ways) - len(self.dropped), len(self.ways), self.all_changes()]

    def ask(self, calls):
        kinds = (self.begin, self.book, self.cancel, self.row, self.anew, self.free, self.who, self.state)
        return [kinds[call[0]](*call[1:]) for call in calls]


def random_book(chance, stops, longest):
    from_stop = chance.randrange(stops - 1)
    to_stop = min(from_stop + chance.randrange(1, longest + 1), stops - 1)
    return book(from_stop, to_stop, chance.choice((0, 0, 0, 0, 0, 1)))


def wrong_call(chance, stops, seats):
    return chance.choice((
        begin(chance.choice((0, 1, 18, LARGEST)), seats),
        begin(stops, chance.choice((0, 13, LARGEST))),
        book(chance.randrange(stops), stops, 0),
        book(stops - 1, chance.randrange(stops), 1),
        book(0, 1, chance.choice((2, LARGEST))),
        cancel(chance.choice((40, LARGEST))),
        row(chance.choice((40, LARGEST))),
        free(chance.randrange(stops), chance.choice((stops, LARGEST))),
        free(chance.choice((stops - 1, LARGEST)), chance.randrange(stops)),
        who(chance.choice((seats, LARGEST)), chance.randrange(stops)),
        who(chance.randrange(seats), chance.choice((stops - 1, stops, LARGEST)))))


def telling_call(chance, stops, seats):
    from_stop = chance.randrange(stops - 1)
    return chance.choice((
        row(chance.randrange(40)),
        free(from_stop, chance.randrange(from_stop + 1, stops)),
        who(chance.randrange(seats), chance.randrange(stops - 1)),
        state()))


def random_train(chance):
    """Fills seats by short ways, leaves gaps by cancelling, and asks for longer ways through them."""
    stops = chance.randrange(2, 9)
    seats = chance.randrange(1, 5)
    # What stands ahead of begin finds no train, or the one before.
    calls = [telling_call(chance, stops, seats), anew(), begin(stops, seats)]
    calls += [random_book(chance, stops, 2) for k in range(chance.randrange(30))]
    for k in range(chance.randrange(30)):
        calls.append(chance.choice((
            cancel(chance.randrange(20)),
            cancel(chance.randrange(20)),
            random_book(chance, stops, stops),
            random_book(chance, stops, stops),
            telling_call(chance, stops, seats),
            telling_call(chance, stops, seats),
            wrong_call(chance, stops, seats),
            anew() if chance.random() < 0.5 else state())))
    return calls + all_told(stops, seats)


def train_with_gaps(chance):
    """Takes every seat on every part by itself, cancels some, and asks for ways through the gaps."""
    seats, parts = chance.choice(((2, 8), (3, 8), (4, 7), (5, 6), (6, 5)))
    takers = [book(part, part + 1) for part in range(parts) for seat in range(seats)]
    chance.shuffle(takers)
    gaps = [cancel(k) for k in range(len(takers)) if chance.random() < 0.6]
    # All is told at once: a later booking with how 1 may seat them anew.
    through = [book(k % 2, parts - k % 3 // 2) for k in range(4)] + all_told(parts + 1, seats)
    through += chance.choice(([], [anew()] + all_told(parts + 1, seats)))
    through += [random_book(chance, parts + 1, parts) for k in range(36 - len(takers))]
    through += chance.choice(([], [anew()]))
    return [begin(parts + 1, seats)] + takers + gaps + through + all_told(parts + 1, seats)


class AgainstModel(unittest.TestCase):
    def compare(self, calls):
        """How many bookings change seats, and how many times anew puts an end to changes, if all agrees."""
        expected = Model().ask(calls)
        for place, told in enumerate(ask(*calls)):
            self.assertEqual(told, expected[place], calls[:place + 1])
        changed = sum(1 for call, told in zip(calls, expected) if call[0] == 1 and len(told) == 2 and told[1] > 0)
        ended = sum(1 for call, told in zip(calls, expected) if call == anew() and told[0] > 0)
        return changed, ended

    def test_random_lines(self):
        chance = random.Random(20)
        for k in range(200):
            self.compare(random_train(chance) + random_train(chance))

    def test_ways_through_gaps(self):
        chance = random.Random(31)
        counts = [self.compare(train_with_gaps(chance)) for k in range(200)]
        # Lines in which nobody ever changes would compare little.
        self.assertGreater(sum(changed for changed, ended in counts), 200)
        self.assertGreater(sum(ended for changed, ended in counts), 50)


if __name__ == "__main__":
    unittest.main()
