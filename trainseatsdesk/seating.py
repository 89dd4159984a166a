"""The seats of one train, booked for parts of its way.

`answers` goes through a line of calls. Part k of a way goes from stop k to stop k + 1.
A row is a list: for each part of a way, in order, the seat on that part.
"""

LEAST_STOPS = 2
MOST_STOPS = 17
LEAST_SEATS = 1
MOST_SEATS = 12
MOST_BOOKINGS = 40

WRONG_VALUE = -22
NO_TRAIN = -61
TOO_MANY_BOOKINGS = -12
NO_SUCH = -2
NOBODY = -6
PART_FULL = -1000

CALL_BEGIN = 0
CALL_BOOK = 1
CALL_CANCEL = 2
CALL_ROW = 3
CALL_ANEW = 4
CALL_FREE = 5
CALL_WHO = 6
# By the call's number: how many numbers stand behind it.
NUMBERS_BEHIND = (2, 3, 1, 1, 0, 2, 2, 0)

OTHERS_STAY = 0
ALL_SEATED_AT_ONCE = 1


def step_changes(seat_before, seat):
    """1 if the step to this seat is a change; there is none into the first part (None)."""
    if seat_before is None or seat_before == seat:
        return 0
    return 1


def count_changes(row):
    """How often the seat of a part is not that of the part before."""
    return sum([step_changes(row[k - 1], row[k]) for k in range(1, len(row))])


def fewest_ahead(seat, ahead_of_later):
    """The fewest changes from this seat to the way's end, by those of the next part's seats."""
    if len(ahead_of_later) == 0:
        return 0
    return min([ahead_of_later[later] + step_changes(seat, later) for later in ahead_of_later])


def changes_ahead(free_by_part):
    """For each part a dict: of each free seat the fewest changes from it to the way's end."""
    from_the_end = []
    ahead_of_later = {}
    for free_seats in reversed(free_by_part):
        ahead = {}
        for seat in free_seats:
            ahead[seat] = fewest_ahead(seat, ahead_of_later)
        from_the_end.append(ahead)
        ahead_of_later = ahead
    return list(reversed(from_the_end))


def fewest_changes_row(free_by_part):
    """The first of the rows that change least; each part has at least one free seat."""
    row = []
    seat_before = None
    for ahead in changes_ahead(free_by_part):
        # The pairs put the lesser seat first only among those that lead to the fewest changes.
        choices = [(ahead[seat] + step_changes(seat_before, seat), seat) for seat in ahead]
        seat_before = min(choices)[1]
        row.append(seat_before)
    return row


def free_all_the_way(free_by_part):
    """The seats that are free on each of the parts, rising; there is at least one part."""
    free_so_far = free_by_part[0]
    for free_seats in free_by_part:
        free_so_far = [seat for seat in free_so_far if seat in free_seats]
    return free_so_far


def least_seat_left(gets_out, from_stop):
    """The least seat that is left by from_stop, or else the one behind all that were used."""
    for seat, stop in enumerate(gets_out):
        if stop <= from_stop:
            return seat
    return len(gets_out)


def seats_at_once(ways):
    """For each way (from_stop, to_stop), as they are told, its one seat if seated at once.

    Taken by their beginnings, ways never need more seats than the fullest part has ways,
    so the train's number of seats is not asked for.
    """
    by_beginning = sorted([(way[0], told) for told, way in enumerate(ways)])
    seats = [0 for way in ways]
    # Of each seat the stop where the last one on it gets out: nobody on it begins later
    # than the one to be seated, so this stop alone tells whether they meet.
    gets_out = []
    for from_stop, told in by_beginning:
        seat = least_seat_left(gets_out, from_stop)
        if seat == len(gets_out):
            gets_out.append(0)
        gets_out[seat] = ways[told][1]
        seats[told] = seat
    return seats


class Booking:
    """A way, and the row of seats on it."""

    def __init__(self, from_stop, to_stop):
        self.from_stop = from_stop
        self.to_stop = to_stop
        self.row = []
        self.cancelled = False

    def has_part(self, part):
        return self.from_stop <= part < self.to_stop

    def seat_on(self, part):
        return self.row[part - self.from_stop]


class Train:
    """Its stops, its seats, and all bookings since it was begun."""

    def __init__(self, stops, seats):
        self.stops = stops
        self.seats = seats
        self.bookings = []

    def is_way(self, from_stop, to_stop):
        return from_stop < to_stop < self.stops

    def is_place(self, seat, part):
        """Whether there is such a seat, and such a part: there is one part less than stops."""
        return seat < self.seats and part < self.stops - 1

    def live_bookings(self):
        """Those that are not cancelled, by their numbers."""
        return [booking for booking in self.bookings if not booking.cancelled]

    def free_on(self, part):
        """The seats that are free on the part, rising."""
        taken = [booking.seat_on(part) for booking in self.live_bookings() if booking.has_part(part)]
        return [seat for seat in range(self.seats) if seat not in taken]

    def free_by_part(self, from_stop, to_stop):
        return [self.free_on(part) for part in range(from_stop, to_stop)]

    def who_has(self, seat, part):
        """The number of the booking that has the seat on the part; None if nobody has it."""
        for number, booking in enumerate(self.bookings):
            if not booking.cancelled and booking.has_part(part) and booking.seat_on(part) == seat:
                return number
        return None

    def all_changes(self):
        """How often those that are not cancelled change, all together."""
        return sum([count_changes(booking.row) for booking in self.live_bookings()])

    def seat_all_at_once(self):
        live = self.live_bookings()
        seats = seats_at_once([(booking.from_stop, booking.to_stop) for booking in live])
        for booking, seat in zip(live, seats):
            booking.row = [seat for part in range(booking.from_stop, booking.to_stop)]


class Desk:
    """Answers calls, each by a list of numbers; at first there is no train."""

    def __init__(self):
        self.train = None

    def begin(self, stops, seats):
        if not LEAST_STOPS <= stops <= MOST_STOPS or not LEAST_SEATS <= seats <= MOST_SEATS:
            return [WRONG_VALUE]
        self.train = Train(stops, seats)
        return [0]

    def book(self, from_stop, to_stop, how):
        train = self.train
        if train is None:
            return [NO_TRAIN]
        if not train.is_way(from_stop, to_stop) or how > ALL_SEATED_AT_ONCE:
            return [WRONG_VALUE]
        number = len(train.bookings)
        if number == MOST_BOOKINGS:
            return [TOO_MANY_BOOKINGS]
        free_by_part = train.free_by_part(from_stop, to_stop)
        for part, free_seats in enumerate(free_by_part, start=from_stop):
            if len(free_seats) == 0:
                return [PART_FULL - part]
        booking = Booking(from_stop, to_stop)
        train.bookings.append(booking)
        if how == OTHERS_STAY:
            booking.row = fewest_changes_row(free_by_part)
        else:
            train.seat_all_at_once()
        return [number, count_changes(booking.row)]

    def live_booking(self, number):
        """The booking of this number; None if there is none, or it is cancelled."""
        if self.train is None or number >= len(self.train.bookings):
            return None
        booking = self.train.bookings[number]
        return None if booking.cancelled else booking

    def cancel(self, number):
        booking = self.live_booking(number)
        if booking is None:
            return [NO_SUCH]
        booking.cancelled = True
        return [len(self.train.live_bookings())]

    def tell_row(self, number):
        booking = self.live_booking(number)
        if booking is None:
            return [NO_SUCH]
        return [len(booking.row), booking.from_stop] + booking.row

    def anew(self):
        train = self.train
        if train is None:
            return [NO_TRAIN]
        changes_before = train.all_changes()
        train.seat_all_at_once()
        return [changes_before]

    def free(self, from_stop, to_stop):
        train = self.train
        if train is None:
            return [NO_TRAIN]
        if not train.is_way(from_stop, to_stop):
            return [WRONG_VALUE]
        seats = free_all_the_way(train.free_by_part(from_stop, to_stop))
        return [len(seats)] + seats

    def who(self, seat, part):
        if self.train is None or not self.train.is_place(seat, part):
            return [NO_SUCH]
        number = self.train.who_has(seat, part)
        return [NOBODY if number is None else number]

    def state(self):
        train = self.train
        if train is None:
            return [NO_TRAIN]
        return [len(train.live_bookings()), len(train.bookings), train.all_changes()]


def answer_call(desk, call, numbers):
    if call == CALL_BEGIN:
        return desk.begin(numbers[0], numbers[1])
    if call == CALL_BOOK:
        return desk.book(numbers[0], numbers[1], numbers[2])
    if call == CALL_CANCEL:
        return desk.cancel(numbers[0])
    if call == CALL_ROW:
        return desk.tell_row(numbers[0])
    if call == CALL_ANEW:
        return desk.anew()
    if call == CALL_FREE:
        return desk.free(numbers[0], numbers[1])
    if call == CALL_WHO:
        return desk.who(numbers[0], numbers[1])
    return desk.state()


def answers(calls):
    """For each call of the line, in order: how many numbers are answered, then these."""
    desk = Desk()
    answered = []
    place = 0
    while place < len(calls):
        call = calls[place]
        behind = place + 1 + NUMBERS_BEHIND[call]
        answer = answer_call(desk, call, calls[place + 1:behind])
        answered.append(len(answer))
        answered.extend(answer)
        place = behind
    return answered
