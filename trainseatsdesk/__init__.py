"""A train's seats, booked for parts of its way."""
