"""Summaries of measurements, and how they are told as twelve numbers."""

# Told where a value is missing: -2^63, which no value can be.
NO_VALUE = -9223372036854775808

# 2^62: the greatest time and value, and what a sum is told by.
GREATEST = 4611686018427387904


class Summary:
    """The summary of measurements that were taken in one behind another."""

    def __init__(self):
        self.many = 0
        self.nones = 0
        self.least = NO_VALUE
        self.greatest = NO_VALUE
        self.total = 0
        self.first_time = 0
        self.first_value = NO_VALUE
        self.last_time = 0
        self.last_value = NO_VALUE
        self.marks = 0

    def with_value(self):
        return self.many - self.nones

    def take_in(self, later):
        """Take in the summary of measurements that come behind these."""
        if later.with_value() > 0:
            self.take_in_values(later)
        self.many += later.many
        self.nones += later.nones
        self.marks = self.marks | later.marks

    def take_in_values(self, later):
        if self.with_value() == 0:
            self.least = later.least
            self.greatest = later.greatest
            self.first_time = later.first_time
            self.first_value = later.first_value
        else:
            self.least = min(self.least, later.least)
            self.greatest = max(self.greatest, later.greatest)
        self.total += later.total
        self.last_time = later.last_time
        self.last_value = later.last_value

    def mean(self):
        if self.with_value() == 0:
            return NO_VALUE
        return nearest(self.total, self.with_value())

    def told(self):
        return [
            self.many, self.nones, self.least, self.greatest,
            self.total // GREATEST, self.total % GREATEST, self.mean(),
            self.first_time, self.first_value,
            self.last_time, self.last_value, self.marks,
        ]


def summary_of_one(time, value, marks):
    """The summary of a single measurement."""
    one = Summary()
    one.many = 1
    one.marks = marks
    if value == NO_VALUE:
        one.nones = 1
        return one
    one.least = value
    one.greatest = value
    one.total = value
    one.first_time = time
    one.first_value = value
    one.last_time = time
    one.last_value = value
    return one


def nearest(total, parts):
    """total by parts, to the nearest whole number, of two as near away from 0."""
    # Rounding goes by the amount alone, so that it's the same on both sides of 0.
    amount = (2 * abs(total) + parts) // (2 * parts)
    if total < 0:
        return -amount
    return amount
