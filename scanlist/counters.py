"""Counters."""

from scanlist.results import one_more


class Counter:
    def __init__(self):
        self.was_on = False
        # What the program sees as V and C.
        self.counted = 0
        self.bit = False


def count_up(counter, on, limit):
    if on and not counter.was_on:
        counter.counted = one_more(counter.counted)
    counter.was_on = on
    counter.bit = counter.counted >= limit


# What the result was at the last CTU stays: a reset is no CTU.
def reset(counter):
    counter.counted = 0
    counter.bit = False
