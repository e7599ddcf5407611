"""Timers: each is one, whatever instructions use it."""


class Timer:
    def __init__(self):
        self.was_on = False
        self.since = 0
        self.has_run = False
        # What the program sees as E and T.
        self.elapsed = 0
        self.bit = False


def use_timer(timer, name, on, limit, now):
    if name == "TON":
        delay_on(timer, on, limit, now)
    elif name == "TOF":
        delay_off(timer, on, limit, now)
    else:
        pulse(timer, on, limit, now)
    timer.was_on = on


def delay_on(timer, on, limit, now):
    if not on:
        timer.elapsed = 0
        timer.bit = False
        return
    if not timer.was_on:
        timer.since = now
    timer.elapsed = min(now - timer.since, limit)
    timer.bit = timer.elapsed == limit


def delay_off(timer, on, limit, now):
    if on:
        timer.has_run = True
        timer.elapsed = 0
        timer.bit = True
        return
    if timer.was_on:
        timer.since = now
    timer.elapsed = min(now - timer.since, limit) if timer.has_run else 0
    timer.bit = timer.has_run and timer.elapsed < limit


def pulse(timer, on, limit, now):
    begins = on and not timer.was_on and not timer.bit
    if begins:
        timer.since = now
    if begins or timer.bit:
        timer.elapsed = min(now - timer.since, limit)
        timer.bit = timer.elapsed < limit
    timer.has_run = timer.bit
    # A time that is over is still shown while the result is 1.
    if not timer.bit and not on:
        timer.elapsed = 0
