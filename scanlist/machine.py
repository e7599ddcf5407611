"""What a controller keeps from scan to scan, and how far it is in one."""

from scanlist.counters import Counter
from scanlist.operands import size_of
from scanlist.timers import Timer


class Machine:
    def __init__(self, words):
        self.cells = new_cells(words)
        self.timers = [Timer() for number in range(size_of("T"))]
        self.counters = [Counter() for number in range(size_of("C"))]
        self.now = 0
        self.result = None
        # The results that are put by, each with its operation's name.
        self.put_by = []
        # Which step is the next one.
        self.at = 0


# A list a kind, of what its bits or words are.
def new_cells(words):
    cells = {"constant": [False, True], "W": list(words)}
    for kind in ("I", "Q", "M", "T", "C"):
        cells[kind] = [False] * size_of(kind)
    for kind in ("E", "V"):
        cells[kind] = [0] * size_of(kind)
    return cells


# Nothing is put by here: no jump leads into parentheses or out of them.
def begin_scan(machine, bits, now):
    inputs = machine.cells["I"]
    for number in range(size_of("I")):
        inputs[number] = (bits >> number) & 1 == 1
    machine.now = now
    machine.result = None
    machine.at = 0


def output_of(machine):
    bits = 0
    for bit in reversed(machine.cells["Q"]):
        bits = bits * 2 + (1 if bit else 0)
    return bits


def words_of(machine):
    return list(machine.cells["W"])


def show_timer(machine, number):
    timer = machine.timers[number]
    machine.cells["E"][number] = timer.elapsed
    machine.cells["T"][number] = timer.bit


def show_counter(machine, number):
    counter = machine.counters[number]
    machine.cells["V"][number] = counter.counted
    machine.cells["C"][number] = counter.bit
