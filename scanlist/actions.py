"""What each instruction does: a step of the program, done to the machine."""

from scanlist.counters import count_up, reset
from scanlist.errors import WrongKind
from scanlist.machine import show_counter, show_timer
from scanlist.operations import work_out
from scanlist.results import bit_of, word_of
from scanlist.timers import use_timer


def load(machine, step):
    machine.result = step.cells[step.index]


def load_other(machine, step):
    machine.result = not step.cells[step.index]


def store_bit(machine, step):
    step.cells[step.index] = bit_of(machine.result)


def store_other(machine, step):
    step.cells[step.index] = not bit_of(machine.result)


def store_word(machine, step):
    step.cells[step.index] = word_of(machine.result)


def set_bit(machine, step):
    if bit_of(machine.result):
        step.cells[step.index] = True


def clear_bit(machine, step):
    if bit_of(machine.result):
        step.cells[step.index] = False


def turn(machine, step):
    machine.result = not bit_of(machine.result)


def operate(machine, step):
    machine.result = work_out(step.name, machine.result, step.cells[step.index])


# Of what kind the result is, matters only where the parenthesis is closed.
def put_off(machine, step):
    if machine.result is None:
        raise WrongKind()
    machine.put_by.append((step.name, machine.result))
    machine.result = step.cells[step.index]


def close(machine, step):
    held = machine.put_by.pop()
    machine.result = work_out(held[0], held[1], machine.result)


def go_on(machine, step):
    machine.at = step.target


def go_on_if(machine, step):
    if bit_of(machine.result):
        machine.at = step.target


def go_on_unless(machine, step):
    if not bit_of(machine.result):
        machine.at = step.target


def run_timer(machine, step):
    timer = machine.timers[step.index]
    use_timer(timer, step.name, bit_of(machine.result), step.limit, machine.now)
    show_timer(machine, step.index)
    machine.result = timer.bit


def run_counter(machine, step):
    counter = machine.counters[step.index]
    count_up(counter, bit_of(machine.result), step.limit)
    show_counter(machine, step.index)
    machine.result = counter.bit


def reset_counter(machine, step):
    if bit_of(machine.result):
        reset(machine.counters[step.index])
        show_counter(machine, step.index)


def rise(machine, step):
    on = bit_of(machine.result)
    machine.result = on and not step.cells[step.index]
    step.cells[step.index] = on


def fall(machine, step):
    on = bit_of(machine.result)
    machine.result = not on and step.cells[step.index]
    step.cells[step.index] = on


# Every other instruction is an operation.
ACTIONS = {
    "LD": load,
    "LDN": load_other,
    "ST": store_bit,
    "STN": store_other,
    "S": set_bit,
    "R": clear_bit,
    "NOT": turn,
    ")": close,
    "JMP": go_on,
    "JMPC": go_on_if,
    "JMPCN": go_on_unless,
    "RET": go_on,
    "RETC": go_on_if,
    "TON": run_timer,
    "TOF": run_timer,
    "TP": run_timer,
    "CTU": run_counter,
    "RC": reset_counter,
    "UP": rise,
    "DOWN": fall,
}


def action_of(line):
    if line.opens:
        return put_off
    if line.name == "ST" and line.operands[0][0] == "W":
        return store_word
    return ACTIONS.get(line.name, operate)
