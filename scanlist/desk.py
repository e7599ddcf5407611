"""The program's calls: whole numbers and lists in, a list of whole numbers out."""

from scanlist.errors import NotAProgram
from scanlist.program import read_program
from scanlist.scans import do_scans

SCAN_LIMIT = 65536


def check(text):
    try:
        read_program(text)
    except NotAProgram as refusal:
        return [-1, refusal.line]
    return [0]


def run(text, inputs, times, words):
    try:
        lines = read_program(text)
    except NotAProgram:
        return answer_of(-1, [], words, [])
    if len(times) > SCAN_LIMIT or times_fall(times):
        return answer_of(-2, [], words, [])
    done = do_scans(lines, inputs, times, words)
    return answer_of(0, done[0], done[1], done[2])


def times_fall(times):
    return any([before > after for before, after in zip(times, times[1:])])


def answer_of(number, outputs, words, ending):
    answer = [number]
    for part in (outputs, words, ending):
        answer.append(len(part))
        answer.extend(part)
    return answer
