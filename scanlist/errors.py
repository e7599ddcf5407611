"""What reading a program may be refused with, and what may end a run."""


class Unreadable(Exception):
    pass


class NotAProgram(Exception):
    def __init__(self, line):
        self.line = line


# What an instruction may fail with, whatever line it stands at.
class Fault(Exception):
    def __init__(self, number):
        self.number = number


class WrongKind(Fault):
    def __init__(self):
        Fault.__init__(self, 1)


class WordOutOfRange(Fault):
    def __init__(self):
        Fault.__init__(self, 2)


class DivisorZero(Fault):
    def __init__(self):
        Fault.__init__(self, 3)


class ScanTooLong(Fault):
    def __init__(self):
        Fault.__init__(self, 4)


class Stopped(Exception):
    def __init__(self, number, line):
        self.number = number
        self.line = line
