"""What reading a program may be refused with."""


class Unreadable(Exception):
    pass


class NotAProgram(Exception):
    def __init__(self, line):
        self.line = line
