"""What can be wrong with a zone's text, one error class each."""


class NotAsTold(Exception):
    pass


class LineFault(Exception):
    def __init__(self, line):
        self.line = line


class NotServed(Exception):
    pass
