"""The errors that the program raises."""


class NotationError(Exception):
    def __init__(self, kind, position):
        self.kind = kind
        self.position = position
