"""The errors that the program raises, each with the code that answers it."""


class Refusal(Exception):
    def __init__(self, code):
        self.code = code


class NowhereError(Refusal):
    def __init__(self):
        Refusal.__init__(self, -2)


class TakenError(Refusal):
    def __init__(self):
        Refusal.__init__(self, -17)


# kind and position are those of the first error of a notation.
class NotationError(Refusal):
    def __init__(self, kind, position):
        Refusal.__init__(self, -20)
        self.kind = kind
        self.position = position


class ChoiceError(Refusal):
    def __init__(self):
        Refusal.__init__(self, -22)


class EncodingError(Refusal):
    def __init__(self):
        Refusal.__init__(self, -24)


class NestingError(Refusal):
    def __init__(self):
        Refusal.__init__(self, -28)


class EditsError(Refusal):
    def __init__(self):
        Refusal.__init__(self, -29)


class MisfitError(Refusal):
    def __init__(self):
        Refusal.__init__(self, -33)
