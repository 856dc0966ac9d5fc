"""The refusals, one error class for each number that is answered instead."""


class Refusal(Exception):
    def __init__(self, answer):
        self.answer = answer


class CannotBe(Refusal):
    def __init__(self):
        Refusal.__init__(self, -1)


class NoSuchLayer(Refusal):
    def __init__(self):
        Refusal.__init__(self, -2)


class NotSoTold(Refusal):
    def __init__(self):
        Refusal.__init__(self, -3)


class TooMany(Refusal):
    def __init__(self):
        Refusal.__init__(self, -5)


class NotNow(Refusal):
    def __init__(self):
        Refusal.__init__(self, -6)
