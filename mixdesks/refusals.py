"""What a call raises when it refuses: the number it answers, and the numbers told with it."""


class Refusal(ValueError):
    def __init__(self, number, told):
        self.number = number
        self.told = told


class TooLong(Refusal):
    def __init__(self):
        Refusal.__init__(self, -2, [])


class Unfit(Refusal):
    def __init__(self):
        Refusal.__init__(self, -1, [])


class Missing(Refusal):
    def __init__(self):
        Refusal.__init__(self, -4, [])


class WrongCount(Refusal):
    def __init__(self):
        Refusal.__init__(self, -5, [])


class Fault(Refusal):
    def __init__(self, kind, place):
        Refusal.__init__(self, -6, [kind, place])
