"""The refusals: errors that bear the number with which a call answers."""


class Refusal(Exception):

    def __init__(self, number):
        self.number = number


# A text is too long, or a number in it is no byte.
class NoText(Refusal):

    def __init__(self):
        Refusal.__init__(self, -1)


# The works isn't right; line 0 stands for the works as a whole.
class WrongWorks(Refusal):

    def __init__(self, line, kind):
        Refusal.__init__(self, -1000 - (100 * line + kind))


# The recipes are told by words, so no line of theirs is named.
class WrongRecipes(WrongWorks):

    def __init__(self):
        WrongWorks.__init__(self, 0, 8)


class WrongDay(Refusal):

    def __init__(self, line, kind):
        Refusal.__init__(self, -500000 - (100 * line + kind))


# A recall asks for a lot that no line of the day tells.
class NoLot(Refusal):

    def __init__(self):
        Refusal.__init__(self, -2)
