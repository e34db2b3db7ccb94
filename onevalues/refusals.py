"""What is refused of values that are right, each with its answer."""


class Refusal(Exception):
    def __init__(self, answer):
        self.answer = answer


class NoPath(Refusal):
    def __init__(self):
        Refusal.__init__(self, [-5])


# So many of the path's steps lead somewhere.
class LeadsNowhere(Refusal):
    def __init__(self, leading):
        Refusal.__init__(self, [-4, leading])


class NoValue(Refusal):
    def __init__(self):
        Refusal.__init__(self, [-9])


# The patch's member of this number is no step; 0, if it is no list.
class NoStep(Refusal):
    def __init__(self, number):
        Refusal.__init__(self, [-5, number])


# The patch's step of this number leads nowhere.
class StepLeadsNowhere(Refusal):
    def __init__(self, number):
        Refusal.__init__(self, [-4, number])


# What would come of the patch's step of this number would be no value.
class StepMakesNoValue(Refusal):
    def __init__(self, number):
        Refusal.__init__(self, [-9, number])


class NoNumber(Refusal):
    def __init__(self):
        Refusal.__init__(self, [-5])


# There is no such quotient, power or root.
class NoResult(Refusal):
    def __init__(self):
        Refusal.__init__(self, [-4])


class OutOfRange(Refusal):
    def __init__(self):
        Refusal.__init__(self, [-9])


# The first fault of a book of forms is at this place.
class WrongBook(Refusal):
    def __init__(self, place):
        Refusal.__init__(self, [-5, place])
