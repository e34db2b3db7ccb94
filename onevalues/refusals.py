"""What is refused of values that are right, each with its answer."""


class Refusal(Exception):
    def __init__(self, answer):
        self.answer = answer


class NoPath(Refusal):
    def __init__(self):
        Refusal.__init__(self, [-5])


# So many of the path's steps lead somewhere.
class LeadsNowhere(Refusal):
    def __init__(self, leading):
        Refusal.__init__(self, [-4, leading])


class NoValue(Refusal):
    def __init__(self):
        Refusal.__init__(self, [-9])
