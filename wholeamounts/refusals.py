"""What a call refuses, one error for each refusal."""


class Fault(Exception):
    """A form is faulty: by which rule, at which place in its bytes, and which of the call's forms it is."""

    def __init__(self, rule, place, which=0):
        self.rule = rule
        self.place = place
        self.which = which


class WrongNumbers(Exception):
    """Numbers were handed in that the call can't take."""


class NotThere(Exception):
    """What is asked for is not there."""


class TooGreat(Exception):
    """A number that would be told is too great."""
