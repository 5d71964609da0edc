"""The refusals: one error for each, with the text that answers the deed."""


class Refusal(Exception):
    def __init__(self, text):
        Exception.__init__(self, text)
        self.text = text


class NoKeeping(Refusal):
    def __init__(self):
        Refusal.__init__(self, "no keeping")


class NoShow(Refusal):
    def __init__(self):
        Refusal.__init__(self, "no show")


class NoPlaces(Refusal):
    def __init__(self):
        Refusal.__init__(self, "no places")


class TooMany(Refusal):
    def __init__(self):
        Refusal.__init__(self, "too many")


class NoSpan(Refusal):
    def __init__(self):
        Refusal.__init__(self, "no span")


class NotHeld(Refusal):
    def __init__(self):
        Refusal.__init__(self, "not held")


class SameShow(Refusal):
    def __init__(self):
        Refusal.__init__(self, "same show")


class Full(Refusal):
    def __init__(self):
        Refusal.__init__(self, "full")


class TooEarly(Refusal):
    def __init__(self):
        Refusal.__init__(self, "too early")
