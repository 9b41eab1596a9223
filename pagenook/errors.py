"""The refusals of deeds: each bears the text that a refused deed is answered with."""


class Refusal(Exception):
    def __init__(self, answer):
        self.answer = answer


class NoPage(Refusal):
    def __init__(self):
        Refusal.__init__(self, "no page")


class NoName(Refusal):
    def __init__(self):
        Refusal.__init__(self, "no name")


class SamePage(Refusal):
    def __init__(self):
        Refusal.__init__(self, "same page")


class Taken(Refusal):
    def __init__(self):
        Refusal.__init__(self, "taken")


class NoPlace(Refusal):
    def __init__(self):
        Refusal.__init__(self, "no place")


class NoWords(Refusal):
    def __init__(self):
        Refusal.__init__(self, "no words")
