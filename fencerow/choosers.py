"""Choosers, which are handed the choices that can be done and the state, and tell one of them; and runs by them."""

from fencerow.led import Led


def first_chooser():
    """A chooser that tells the least choice."""
    return lambda choices, state: min(choices)


def last_chooser():
    """A chooser that tells the greatest choice."""
    return lambda choices, state: max(choices)


def numbers_chooser(numbers):
    """A chooser that goes by the numbers, one at each asking, from the first on again behind the last."""
    picker = Picker(numbers)
    return lambda choices, state: picker.picked(choices)


def turns_chooser():
    """A chooser that goes by the threads round about, a row ahead of an out."""
    round_about = RoundAbout()
    return lambda choices, state: round_about.picked(choices)


class Picker:
    """Picks by one number behind the other."""

    def __init__(self, numbers):
        # A copy: the list may be changed by whoever handed it in.
        self.numbers = list(numbers)
        self.asked = 0

    def picked(self, choices):
        """The choice that has the place among them that the next number tells."""
        number = self.numbers[self.asked % len(self.numbers)]
        self.asked = self.asked + 1
        return choices[number % len(choices)]


class RoundAbout:
    """Picks by one thread behind the other."""

    def __init__(self):
        # The thread of the choice that was picked last; at first all threads are behind it.
        self.last = -1

    def picked(self, choices):
        """The first choice of the first thread behind the last one."""
        choice = min(choices, key=lambda one: (one // 2 <= self.last, one))
        self.last = choice // 2
        return choice


def run(program, chooser, waits=True):
    """The way that comes by the chooser until nothing can be done; BadChoice by what is none of the choices."""
    led = Led(program, waits)
    while led.can() != []:
        led.go(chooser(led.can(), led.state()))
    return led.way()
