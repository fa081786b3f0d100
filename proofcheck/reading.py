"""The calls as they are told in one list of whole numbers."""


class Call:
    """Which call it is, the whole numbers it has, and the lists it has."""

    def __init__(self, number, numbers, lists):
        self.number = number
        self.numbers = numbers
        self.lists = lists


def counted(told, at):
    """The numbers of which there are as many as the one at this place says."""
    return told[at + 1:at + 1 + told[at]]


def read_calls(told):
    calls = []
    at = 0
    while at < len(told):
        number = told[at]
        numbers = counted(told, at + 1)
        at += 2 + len(numbers)
        lists = []
        left = told[at]
        at += 1
        while left > 0:
            lists.append(counted(told, at))
            at += 1 + told[at]
            left -= 1
        calls.append(Call(number, numbers, lists))
    return calls
