"""Requests: lists of whole numbers that hold calls one behind another."""

# For the number of each call, how many whole numbers it takes before its list.
INTEGER_COUNTS = {
    0: 1, 1: 0, 2: 1, 3: 1, 4: 1, 5: 0, 6: 1, 7: 2, 8: 3,
    9: 1, 10: 2, 11: 1, 12: 2, 13: 2, 14: 0, 15: 0, 16: 1,
}

# The numbers of the calls that take a list.
LIST_CALLS = (0, 1, 2, 3, 4, 5, 9, 14)


class Call:
    """The number of a call, its whole numbers, and its list, which is empty if it takes none."""

    def __init__(self, number, integers, listed):
        self.number = number
        self.integers = integers
        self.listed = listed


def split_into_calls(numbers):
    """Give the calls that a request holds."""
    calls = []
    place = 0
    while place < len(numbers):
        number = numbers[place]
        start = place + 1
        place = start + INTEGER_COUNTS[number]
        integers = numbers[start:place]
        listed = []
        if number in LIST_CALLS:
            start = place + 1
            place = start + numbers[place]
            listed = numbers[start:place]
        calls.append(Call(number, integers, listed))
    return calls
