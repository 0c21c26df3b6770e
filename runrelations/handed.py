"""What is handed in: the numbers of calls, and the rows among them."""

MOST_HANDED = 8
GREATEST_HANDED = 99


class Handed:
    """Goes through the numbers that calls are handed in as; they stay as they are."""

    def __init__(self, numbers):
        self.numbers = numbers
        self.past = 0

    def is_left(self):
        """Whether there are numbers that aren't taken yet."""
        return self.past < len(self.numbers)

    def take_number(self):
        """The next number."""
        number = self.numbers[self.past]
        self.past += 1
        return number

    def take_list(self):
        """The next list, which has its length ahead of it."""
        length = self.take_number()
        start = self.past
        self.past += length
        return self.numbers[start:self.past]


def row_handed(numbers):
    """The row that a list is, its length ahead of it; None if the list isn't whole a row that may be handed in."""
    if len(numbers) == 0 or numbers[0] != len(numbers) - 1 or numbers[0] > MOST_HANDED:
        return None
    row = numbers[1:]
    if any([abs(one) > GREATEST_HANDED for one in row]):
        return None
    return row
