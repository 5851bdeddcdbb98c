"""Reading a list of whole numbers from its beginning to its end."""


class Reader:
    """A list and how far it has been read; the list itself stays as it is."""

    def __init__(self, numbers):
        self.numbers = numbers
        self.position = 0

    def has_more(self):
        """Tell whether something is left to be read."""
        return self.position < len(self.numbers)

    def take(self):
        """Read one number."""
        number = self.numbers[self.position]
        self.position += 1
        return number

    def take_row(self):
        """Read a row, before which stands how many numbers it has."""
        length = self.take()
        end = self.position + length
        row = self.numbers[self.position:end]
        self.position = end
        return row
