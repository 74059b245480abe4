"""The objects of one program, by their numbers."""

DISPLAY = 1
LEAST_GIVEN = 2
GREATEST_GIVEN = 4278190079
MOST_OBJECTS = 512


class Objects:
    """The objects of one program, with the display from the beginning."""

    def __init__(self):
        self._interfaces = {DISPLAY: "display"}
        self._next_made = GREATEST_GIVEN + 1

    def interface_of(self, number):
        """Return the name of the interface of an object, or None if there is none."""
        return self._interfaces.get(number)

    def numbers(self):
        """Return all numbers, in the order in which the objects were made."""
        return list(self._interfaces)

    def may_give(self, number):
        """Tell whether a program may give this number to a new object now."""
        return LEAST_GIVEN <= number <= GREATEST_GIVEN and number not in self._interfaces

    def is_full(self):
        """Tell whether the program can make no more objects."""
        return len(self._interfaces) >= MOST_OBJECTS

    def give(self, number, interface):
        """Make an object with a number that a program may give."""
        self._interfaces[number] = interface

    def make(self, interface):
        """Make an object of the server, and return its number."""
        number = self._next_made
        self._next_made += 1
        self._interfaces[number] = interface
        return number

    def end(self, number):
        """End an object, and tell whether the program must be told that it is removed."""
        del self._interfaces[number]
        return number <= GREATEST_GIVEN
