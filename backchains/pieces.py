"""Lists in which what is told stands one behind the other, each its kind and then its numbers."""


def cut(numbers, lengths):
    """Each piece as a tuple, or None if a kind isn't known or a number is missing.

    The lengths tell, by its kind, how many numbers a piece has, the kind among them.
    """
    pieces = []
    place = 0
    while place < len(numbers):
        kind = numbers[place]
        if kind < 0 or kind >= len(lengths):
            return None
        behind = place + lengths[kind]
        if behind > len(numbers):
            return None
        pieces.append(tuple(numbers[place:behind]))
        place = behind
    return pieces
