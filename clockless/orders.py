"""The order of numbers."""


def is_ascending(numbers):
    """Whether each number is greater than the one before it."""
    return all([first < second for first, second in zip(numbers, numbers[1:])])
