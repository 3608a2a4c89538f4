"""What several tests use."""

import random


def error_of(call, *args, **named):
    """Return the class of the error that a call raises, or None if it raises none."""
    try:
        call(*args, **named)
    except ValueError as error:
        return type(error)
    return None


def dice(seed):
    """Return a source of numbers that gives the same ones in each run."""
    return random.Random(seed)


def far_numbers(source, many=40):
    """Return numbers that are not negative and have up to 60 figures."""
    return [source.randrange(10 ** source.randrange(1, 61)) for _ in range(many)]


EDGE_NUMBERS = [0, 1, 2, 126, 127, 128, 129, 255, 256, 16383, 16384, 16385, 2097151, 2097152,
                10 ** 18 - 1, 10 ** 18, 2 ** 63, 10 ** 59, 10 ** 60 - 1]
