"""Taps: for how long a key was down, up, down, .."""

from keyedtime.errors import BadTaps

MOST_TIMES = 25
SHORTEST = 1
LONGEST = 9999


def check_times(times):
    """Refuse with BadTaps what are no times of taps."""
    many = len(times)
    if many > MOST_TIMES or many % 2 == 0:
        raise BadTaps(0, "many")
    for at, time in enumerate(times):
        if not SHORTEST <= time <= LONGEST:
            raise BadTaps(at, "time")


class Taps:
    """Times, numbered from 0: at even numbers the key is down, at odd ones up."""

    def __init__(self, times):
        check_times(times)
        self._times = list(times)

    def times(self):
        """Tell the times, in a list that may be changed."""
        return list(self._times)
