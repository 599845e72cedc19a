"""A bound on how long a test may wait."""

import signal


def within(seconds, deed):
    """What a deed gives; a failure where it isn't done by then, also where it never would be."""
    def stop(number, frame):
        raise AssertionError(f"not done within {seconds} seconds")

    before = signal.signal(signal.SIGALRM, stop)
    signal.setitimer(signal.ITIMER_REAL, seconds)
    try:
        return deed()
    finally:
        signal.setitimer(signal.ITIMER_REAL, 0)
        signal.signal(signal.SIGALRM, before)
