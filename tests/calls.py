"""Limits how deep calls may go, for tests of what must not be done by deep recursion."""

import contextlib
import sys


@contextlib.contextmanager
def few_calls(most):
    """Allow only so many calls within each other, beside those that are open already."""
    depth = 0
    frame = sys._getframe()
    while frame is not None:
        frame = frame.f_back
        depth += 1
    limit = sys.getrecursionlimit()
    sys.setrecursionlimit(depth + most)
    try:
        yield
    finally:
        sys.setrecursionlimit(limit)
