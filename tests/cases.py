"""What several tests ask: that something is refused, that nothing is changed, that it does not take long."""

import contextlib
import copy
import signal
import unittest

# A few seconds on a slow machine; what the package does takes far less.
SECONDS = 10


class Case(unittest.TestCase):
    def assert_refused(self, error, function, *things, **named):
        """Assert that just this error is raised, and return it; what was passed stays as it was."""
        ahead = copy.deepcopy((things, named))
        with self.assertRaises(error) as caught:
            function(*things, **named)
        self.assertIs(type(caught.exception), error)
        self.assertEqual((things, named), ahead)
        return caught.exception

    def assert_told(self, right, function, *things):
        """Assert that just this is returned; what was passed stays as it was."""
        ahead = copy.deepcopy(things)
        self.assertIs(function(*things), right, (function.__name__, things))
        self.assertEqual(things, ahead)

    def assert_new_list(self, function, *things):
        """Assert that a list of tuples is returned, a new one each time."""
        first = function(*things)
        kept = list(first)
        self.assertIs(type(first), list)
        self.assertEqual({type(row) for row in first} - {tuple}, set())
        first.append(None)
        self.assertEqual(function(*things), kept)

    @contextlib.contextmanager
    def within(self, seconds=SECONDS):
        """Fail if the rows below last longer; they are ended then."""
        def late(number, frame):
            raise AssertionError(f"this lasts longer than {seconds} seconds")

        ahead = signal.signal(signal.SIGALRM, late)
        signal.setitimer(signal.ITIMER_REAL, seconds)
        try:
            yield
        finally:
            signal.setitimer(signal.ITIMER_REAL, 0)
            signal.signal(signal.SIGALRM, ahead)
