"""How the tests ask whether answers come in a short time: far less than this bound, on any machine."""

import contextlib
import time

BOUND = 20


class Soon:

    @contextlib.contextmanager
    def soon(self):
        begin = time.monotonic()
        yield
        self.assertLess(time.monotonic() - begin, BOUND)
