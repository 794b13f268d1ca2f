"""Which values are tangles that tie a space."""

from ropesays.errors import Misfit
from ropesays.fairs import is_fair
from ropesays.tangles import Tangle
from ropesays.through import through


def shows_tied(space, value):
    """Whether a value is a Tangle that ties a fair space, of however many crossings, with opens or without."""
    if not is_fair(space):
        raise Misfit("space")
    return isinstance(value, Tangle) and through(value, space.clock) == space
