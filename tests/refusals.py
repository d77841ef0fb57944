"""What the tests of several files ask of refusals."""

from bornroots.errors import Refused

OFF = ("Off", None)


def refusal(call, *given, **named):
    """(name of the error, its what) of a call that is refused."""
    try:
        call(*given, **named)
    except Refused as error:
        return (error.__class__.__name__, error.what)
    return None


class Text(str):
    """A text that tells whether it is the very one that was handed in."""
