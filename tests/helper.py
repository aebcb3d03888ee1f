"""What several tests need: parts by their texts, and a refusal to look at."""

from leadersplice.errors import SpliceError
from leadersplice.listtexts import read_list


def parts_of(**texts):
    return {name: read_list(text) for name, text in texts.items()}


def refusal_of(call, *things):
    """The refusal as a tuple of its class's name and its fields, None where there is none."""
    try:
        call(*things)
    except SpliceError as error:
        return (type(error).__name__,) + tuple(vars(error).values())
    return None
