"""Reading sources as patterns and sets."""

from firstway.errors import FlagsError, NotASet
from firstway.notation.builder import build
from firstway.notation.tokens import read_tokens

FLAGS = ("", "i", "m", "s", "im", "is", "ms", "ims")


def read_pattern(source, flags):
    """The tree of a source and the tuple of the names of its groups."""
    if flags not in FLAGS:
        raise FlagsError("the flags are none of those that are known")
    return build(read_tokens(source, flags))


def read_set(source):
    """The set of a source that is a set alone."""
    tree, _ = read_pattern(source, "")
    if tree[0] != "set":
        raise NotASet("the source is a pattern, but no set alone")
    return tree[1]
