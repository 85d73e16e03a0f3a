"""The sets that have names."""

NOTHING = ()
EVERY = ((0, 128),)
DIGITS = ((48, 58),)
WORD = ((48, 58), (65, 91), (95, 96), (97, 123))
WHITE = ((9, 14), (32, 33))
LINE_ENDS = ((10, 11), (13, 14))
IN_LINE = ((0, 10), (11, 13), (14, 128))
