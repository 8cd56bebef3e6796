"""The bytes that mean something in a text or in a line."""

LINE_FEED = 10
SPACE = 32
QUOTE = 34
NUMBER_SIGN = 35
STAR = 42
PLUS = 43
MINUS = 45
ZERO = 48
NINE = 57
EQUALS_SIGN = 61
BACKSLASH = 92
BAR = 124
TILDE = 126
