"""The bytes that mean something within a directive, by their ASCII numbers."""

PERCENT = 37
DOLLAR = 36
STAR = 42
POINT = 46

MINUS = 45
PLUS = 43
BLANK = 32
ZERO = 48
HASH = 35
FLAGS = (45, 43, 32, 48, 35)

NINE = 57

LITTLE_A = 97
BIG_A = 65

LETTER_O = 111
LETTER_BIG_X = 88
LETTER_C = 99
LETTER_S = 115

# d i
SIGNED = (100, 105)
# u o x X
UNSIGNED = (117, 111, 120, 88)
# o x X
BASED = (111, 120, 88)
# d i u o x X
NUMERIC = (100, 105, 117, 111, 120, 88)
# d i u o x X c s
CONVERSIONS = (100, 105, 117, 111, 120, 88, 99, 115)

LENGTHS = {104: "h", 108: "l", 106: "j", 122: "z"}
DOUBLED_LENGTHS = ("h", "l")
LONG_LENGTHS = ("l", "ll", "j", "z")
