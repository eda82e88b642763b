"""The numbers by which a book names properties, maps, sequences and their values."""

# The parts of a book that are read record by record.
PROPERTIES = 0
MAPS = 1
SEQUENCES = 2

# Properties.
COMBINING = 0
GENERAL = 1
CLUSTER = 2
CONJUNCT = 3
LINE = 6
WIDTH = 7
DIRECTION = 8
BRACKET = 9
SCRIPT = 10
DIGIT = 11
FLAGS = 13

# Maps.
CANONICAL = 0
COMPATIBILITY = 1
UPPER = 2
LOWER = 3
TITLE = 4
FOLD = 5
SIMPLE_FOLD = 6
MIRROR = 7
PARTNER = 8
PROTOTYPE = 9
EXTENSIONS = 10
WEIGHTS = 11

# Sequences.
CONTRACTIONS = 0
WORDS = 1
WHOLES = 2

# General classes.
CN = 0
MN = 6
MC = 7
ME = 8
PI = 16
PF = 17
CC = 26
CF = 27

# Conjunct classes.
LINKER = 1
CONSONANT = 2
CONJUNCT_EXTEND = 3

# Widths.
AMBIGUOUS = 1
HALF = 2
WIDE = 3
FULL = 4

# The direction of a bracket.
NEUTRAL = 13

# Flags, by bit.
UPPERCASE = 0
LOWERCASE = 1
CASED = 2
ID_START = 7
ID_PART = 8
IGNORABLE = 11
PICTOGRAPHIC = 12
MIRRORED = 13
NEVER_COMPOSED = 15
SPARE = 16
