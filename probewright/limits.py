"""The numbers that the program does not go beyond (point 102)."""

# characters of a name
MOST_NAME = 12

# pins of a gate
MOST_PINS = 4

# lines of a circuit
MOST_LINES = 400

# sources of a circuit
MOST_SOURCES = 40

# patterns of a tester program
MOST_PATTERNS = 1000

# bits of a signature
MOST_WIDTH = 64
