"""How many there are of each thing, and what the numbers of a way mean."""

LINES = 8
ENDS = 32

NO_WAY = -1
HERE = 8

FIRST_LABEL = 16
LAST_LABEL = 1039

MOST_FRAMES = 256
MOST_FRAMES_FOR_A_PACKET = 128
MOST_LEAVING = 64
LONGEST_FRAME = 1504
