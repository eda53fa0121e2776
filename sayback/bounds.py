"""The bounds that the lexicon, the joins and their texts keep to."""

MOST_BYTES = 65536
MOST_WORDS = 128
MOST_CHARACTERS = 32
MOST_SORT = 255
MOST_COST = 65535
