"""The bounds that the lexicon, the joins, their texts and the texts to read keep to."""

MOST_BYTES = 65536
MOST_WORDS = 128
MOST_CHARACTERS = 32
MOST_SORT = 255
MOST_COST = 65535
MOST_SIGNS = 24
MOST_WAYS = 1024
