"""The kinds of what is told, and how much is told of two sets."""

KIND_LIKELIER = 0
KIND_NO_LESS = 1
KIND_AS_LIKELY = 2

NOTHING = 0
NO_LESS = 1
LIKELIER = 2
