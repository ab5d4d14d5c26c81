"""The signs that durations are written by."""

# Each sign is its number, its dots and its length in ticks. The longest comes first, because of rows that are
# equally short the one with the longer sign ahead is wanted.
SIGNS = (
    (0, 2, 224), (0, 1, 192), (0, 0, 128),
    (1, 2, 112), (1, 1, 96), (1, 0, 64),
    (2, 2, 56), (2, 1, 48), (2, 0, 32),
    (3, 2, 28), (3, 1, 24), (3, 0, 16),
    (4, 2, 14), (4, 1, 12), (4, 0, 8),
    (5, 2, 7), (5, 1, 6), (5, 0, 4),
    (6, 1, 3), (6, 0, 2),
    (7, 0, 1),
)
