"""The state of one shop: its machines and its moulds."""


class Instance:
    """Two lists of ratings; a rating is a tuple of clamp force and platen size."""

    def __init__(self):
        self.machines = []
        self.moulds = []


def is_index(ratings, index):
    """True if a rating stands at the index, counted from the front."""
    return 0 <= index < len(ratings)
