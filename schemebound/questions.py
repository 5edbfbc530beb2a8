"""The sorts of questions that a library keeps."""

# The fewest and the most numbers that a question of each sort is about.
NUMBERS_ASKED = {"points": (0, 0), "kind": (2, 2), "greatest": (0, 6), "bound": (0, 6)}


def is_question(asked, many):
    """Whether there are questions of this sort about so many numbers."""
    if asked not in NUMBERS_ASKED:
        return False
    fewest, most = NUMBERS_ASKED[asked]
    return fewest <= many <= most
