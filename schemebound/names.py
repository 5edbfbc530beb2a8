"""The names under which a library keeps schemes and questions."""

MOST_CHARACTERS = 12
LETTERS = "abcdefghijklmnopqrstuvwxyz"
FIGURES = "0123456789"


def is_name(text):
    """Whether the text is a name."""
    if not 1 <= len(text) <= MOST_CHARACTERS:
        return False
    return text[0] in LETTERS and all(character in LETTERS or character in FIGURES for character in text)
