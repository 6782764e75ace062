"""Words of texts."""

MAX_DIGITS = 40


def read_number(word):
    """The number that a word writes, or `None`: 0, or up to forty digits and no zero ahead."""
    if not word.isascii() or not word.isdigit() or len(word) > MAX_DIGITS:
        return None
    return None if len(word) > 1 and word.startswith("0") else int(word)
