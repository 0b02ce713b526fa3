"""Tests of any object, which the other modules share. They return True or False and raise nothing."""


def is_whole(thing, low, high):
    """Tell whether the object is an integer from low to high."""
    # A bool is an int to Python, but the document lets none stand for an integer.
    return isinstance(thing, int) and not isinstance(thing, bool) and low <= thing <= high


def is_word(thing, words):
    """Tell whether the object is one of the words."""
    # An object that is no text is never compared: its own way to compare might raise something.
    return isinstance(thing, str) and thing in words


def is_row(thing, low, high):
    """Tell whether the object is a tuple with low to high entries."""
    return isinstance(thing, tuple) and low <= len(thing) <= high


def is_plain(thing, levels):
    """Tell whether the object is an integer, a text, or a tuple of such, nested at most so many levels."""
    # Such an object can be compared and looked up, and what is equal to it has no True in the place of a 1.
    if isinstance(thing, tuple):
        return levels > 0 and all([is_plain(part, levels - 1) for part in thing])
    return isinstance(thing, (int, str)) and not isinstance(thing, bool)
