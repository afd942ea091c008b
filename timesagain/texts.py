"""Texts: strings of items with single blanks between."""

from timesagain.checks import DIGITS
from timesagain.errors import BadText

LONGEST_NUMBER = 60
# In texts a name stands behind "of", so that two parts are behind each of these.
PAIRED = ("of", "to", ">")


def text_items(text):
    """The items of a text."""
    if not isinstance(text, str):
        raise BadText(0, 0)
    return text.split(" ")


def is_number_text(item):
    """Whether an item is a number as a text tells it."""
    if item == "" or len(item) > LONGEST_NUMBER:
        return False
    if item[0] == "0" and item != "0":
        return False
    return all([sign in DIGITS for sign in item])


def read_items(text, can_stand):
    """The items of the text of one writing or kind.

    can_stand(item, ahead) tells whether an item can stand behind the one just ahead of it, "" for none.
    """
    items = text_items(text)
    missing = 1
    ahead = ""
    for at, item in enumerate(items):
        if missing == 0 or not can_stand(item, ahead):
            raise BadText(0, at)
        missing += 1 if item in PAIRED else -1
        ahead = item
    if missing > 0:
        raise BadText(0, len(items))
    return items
