"""The texts of tables."""

from timesagain.errors import BadText
from timesagain.polynomials import choices, is_term
from timesagain.texts import is_number_text, text_items

MARK = ":"
BETWEEN = "/"
NONE = "0"
MANIES = ("0", "1", "2", "3")


def table_items(many, rows):
    """The items of the text of a table."""
    items = [str(many)]
    for at, terms in enumerate(rows):
        items.append(MARK if at == 0 else BETWEEN)
        items.extend([term_item(powers, share) for powers, share in terms] if terms else [NONE])
    return items


def term_item(powers, share):
    """The item of a term."""
    written = ".".join([str(power) for power in powers])
    return f"{share}{MARK}{written}"


def read_term(choice, item):
    """The term of a polynomial of this choice that an item tells; None if it tells none."""
    share, _, written = item.partition(MARK)
    powers = written.split(".") if written else []
    if MARK not in item or not all([is_number_text(word) for word in [share, *powers]]):
        return None
    term = (tuple([int(power) for power in powers]), int(share))
    return term if is_term(choice, term) else None


class RowReading:
    """What has been read of the rows of a table, item by item."""

    def __init__(self, many):
        self.choices_left = list(choices(many))
        self.rows = []
        self.is_open = False

    def is_whole(self):
        """Whether the table may end here."""
        return self.is_open and not self.choices_left

    def begin(self):
        """Begins the polynomial of the next choice; returns whether there is one, and none is missing ahead of it."""
        if not self.choices_left or (self.rows and not self.is_open):
            return False
        self.choice = self.choices_left.pop(0)
        self.rows.append([])
        self.is_open = False
        return True

    def take_none(self):
        """Takes that there is no term; returns whether that can stand here."""
        if self.is_open:
            return False
        self.is_open = True
        return True

    def take_term(self, item):
        """Takes a term; returns whether it can stand here."""
        term = read_term(self.choice, item)
        terms = self.rows[-1]
        if term is None or (self.is_open and (not terms or terms[-1][0] >= term[0])):
            return False
        terms.append(term)
        self.is_open = True
        return True

    def take_item(self, item):
        """Takes an item; returns whether it can stand here."""
        if item == BETWEEN:
            return self.begin()
        if item == NONE:
            return self.take_none()
        return self.take_term(item)


def read_rows(text):
    """How many numbers a table has, and its rows, as its text tells them."""
    items = text_items(text)
    if items[0] not in MANIES:
        raise BadText(0, 0)
    many = int(items[0])
    if len(items) > 1 and items[1] != MARK:
        raise BadText(0, 1)
    reading = RowReading(many)
    reading.begin()
    for at in range(2, len(items)):
        if not reading.take_item(items[at]):
            raise BadText(0, at)
    if not reading.is_whole():
        raise BadText(0, len(items))
    return many, reading.rows
