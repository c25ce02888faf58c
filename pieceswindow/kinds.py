"""Of which kind a value is."""

DROPS = ("eldest", "newest", "slowest")
HARMS = ("joined", "missed", "twice")
CAUSES = ("crowded", "joined", "late", "swallowed")
PARTS = ("sender", "road", "hearer")
SIZES = {"sender": 6, "road": 2, "hearer": 4}


def is_integer(thing):
    """Whether any value is an int that is not a bool."""
    return isinstance(thing, int) and not isinstance(thing, bool)


def is_number(thing):
    """Whether any value is an integer from 0 on."""
    return at_least(thing, 0)


def is_sender(thing):
    """Whether any value is (a, b, n, copies, numbers, pause) of a book."""
    return is_part("sender", thing)


def is_road(thing):
    """Whether any value is (d, late) of a book."""
    return is_part("road", thing)


def is_hearer(thing):
    """Whether any value is (wait, memory, room, drop) of a book."""
    return is_part("hearer", thing)


def is_book(thing):
    """Whether any value is a triple (sender, road, hearer)."""
    if not isinstance(thing, tuple) or len(thing) != 3:
        return False
    return is_sender(thing[0]) and is_road(thing[1]) and is_hearer(thing[2])


def is_harm(thing):
    """Whether any value is one of the three words of harms."""
    return isinstance(thing, str) and thing in HARMS


def is_cause(thing):
    """Whether any value is one of the four words of causes."""
    return isinstance(thing, str) and thing in CAUSES


def is_drop(thing):
    """Whether any value is one of the three words of dropping."""
    return isinstance(thing, str) and thing in DROPS


def at_least(thing, least):
    """Whether any value is an integer that is not less than least."""
    return is_integer(thing) and thing >= least


def is_part(part, thing):
    """Whether any value is what part, the word sender, road or hearer, names."""
    return has_size(part, thing) and fault_in(part, thing) is None


def has_size(part, thing):
    """Whether any value is a tuple with as many elements as this part of a book."""
    return isinstance(thing, tuple) and len(thing) == SIZES[part]


def fault_in(part, row):
    """The index of the first element of the tuple row that cannot stand in this part, or None."""
    for k in range(len(row)):
        if not fits(part, k, row[k], row[0]):
            return k
    return None


def fits(part, k, value, first):
    """Whether any value can be element k of this part of a book, if the part begins with first."""
    if part == "sender":
        return fits_sender(k, value, first)
    if part == "hearer":
        return fits_hearer(k, value)
    return is_number(value)


def fits_sender(k, value, a):
    """Whether any value can be element k of a sender, by its least pace a."""
    if k == 5 and value is None:
        return True
    if k == 1 or k == 5:
        return at_least(value, a)
    return at_least(value, 1)


def fits_hearer(k, value):
    """Whether any value can be element k of a hearer."""
    if k == 3:
        return is_drop(value)
    if k == 2:
        return at_least(value, 1)
    return is_number(value)
