"""Of what kind a thing is, whatever it may be."""


def is_number(thing):
    """Whether a thing is an integer from 0 on."""
    # Python holds True and False to be integers; here they are none.
    return isinstance(thing, int) and not isinstance(thing, bool) and thing >= 0


def is_tuple_of_numbers(thing):
    """Whether a thing is a tuple of numbers alone, perhaps of none."""
    return isinstance(thing, tuple) and all([is_number(item) for item in thing])


def is_list_or_tuple(thing):
    """Whether a thing is a list or a tuple."""
    return isinstance(thing, (list, tuple))
