"""What a name and a whole number are, as every other module takes them."""

LONGEST_NAME = 8


def is_name(thing):
    """Whether the thing is a text of 1 to 8 small letters."""
    if not isinstance(thing, str):
        return False
    if not 1 <= len(thing) <= LONGEST_NAME:
        return False
    # islower and isalpha also take letters beyond a to z.
    return all("a" <= sign <= "z" for sign in thing)


def is_whole_number(thing):
    """Whether the thing is an int that is no truth."""
    return isinstance(thing, int) and not isinstance(thing, bool)
