"""What the stages ask of anything that is handed in: whole numbers, places, lists of counts."""

GREATEST = 10 ** 12
LONGEST = 6


def is_whole(thing):
    """Tell whether this is a whole number: an int that is neither True nor False."""
    return isinstance(thing, int) and not isinstance(thing, bool)


def is_count(thing):
    """Tell whether this is a whole number from 0 to 10 ** 12."""
    return is_whole(thing) and 0 <= thing <= GREATEST


def is_place(thing, many):
    """Tell whether this is one of so many places, counted from 0."""
    return is_whole(thing) and 0 <= thing < many


def are_unlike_places(one, other, many):
    """Tell whether these are two unlike ones of so many places."""
    return is_place(one, many) and is_place(other, many) and one != other


def is_list(thing):
    """Tell whether this is a list; one that is handed in may be a tuple."""
    return isinstance(thing, (list, tuple))


def is_short_list(thing):
    """Tell whether this is a list of one to six things."""
    return is_list(thing) and 1 <= len(thing) <= LONGEST


def are_counts(thing):
    """Tell whether this is a list of one to six whole numbers from 0 to 10 ** 12."""
    return is_short_list(thing) and all([is_count(item) for item in thing])


def are_rows(thing, height, width):
    """Tell whether this is a list of so many rows, each a list of so many things."""
    if not is_list(thing) or len(thing) != height:
        return False
    return all([is_list(row) and len(row) == width for row in thing])
