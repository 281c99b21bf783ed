"""Names and sizes of groups: what one is, whatever was handed in as one."""

from seatplan.errors import BadName, BadSize

NAME_SIGNS = "abcdefghijklmnopqrstuvwxyz0123456789-"
LONGEST_NAME = 12
LARGEST_SIZE = 2400


def is_name(name):
    """True for the name of a group, else False."""
    # Only a text is asked for its length: a name may be handed in as anything.
    if not isinstance(name, str) or not 1 <= len(name) <= LONGEST_NAME:
        return False
    for sign in name:
        if sign not in NAME_SIGNS:
            return False
    return True


def need_name(name):
    """Refuses with BadName what is no name of a group."""
    if not is_name(name):
        raise BadName("a name is a text of one to twelve of the signs a to z, 0 to 9 and -")


def need_size(size):
    """Refuses with BadSize what is no size of a group."""
    # Python takes True and False for whole numbers, the document does not.
    if isinstance(size, bool) or not isinstance(size, int) or not 1 <= size <= LARGEST_SIZE:
        raise BadSize("a size is a whole number from 1 to 2400")
