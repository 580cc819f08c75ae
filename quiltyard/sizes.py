"""The sizes that pictures may have."""

from quiltyard.errors import BadSize
from quiltyard.pictures import MOST_COLUMNS, MOST_ROWS


def look_height(high):
    if not 1 <= high <= MOST_ROWS:
        raise BadSize("a picture is 1 to 4 high")


def look_size(high, wide):
    look_height(high)
    if not 1 <= wide <= MOST_COLUMNS:
        raise BadSize("a picture is 1 to 12 wide")
