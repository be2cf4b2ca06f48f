"""What must be so of rows of numbers."""

from beatwires.bitnumbers import is_wide
from beatwires.errors import BadRow


def check_numbers(widths, row):
    """Raises BadRow if a row is no dict of a number for each of the words alone, pairs of a name and a width."""
    if not isinstance(row, dict) or len(row) != len(widths):
        raise BadRow("no dict of just the words")
    for name, width in widths:
        if name not in row or not is_wide(row[name], width):
            raise BadRow(f"no number of {width} bits for {name}")
