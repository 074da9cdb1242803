"""Acts on sheets: why one cannot be done, and the sheet behind it."""

from figureclaims.layouts import MOST_STEPS, size_of
from figureclaims.sheets import is_next_row, is_only_part, is_sheet

MOST_PARTS = 30

# How many members acts have, the word counted.
MEMBERS = {"sheet": 2, "point": 3, "put": 2, "drop": 2}


def refusal(sheet, act):
    """The word with which an act, which may be anything, cannot be done with a sheet, or None."""
    if not isinstance(act, tuple) or not act or not isinstance(act[0], str):
        return "form"
    word, *told = act
    if len(act) != MEMBERS.get(word):
        return "form"
    if word == "sheet":
        return _sheet_refusal(told[0])
    if word == "point":
        return _point_refusal(sheet, tuple(told))
    if word == "put":
        return _put_refusal(sheet, told[0])
    return None if _is_part_name(sheet, told[0]) else "name"


def sheet_behind(sheet, act):
    """The sheet that an act which can be done makes of a sheet."""
    word, *told = act
    ways, rows, parts = sheet
    if word == "sheet":
        return told[0]
    if word == "point":
        return ways, rows + (tuple(told),), parts
    if word == "put":
        return ways, rows, _parts_with(sheet, told[0])
    return ways, rows, tuple([part for part in parts if part[1] != told[0]])


def _sheet_refusal(value):
    if not is_sheet(value):
        return "sheet"
    return "great" if size_of(value) > MOST_STEPS else None


def _point_refusal(sheet, row):
    if not is_next_row(sheet, row):
        return "point"
    ways, rows, parts = sheet
    return "great" if size_of((ways, rows + (row,), parts)) > MOST_STEPS else None


def _put_refusal(sheet, part):
    if not is_only_part(sheet, part):
        return "part"
    return "many" if len(sheet[2]) >= MOST_PARTS and not _is_part_name(sheet, part[1]) else None


def _is_part_name(sheet, name):
    return name in [part[1] for part in sheet[2]]


def _parts_with(sheet, part):
    """The parts of a sheet with another one in the place of that with its name, or behind all."""
    parts = sheet[2]
    if not _is_part_name(sheet, part[1]):
        return parts + (part,)
    return tuple([part if old[1] == part[1] else old for old in parts])
