"""Sheets: their first wrong part, and their parts by name and by word."""

from figureclaims.errors import BadTree, UnknownName
from figureclaims.members import claim_fault, is_tuple_of, step_fault, tell_fault
from figureclaims.words import is_fraction, is_name


def check_sheet(value):
    """Raise BadTree with the path of the first wrong part of what is no sheet."""
    _need(is_tuple_of(value, 3), ())
    wants_of = _checked_ways(value[0])
    there = _checked_rows(value[1], (1,), (), wants_of)
    _check_parts(value[2], there)


def is_sheet(value):
    """Whether a value, which may be anything, is a sheet."""
    return _passes(lambda: check_sheet(value))


def is_next_row(sheet, value):
    """Whether a value, which may be anything, may stand as a row behind those of a sheet."""
    wants_of = {way[0]: len(way[1]) for way in sheet[0]}
    return _passes(lambda: _check_row(value, (), _names_there(sheet), wants_of))


def is_only_part(sheet, value):
    """Whether a value, which may be anything, may stand in a sheet as its one part."""
    return _passes(lambda: _check_parts((value,), _names_there(sheet)))


def part_named(sheet, name):
    """The part of a sheet with a name, which may be anything."""
    for part in sheet[2]:
        if part[1] == name:
            return part
    raise UnknownName(name)


def names_of(sheet, word):
    """The names of all parts of a sheet that begin with a word, in their order."""
    return [part[1] for part in sheet[2] if part[0] == word]


def _passes(check):
    """Whether a check raises no BadTree."""
    try:
        check()
    except BadTree:
        return False
    return True


def _names_there(sheet):
    """The names of a sheet's rows, as a dict."""
    return {row[0]: True for row in sheet[1]}


def _need(right, path):
    if not right:
        raise BadTree(path)


def _checked_ways(ways):
    """How many wants each way has, by the ways' names, if all ways are right."""
    _need(isinstance(ways, tuple), (0,))
    wants_of = {}
    for k, way in enumerate(ways):
        _check_way(way, (0, k), wants_of)
        wants_of[way[0]] = len(way[1])
    return wants_of


def _check_way(way, path, wants_of):
    """Check a way; wants_of tells the ways before it, the only ones that it may use."""
    _need(is_tuple_of(way, 4), path)
    name, wants, rows, given = way
    _need(is_name(name) and name not in wants_of, path + (0,))
    _check_wants(wants, path + (1,))
    there = _checked_rows(rows, path + (2,), wants, wants_of)
    _need(_is_there(given, there), path + (3,))


def _check_wants(wants, path):
    _need(isinstance(wants, tuple), path)
    earlier = {}
    for k, want in enumerate(wants):
        _need(is_name(want) and want not in earlier, path + (k,))
        earlier[want] = True


def _checked_rows(rows, path, wants, wants_of):
    """The names that are there behind some rows, as a dict, if all rows are right."""
    _need(isinstance(rows, tuple), path)
    there = {want: True for want in wants}
    for k, row in enumerate(rows):
        _check_row(row, path + (k,), there, wants_of)
        there[row[0]] = True
    return there


def _check_row(row, path, there, wants_of):
    _need(is_tuple_of(row, 2), path)
    name, step = row
    _need(is_name(name) and name not in there, path + (0,))
    if is_tuple_of(step, 3) and step[0] == "use":
        _check_use(step, path + (1,), there, wants_of)
    else:
        tell_fault(step_fault(step, lambda member: _is_there(member, there)), path + (1,))


def _check_use(use, path, there, wants_of):
    way, names = use[1], use[2]
    _need(is_name(way) and way in wants_of, path + (1,))
    _need(is_tuple_of(names, wants_of[way]), path + (2,))
    for k, name in enumerate(names):
        _need(_is_there(name, there), path + (2, k))


def _is_there(name, there):
    # What is no name may be a list, which cannot be looked up in a dict.
    return is_name(name) and name in there


def _check_parts(parts, there):
    _need(isinstance(parts, tuple), (2,))
    earlier = {}
    for k, part in enumerate(parts):
        _need(is_tuple_of(part, 3) and part[0] in ("claim", "position"), (2, k))
        word, name, told = part
        _need(is_name(name) and name not in earlier, (2, k, 1))
        earlier[name] = True
        if word == "claim":
            tell_fault(claim_fault(told, lambda member: _is_there(member, there)), (2, k, 2))
        else:
            _check_fractions(told, (2, k, 2))


def _check_fractions(numbers, path):
    _need(isinstance(numbers, tuple), path)
    for k, number in enumerate(numbers):
        _need(is_fraction(number), path + (k,))
