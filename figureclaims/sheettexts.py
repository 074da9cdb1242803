"""The texts of sheets, of claims and of fractions: written, and read."""

from figureclaims.reading import Reader
from figureclaims.sheets import check_sheet
from figureclaims.words import claim_points, step_integers, step_points


def sheet_text(sheet):
    """The written text of a sheet."""
    ways, rows, parts = sheet
    lines = ["sheet {"]
    for way in ways:
        lines.extend(_way_lines(way))
    lines.extend([_row_line(row) for row in rows])
    lines.extend([_part_line(part) for part in parts])
    lines.append("}")
    return "\n".join(lines) + "\n"


def claim_text(claim):
    """The written form of a named claim."""
    return " ".join(claim)


def fractions_text(numbers):
    """The written form of a tuple of fractions in least form."""
    return ", ".join([_fraction_text(above, below) for above, below in numbers])


def read_sheet(text):
    """The sheet that a text tells."""
    reader = Reader(text)
    told = _read_triple(reader)
    reader.finish()
    check_sheet(told)
    return told


def read_claim(text):
    """The named claim that a text tells, whatever its names are."""
    reader = Reader(text)
    claim = _read_claim(reader)
    reader.finish()
    return claim


def read_fractions(text):
    """The pairs that a text tells, be they fractions in least form or not."""
    reader = Reader(text)
    numbers = _read_numbers(reader)
    reader.finish()
    return numbers


def _way_lines(way):
    name, wants, rows, given = way
    lines = [" ".join(["way", name, *wants, "{"])]
    lines.extend([_row_line(row) for row in rows])
    lines.extend([f"give {given};", "}"])
    return lines


def _row_line(row):
    name, step = row
    return f"point {name} {_step_text(step)};"


def _step_text(step):
    word = step[0]
    if word == "use":
        return " ".join(["use", step[1], *step[2]])
    if word == "part":
        return f"part {step[1]} {step[2]} {step[3]}/{step[4]}"
    return " ".join([str(member) for member in step])


def _part_line(part):
    word, name, told = part
    if word == "claim":
        return f"claim {name} {claim_text(told)};"
    # A blank stands ahead of numbers, but none ahead of the end.
    numbers = " " + fractions_text(told) if told else ""
    return f"position {name}{numbers};"


def _fraction_text(above, below):
    return str(above) if below == 1 else f"{above}/{below}"


def _read_triple(reader):
    reader.take("sheet")
    reader.take("{")
    ways = []
    while reader.sees("way"):
        ways.append(_read_way(reader))
    rows = _read_rows(reader)
    parts = []
    while reader.sees("claim") or reader.sees("position"):
        parts.append(_read_part(reader))
    reader.take("}")
    return tuple(ways), rows, tuple(parts)


def _read_way(reader):
    reader.take("way")
    name = reader.take_name()
    wants = reader.take_all_names()
    reader.take("{")
    rows = _read_rows(reader)
    reader.take("give")
    given = reader.take_name()
    reader.take(";")
    reader.take("}")
    return name, wants, rows, given


def _read_rows(reader):
    rows = []
    while reader.sees("point"):
        reader.take("point")
        rows.append((reader.take_name(), _read_step(reader)))
        reader.take(";")
    return tuple(rows)


def _read_step(reader):
    word = reader.seen()
    if word == "use":
        reader.take("use")
        return "use", reader.take_name(), reader.take_all_names()
    points = step_points(word)
    if points is None:
        reader.fail()
    reader.take(word)
    return (word,) + reader.take_names(points) + _read_integers(reader, word)


def _read_integers(reader, word):
    """What a step with a step word has behind its points."""
    if step_integers(word) == 0:
        return ()
    first = reader.take_integer()
    if word == "part":
        reader.take("/")
        return first, reader.take_numeral()
    return first, reader.take_integer()


def _read_part(reader):
    word = reader.take_name()
    name = reader.take_name()
    told = _read_claim(reader) if word == "claim" else _read_numbers(reader)
    reader.take(";")
    return word, name, told


def _read_claim(reader):
    word = reader.seen()
    points = claim_points(word)
    if points is None:
        reader.fail()
    reader.take(word)
    return (word,) + reader.take_names(points)


def _read_numbers(reader):
    if not (reader.sees("-") or reader.sees_sort("numeral")):
        return ()
    numbers = [_read_number(reader)]
    while reader.sees(","):
        reader.take(",")
        numbers.append(_read_number(reader))
    return tuple(numbers)


def _read_number(reader):
    above = reader.take_integer()
    if not reader.sees("/"):
        return above, 1
    reader.take("/")
    return above, reader.take_numeral()
