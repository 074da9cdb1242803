"""The texts of sheets, of claims and of fractions: written, and read."""

from figureclaims.forms import take_claim, take_numbers, take_triple
from figureclaims.reading import Reader
from figureclaims.sheets import check_sheet


def sheet_text(sheet):
    """The written text of a sheet."""
    ways, rows, parts = sheet
    lines = ["sheet {"]
    for way in ways:
        lines.extend(_way_lines(way))
    lines.extend([_row_line(row) for row in rows])
    lines.extend([_part_line(part) for part in parts])
    lines.append("}")
    return "\n".join(lines) + "\n"


def claim_text(claim):
    """The written form of a named claim."""
    return " ".join(claim)


def fractions_text(numbers):
    """The written form of a tuple of fractions in least form."""
    return ", ".join([_fraction_text(above, below) for above, below in numbers])


def read_sheet(text):
    """The sheet that a text tells."""
    reader = Reader(text)
    told = take_triple(reader)
    reader.finish()
    check_sheet(told)
    return told


def read_claim(text):
    """The named claim that a text tells, whatever its names are."""
    reader = Reader(text)
    claim = take_claim(reader)
    reader.finish()
    return claim


def read_fractions(text):
    """The pairs that a text tells, be they fractions in least form or not."""
    reader = Reader(text)
    numbers = take_numbers(reader)
    reader.finish()
    return numbers


def _way_lines(way):
    name, wants, rows, given = way
    lines = [" ".join(["way", name, *wants, "{"])]
    lines.extend([_row_line(row) for row in rows])
    lines.extend([f"give {given};", "}"])
    return lines


def _row_line(row):
    name, step = row
    return f"point {name} {_step_text(step)};"


def _step_text(step):
    word = step[0]
    if word == "use":
        return " ".join(["use", step[1], *step[2]])
    if word == "part":
        return f"part {step[1]} {step[2]} {step[3]}/{step[4]}"
    return " ".join([str(member) for member in step])


def _part_line(part):
    word, name, told = part
    if word == "claim":
        return f"claim {name} {claim_text(told)};"
    # A blank stands ahead of numbers, but none ahead of the end.
    numbers = " " + fractions_text(told) if told else ""
    return f"position {name}{numbers};"


def _fraction_text(above, below):
    return str(above) if below == 1 else f"{above}/{below}"
