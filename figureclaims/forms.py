"""The forms of texts: what each tells, taken from a reader."""

from figureclaims.words import claim_points, step_integers, step_points


def take_triple(reader):
    """What a SHEET tells, be it a sheet or not."""
    reader.take("sheet")
    reader.take("{")
    ways = []
    while reader.sees("way"):
        ways.append(_take_way(reader))
    rows = _take_rows(reader)
    parts = []
    while reader.sees("claim") or reader.sees("position"):
        parts.append(take_part(reader))
    reader.take("}")
    return tuple(ways), rows, tuple(parts)


def take_row(reader):
    """The row that a POINT tells."""
    reader.take("point")
    name = reader.take_name()
    step = _take_step(reader)
    reader.take(";")
    return name, step


def take_part(reader):
    """What a PART tells."""
    word = reader.take_name()
    name = reader.take_name()
    told = take_claim(reader) if word == "claim" else take_numbers(reader)
    reader.take(";")
    return word, name, told


def take_claim(reader):
    """The named claim that a CLAIM tells."""
    word = reader.seen()
    points = claim_points(word)
    if points is None:
        reader.fail()
    reader.take(word)
    return (word,) + reader.take_names(points)


def take_numbers(reader):
    """The tuple of the pairs that FRACTIONS tell."""
    if not (reader.sees("-") or reader.sees_sort("numeral")):
        return ()
    numbers = [_take_number(reader)]
    while reader.sees(","):
        reader.take(",")
        numbers.append(_take_number(reader))
    return tuple(numbers)


def _take_way(reader):
    reader.take("way")
    name = reader.take_name()
    wants = reader.take_all_names()
    reader.take("{")
    rows = _take_rows(reader)
    reader.take("give")
    given = reader.take_name()
    reader.take(";")
    reader.take("}")
    return name, wants, rows, given


def _take_rows(reader):
    rows = []
    while reader.sees("point"):
        rows.append(take_row(reader))
    return tuple(rows)


def _take_step(reader):
    word = reader.seen()
    if word == "use":
        reader.take("use")
        return "use", reader.take_name(), reader.take_all_names()
    points = step_points(word)
    if points is None:
        reader.fail()
    reader.take(word)
    return (word,) + reader.take_names(points) + _take_integers(reader, word)


def _take_integers(reader, word):
    """What a step with a step word has behind its points."""
    if step_integers(word) == 0:
        return ()
    first = reader.take_integer()
    if word == "part":
        reader.take("/")
        return first, reader.take_numeral()
    return first, reader.take_integer()


def _take_number(reader):
    above = reader.take_integer()
    if not reader.sees("/"):
        return above, 1
    reader.take("/")
    return above, reader.take_numeral()
