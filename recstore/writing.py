"""The written form of schemas (k5)."""


def schema_text(schema):
    """The text that is read as this schema."""
    return "".join([_declaration_text(item) for item in schema])


def _declaration_text(item):
    heading = " ".join([str(part) for part in item[:-1]])
    return heading + " {\n" + "".join([_field_text(field) for field in item[-1]]) + "}\n"


def _field_text(field):
    name, was, kind, initial = field
    previous = "" if was is None else " was " + was
    value = "" if initial is None else " = " + str(initial)
    return "  " + name + previous + ": " + _kind_text(kind) + value + ";\n"


def _kind_text(kind):
    """The text of a type (c3)."""
    if kind[0] == "word":
        return _word_text(kind[1], kind[2], kind[3])
    if kind[0] == "bits":
        slots = ", ".join([name + " " + str(width) for name, width in kind[3]])
        return "bits " + _word_text(kind[1], False, kind[2]) + " { " + slots + " }"
    if kind[0] == "row":
        return str(kind[1]) + " of " + _kind_text(kind[2])
    if kind[0] == "one":
        return "one of " + ", ".join(kind[1])
    if kind[0] == "list":
        return "list of " + _kind_text(kind[1])
    return "ref " + kind[1] if kind[0] == "ref" else kind[1]


def _word_text(size, signed, big):
    return ("i" if signed else "u") + str(8 * size) + (" big" if big else "")
