"""The texts of sheets and of ends."""

from termlays.chains import is_chain
from termlays.ends import Ends
from termlays.errors import BadLine, TermError
from termlays.sheets import Sheet


def format_sheet(sheet):
    """The text of the sheet."""
    quashed = sheet.quashed
    return "\n".join([_line_text(line, line[0] in quashed) for line in sheet.lines])


def format_ends(ends):
    """The text of the ends."""
    return "\n".join([_chain_text(chain) for chain in ends.chains])


def read_sheet(text):
    """The sheet with this text."""
    if not isinstance(text, str):
        raise BadLine(1)
    sheet = Sheet([])
    rows = text.split("\n") if text != "" else []
    for number, row in enumerate(rows, start=1):
        (name, lay, least), is_quashed = _read_line(row)
        try:
            sheet = sheet.with_line(name, lay, least=least)
        except TermError:
            raise BadLine(number) from None
        if is_quashed:
            sheet = sheet.quash(name)
        # Whatever stands in a row beyond the words that were read, or otherwise than the text has it, shows here.
        if _line_text((name, lay, least), is_quashed) != row:
            raise BadLine(number)
    return sheet


def read_ends(text):
    """The ends with this text."""
    if not isinstance(text, str):
        raise BadLine(1)
    chains = []
    for number, row in enumerate(text.split("\n"), start=1):
        chain = _read_chain(row)
        if not is_chain(chain) or _chain_text(chain) != row:
            raise BadLine(number)
        if len(chains) > 0 and chain <= chains[-1]:
            raise BadLine(number)
        chains.append(chain)
    ends = Ends(chains)
    unbeaten = ends.chains
    for number, chain in enumerate(chains, start=1):
        if chain not in unbeaten:
            raise BadLine(number)
    return ends


def _line_text(line, is_quashed):
    name, lay, least = line
    words = [name, "behind", *lay[1]] if lay[0] == "behind" else [name, *[str(word) for word in lay]]
    notes = [] if least == 12 else [f"least {least}"]
    return "; ".join([" ".join(words)] + notes + (["quashed"] if is_quashed else []))


def _read_line(row):
    """What the row tells as a line, whether or not it is one, and whether its term is quashed."""
    body, *notes = row.split("; ")
    name, *words = body.split(" ")
    leasts = [least for least in range(12) if f"least {least}" in notes]
    return (name, _read_lay(words), leasts[0] if leasts else 12), "quashed" in notes


def _read_lay(words):
    if words[:1] == ["behind"]:
        return ("behind", tuple(words[1:]))
    if words[:1] == ["split"] and len(words) == 3:
        return ("split", words[1], _read_number(words[2]))
    return tuple(words)


def _chain_text(chain):
    if len(chain) == 0:
        return "nought"
    return " ".join([f"{_sign(name)} {parts}" for name, parts in chain])


def _sign(name):
    return "-" if name == "" else name


def _read_chain(row):
    """What the row tells as a chain, whether or not it is one."""
    if row == "nought":
        return ()
    words = row.split(" ")
    names = ["" if word == "-" else word for word in words[::2]]
    return tuple(zip(names, [_read_number(word) for word in words[1::2]]))


def _read_number(word):
    """The number that the word tells, None if it has other signs than figures."""
    if word == "" or not all(["0" <= sign <= "9" for sign in word]):
        return None
    return int(word)
