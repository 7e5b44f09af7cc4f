"""Audits: the top of many rows, and proofs that a single row is among them."""

from wholeflow.forms import is_integer, is_number, is_sequence, is_sequence_of, require

FIRST_DIGEST = 7
FACTOR = 263
MODULUS = 65521
NO_PARTNER = -1
MOST_ROWS = 10 ** 6


def text_of(row):
    """The text of a row."""
    require(is_row(row), 0)
    return row_text(row)


def digest(text):
    """The digest of a string."""
    require(isinstance(text, str), 0)
    return string_digest(text)


def top(rows):
    """The top of the digests of the texts of the rows."""
    return levels_of(checked_rows(rows))[-1][0]


def proof(rows, at):
    """The partners on the way from a row to the top, from below."""
    rows = checked_rows(rows)
    require(is_integer(at, 0, len(rows) - 1), 1)
    partners = []
    for level in levels_of(rows)[:-1]:
        beside = partner_place(at, len(level))
        partners.append(NO_PARTNER if beside is None else level[beside])
        at = at // 2
    return tuple(partners)


def proof_holds(top, many, at, row, value):
    """Whether value leads from the row with this number, of so many, to the top."""
    require(is_digest(top), 0)
    require(is_integer(many, 1, MOST_ROWS), 1)
    require(is_integer(at, 0, many - 1), 2)
    require(is_row(row), 3)
    return are_partners(value, many, at) and way_up(at, row_text(row), value)[-1][1] == top


def clash(rows, at, row, value):
    """Two unlike strings of the same digest, for another row whose proof holds in the place of one."""
    rows = checked_rows(rows)
    require(is_integer(at, 0, len(rows) - 1), 1)
    require(is_row(row), 2)
    right, other = row_text(rows[at]), row_text(row)
    require(right != other, 2)
    require(proof_holds(top(rows), len(rows), at, row, value), 3)
    right_way = way_up(at, right, proof(rows, at))
    other_way = way_up(at, other, value)
    # The texts stay unlike as long as the digests are, and the last digests are the same.
    clashes = [(step[0], beside[0]) for step, beside in zip(right_way, other_way) if step[1] == beside[1]]
    return tuple(sorted(clashes[0]))


def is_row(value):
    """Whether value has a text."""
    if is_sequence(value):
        return all([is_row(part) for part in value])
    if isinstance(value, str):
        return "'" not in value
    return value is None or is_number(value)


def row_text(row):
    """The text of what is a row."""
    if row is None:
        return "."
    if isinstance(row, str):
        return f"'{row}'"
    if is_number(row):
        return str(row)
    return "(" + ",".join([row_text(part) for part in row]) + ")"


def checked_rows(value):
    """The one or more rows that value is."""
    require(is_sequence(value) and len(value) > 0 and is_row(value), 0)
    return value


def is_digest(value):
    """Whether value may be a digest."""
    return is_integer(value, 0, MODULUS - 1)


def string_digest(text):
    """The digest of what is a string."""
    told = FIRST_DIGEST
    for sign in text:
        told = (told * FACTOR + ord(sign)) % MODULUS
    return told


def pairing(one, other):
    """The text of a pair of digests."""
    return f"{one} {other}"


def levels_of(rows):
    """The digests of the rows, those of their pairs, and so on, up to the top alone."""
    levels = [[string_digest(row_text(row)) for row in rows]]
    while len(levels[-1]) > 1:
        levels.append(paired(levels[-1]))
    return levels


def paired(digests):
    """The digests of pairs from the left; a last one without a partner stays."""
    found = [string_digest(pairing(digests[at], digests[at + 1])) for at in range(0, len(digests) - 1, 2)]
    return found + digests[2 * len(found):]


def partner_place(at, many):
    """The place of the partner of the one at this place of so many, or None."""
    beside = at - 1 if at % 2 == 1 else at + 1
    return beside if beside < many else None


def lone_levels(many, at):
    """For each level below the top whether the one at this place, of so many, has no partner."""
    lone = []
    while many > 1:
        lone.append(partner_place(at, many) is None)
        many = (many + 1) // 2
        at = at // 2
    return lone


def are_partners(value, many, at):
    """Whether value has the form of a proof for this place of so many."""
    lone = lone_levels(many, at)
    if not is_sequence_of(value, len(lone)):
        return False
    return all([is_partner(part, is_lone) for part, is_lone in zip(value, lone)])


def is_partner(value, is_lone):
    """Whether value may stand in a proof, where there is no partner or where there is one."""
    if is_lone:
        return is_integer(value, NO_PARTNER, NO_PARTNER)
    return is_digest(value)


def way_up(at, text, partners):
    """The pairs (text, its digest) from a row's text at this place to the top."""
    way = [(text, string_digest(text))]
    for partner in partners:
        if partner != NO_PARTNER:
            below = way[-1][1]
            text = pairing(partner, below) if at % 2 == 1 else pairing(below, partner)
            way.append((text, string_digest(text)))
        at = at // 2
    return way
