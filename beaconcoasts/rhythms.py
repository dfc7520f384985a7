"""Rhythms, lists of phases (the colour's byte, how many tenths) that go round, and their texts."""

BLANK = 32
NOUGHT = 48
NINE = 57
DARK = 45
WHITE = 87
# in the order of the sectors' colours, so that a colour's number finds its byte
COLOUR_BYTES = (45, 87, 82, 71, 89)
MOST_DIGITS = 3
MOST_TENTHS = 600
MOST_PHASES = 32
MOST_TOGETHER = 6000


def split_text(text):
    """What stands between the blanks, of no bytes too."""
    parts = []
    part = []
    for byte in text:
        if byte == BLANK:
            parts.append(part)
            part = []
        else:
            part.append(byte)
    parts.append(part)
    return parts


def read_tenths(digits):
    """How many tenths the bytes tell in decimal, or None if that is no phase's length."""
    if len(digits) < 1 or len(digits) > MOST_DIGITS or digits[0] == NOUGHT:
        return None
    tenths = 0
    for digit in digits:
        if digit < NOUGHT or digit > NINE:
            return None
        tenths = tenths * 10 + digit - NOUGHT
    if tenths > MOST_TENTHS:
        return None
    return tenths


def read_phase(part):
    """The phase that the bytes tell, or None if they tell none."""
    if len(part) == 0 or part[0] not in COLOUR_BYTES:
        return None
    tenths = read_tenths(part[1:])
    if tenths is None:
        return None
    return (part[0], tenths)


def read_rhythm(text):
    """The phases that a text tells, and None; or none of them, and which phase is at fault."""
    phases = []
    together = 0
    for number, part in enumerate(split_text(text)):
        phase = read_phase(part)
        if phase is None or number == MOST_PHASES:
            return [], number
        together += phase[1]
        if together > MOST_TOGETHER:
            return [], number
        phases.append(phase)
    return phases, None


def is_white_and_dark(phases):
    """If no phase has another colour."""
    for colour, tenths in phases:
        if colour != WHITE and colour != DARK:
            return False
    return True


def colour_byte_at(phases, moment):
    """The byte of the colour that is on at the moment, in tenths, if the rhythm begins at 0."""
    rest = moment % sum([tenths for colour, tenths in phases])
    number = 0
    while rest >= phases[number][1]:
        rest -= phases[number][1]
        number += 1
    return phases[number][0]


def write_rhythm(phases, shown):
    """The text, with the colour of the number shown told for white."""
    text = []
    for colour, tenths in phases:
        if len(text) > 0:
            text.append(BLANK)
        text.append(COLOUR_BYTES[shown] if colour == WHITE else colour)
        text.extend([ord(digit) for digit in str(tenths)])
    return text
