"""Programs written as texts, and read back."""

from memoryviews.errors import BadText
from memoryviews.programs import FORMS, HANDS, check_program, is_hand


def program_text(program):
    """The text of a program."""
    check_program(program)
    return "".join([hand_text(hand) + "\n" for hand in program])


def hand_text(hand):
    """The line of a hand, without the line feed."""
    return "; ".join([row_text(row) for row in hand])


def row_text(row):
    """A row as it is written."""
    if row[0] == "put":
        return f"put {row[1]} = {row[2]}"
    if row[0] == "give":
        return f"give {row[1]} = r{row[2]}"
    if row[0] == "get":
        return f"r{row[1]} = get {row[2]}"
    if row[0] == "swap":
        return f"r{row[1]} = swap {row[2]} = {row[3]}"
    if row[0] == "only":
        return f"only r{row[1]} = {row[2]}: {row[3]}"
    return row[0]


def numbers_to(limits):
    """The list of all tuples of numbers from 0 to these limits, as many as these."""
    found = [()]
    for limit in limits:
        found = [numbers + (number,) for numbers in found for number in range(limit + 1)]
    return found


def written_rows():
    """A dict from all texts of rows to these rows."""
    rows = [(word,) + numbers for word in FORMS for numbers in numbers_to(FORMS[word])]
    return {row_text(row): row for row in rows}


def hand_of(line, known):
    """The hand of a line with rows that are known, None if it cannot be one."""
    words = line.split("; ") if line else []
    if not all([word in known for word in words]):
        return None
    hand = tuple([known[word] for word in words])
    return hand if is_hand(hand) else None


def read_program(text):
    """The program of a text."""
    if not isinstance(text, str):
        raise BadText(None)
    lines = text.split("\n")
    rest = lines.pop()
    # what is read is just what is written: a row is looked up among all that can be written
    known = written_rows()
    hands = []
    for line in lines:
        hand = hand_of(line, known)
        if hand is None or len(hands) == HANDS:
            raise BadText(len(hands))
        hands.append(hand)
    if rest or not hands:
        raise BadText(len(hands))
    return tuple(hands)
