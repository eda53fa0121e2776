"""Characters, and the bytes of UTF-8 that write them."""

# For each form: its least first byte, the bound of its first bytes,
# how many bytes stand behind the first one, the least character it may write.
FORMS = (
    (0x00, 0x80, 0, 0x00),
    (0xC0, 0xE0, 1, 0x80),
    (0xE0, 0xF0, 2, 0x800),
    (0xF0, 0xF8, 3, 0x10000),
)


def is_character(number):
    """Whether the number is a character."""
    return number < 0x110000 and not 0xD800 <= number <= 0xDFFF


def may_stand_in_word(character):
    """Whether the character may stand in a word's reading or text."""
    return character > 0x20 and character != 0x7F


def characters_of(octets):
    """The characters that the bytes write, or None if they're no UTF-8."""
    characters = []
    place = 0
    while place < len(octets):
        found = character_at(octets, place)
        if found is None:
            return None
        character, place = found
        characters.append(character)
    return characters


def character_at(octets, place):
    """The character that begins at a place and the place behind it, or None if none does."""
    first = octets[place]
    for lead, bound, behind, least in FORMS:
        if lead <= first < bound:
            end = place + 1 + behind
            character = with_tail(first - lead, octets[place + 1:end])
            # A lesser character would be written in too long a form.
            if end <= len(octets) and character is not None and character >= least and is_character(character):
                return character, end
    return None


def with_tail(head, tail):
    """The number that the first byte's bits and the bytes behind it make, or None if one can't stand there."""
    number = head
    for octet in tail:
        if not 0x80 <= octet < 0xC0:
            return None
        number = number * 64 + octet - 0x80
    return number
