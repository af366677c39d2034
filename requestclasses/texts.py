"""Texts as lists of bytes, as they are handed in and answered, and as Python's own texts."""

# A directory, a pattern or a request without fault is made of these alone.
KNOWN_SIGNS = "\n *+,-/0123456789:@abcdefghijklmnopqrstuvwxyz"
# These two stand for all other bytes. Neither is known, so that no text with a fault is taken for one without.
OTHER_SIGN = "?"
NO_SIGN = "!"


def known_signs_by_byte():
    """Each known sign under its byte."""
    signs = {}
    for sign in KNOWN_SIGNS:
        signs[ord(sign)] = sign
    return signs


def sign_for_unknown(byte):
    """What stands for a byte that is none of the known signs."""
    return OTHER_SIGN if 32 <= byte <= 126 else NO_SIGN


def text_from_bytes(row):
    """Python's text for a list of bytes."""
    signs = known_signs_by_byte()
    return "".join([signs.get(byte, sign_for_unknown(byte)) for byte in row])


def answered_text(text):
    """A text as it is answered: how many bytes it has, and then they."""
    return [len(text)] + [ord(sign) for sign in text]


def answered_texts(texts):
    """Texts as they are answered: how many they are, and then each."""
    answered = [len(texts)]
    for text in texts:
        answered.extend(answered_text(text))
    return answered
