"""What single characters of texts are, and what names are made of."""

# The percent sign is written as its number, because no string may hold it.
_PERCENT = 37
_LONGEST_NAME = 16


def is_small(sign):
    """Tell whether a character is one of the letters a to z."""
    return "a" <= sign <= "z"


def is_letter(sign):
    """Tell whether a character is a letter, in capitals or not."""
    return "a" <= sign <= "z" or "A" <= sign <= "Z"


def is_digit(sign):
    """Tell whether a character is one of the digits 0 to 9."""
    return "0" <= sign <= "9"


def is_visible(sign):
    """Tell whether a character of texts is neither the space nor the newline."""
    return "!" <= sign <= "~" and ord(sign) != _PERCENT


def are_small(text):
    """Tell whether a text has letters a to z alone, and at least one."""
    for sign in text:
        if not is_small(sign):
            return False
    return text != ""


def is_name(text):
    """Tell whether a text is a small letter and at most 15 more, or digits."""
    if not 1 <= len(text) <= _LONGEST_NAME or not is_small(text[0]):
        return False
    for sign in text:
        if not is_small(sign) and not is_digit(sign):
            return False
    return True
