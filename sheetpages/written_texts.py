"""The texts above and below on a page: how they are told, and what is written of them."""

from sheetpages.refusals import CannotBeTold

LONGEST_TEXT = 255


def check_text(text):
    """Refuse a text that is too long or can't be told."""
    if len(text) > LONGEST_TEXT:
        raise CannotBeTold()
    # What a text may not have does not hang on the numbers that are written in it.
    write_text(text, 0, 0, 0)


def write_text(text, page_number, page_count, area_number):
    """Give the bytes of a text's left, middle and right part, as they are on one page."""
    ampersand = ord("&")
    sides = {ord("L"): 0, ord("C"): 1, ord("R"): 2}
    numbers = {ord("P"): page_number, ord("N"): page_count, ord("A"): area_number}
    parts = [[], [], []]
    part = parts[1]
    behind = False
    for byte in text:
        if not behind and byte == ampersand:
            behind = True
            continue
        if not behind or byte == ampersand:
            part.append(byte)
        elif byte in sides:
            part = parts[sides[byte]]
        elif byte in numbers:
            part.extend(digits_of(numbers[byte]))
        else:
            raise CannotBeTold()
        behind = False
    if behind:
        raise CannotBeTold()
    return parts


def digits_of(number):
    """Give the bytes of a number in digits, with - ahead of one below 0."""
    return [ord(digit) for digit in str(number)]
