"""Taking a list of calls apart."""

from textpassages.refusals import UnknownCall

ROW_CALLS = (0, 1, 2)
ARGUMENT_COUNTS = {3: 5, 4: 2, 5: 2, 6: 1, 7: 1, 8: 0, 9: 0, 10: 1, 11: 1}


def split_calls(calls):
    found = []
    place = 0
    while place < len(calls):
        number = calls[place]
        start = place + 1
        if number in ROW_CALLS:
            count = calls[start]
            start += 1
        elif number in ARGUMENT_COUNTS:
            count = ARGUMENT_COUNTS[number]
        else:
            # Without the count of its arguments, the next call's place is not known either.
            raise UnknownCall(f"call {number}")
        place = start + count
        found.append((number, calls[start:place]))
    return found
