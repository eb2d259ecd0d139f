"""Reads one list of whole numbers as the calls that it holds."""

# For each call, by its number: how many whole numbers stand behind it, ahead of its list.
HOW_MANY = (1, 1, 1, 3, 2, 2, 0, 2, 0, 2, 0, 0, 0, 0, 2, 1, 3, 0, 1, 1, 0)

# The calls that have a list: come and order.
WITH_LIST = (1, 11)


def read_calls(calls):
    """Give each call as a tuple: its number, and the list of what is given with it.

    A call's own list is the last thing given with it.
    """
    found = []
    at = 0
    while at < len(calls):
        call = calls[at]
        end = at + 1 + HOW_MANY[call]
        given = calls[at + 1:end]
        if call in WITH_LIST:
            begin = end + 1
            end = begin + calls[begin - 1]
            given.append(calls[begin:end])
        found.append((call, given))
        at = end
    return found
