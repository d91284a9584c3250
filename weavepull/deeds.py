"""Deeds, which make an item of an item, tests, which a number meets, and folds."""

REST = 1000003
LONGEST = 64
NUMBER = "number"


def all_done(deeds, item):
    """What the deeds make of the item, done one after another."""
    for deed in deeds:
        item = done(deed, item)
    return item


def done(deed, item):
    """What one deed makes of the item."""
    word = deed[0]
    if word == "first":
        return item[0]
    if word == "second":
        return item[1]
    if word == "both":
        return (item, item)
    if word == "sum":
        return sum(item) % REST
    if word == "many":
        return len(item)
    if word == "minus":
        return -item % REST
    if word == "add":
        return (item + deed[1]) % REST
    return item * deed[1] % REST


def all_hold(tests, number):
    """Whether the number meets all tests."""
    return all([holds(test, number) for test in tests])


def holds(test, number):
    """Whether the number meets one test."""
    if test[0] == "below":
        return number < test[1]
    if test[0] == "over":
        return number > test[1]
    return number % test[1] == test[2]


def folded(word, one, other):
    """What came so far and an item, folded."""
    if word == "add":
        return (one + other) % REST
    if word == "times":
        return one * other % REST
    if word == "least":
        return min(one, other)
    return max(one, other)


def is_number(number):
    """Whether the whole number is one of those that items, deeds, tests and folds are made of."""
    return 0 <= number < REST


def deeds_can_be(deeds):
    """Whether there are as many deeds as there may be, each with a number that may be."""
    return 1 <= len(deeds) <= LONGEST and all([is_number(n) for deed in deeds for n in deed[1:]])


def tests_can_be(tests):
    """Whether there are as many tests as there may be, each with numbers that may be."""
    return 1 <= len(tests) <= LONGEST and all([test_can_be(test) for test in tests])


def test_can_be(test):
    """Whether the test's numbers may be."""
    if test[0] == "rest":
        return is_number(test[1]) and 0 <= test[2] < test[1]
    return is_number(test[1])


def kind_made(deeds, kind):
    """The kind of what the deeds make of an item of this kind, None if one of them is not for it."""
    for deed in deeds:
        kind = kind_done(deed[0], kind)
        if kind is None:
            return None
    return kind


def kind_done(word, kind):
    """The kind of what one deed makes of an item of this kind, None if it is not for it."""
    if word == "both":
        return ("pair", kind, kind)
    if word == "many":
        return NUMBER if kind[0] == "row" else None
    if word == "sum":
        return NUMBER if kind == ("row", NUMBER) else None
    if word in ("first", "second"):
        if kind[0] != "pair":
            return None
        return kind[1] if word == "first" else kind[2]
    return NUMBER if kind == NUMBER else None
