"""Values of all kinds, for arguments that may be anything."""

from oddcrowds.errors import BadStanding, UnknownName
from oddcrowds.standings import Standing


def nested(depth):
    value = 7
    for k in range(depth):
        value = ([value], (value,), {"a": value}, {value if k == 0 else k: value})[k % 4]
    return value


def no_integers():
    """Values that are no integers."""
    return [True, False, None, "", "0", "1", "a", (), (1,), [], [1], {}, {"a": 1}, {1: 2},
            nested(40), Standing([]), Standing([("a", 0, 1)]), BadStanding((0, 1)), UnknownName("a")]


def integers():
    return [0, 1, 2, 3, -1, -2, 12, 10 ** 30, -(10 ** 30), 10 ** 39, 1 - 10 ** 40]


def words():
    return ["a", "z", "ab", "a1", "a0z9", "abcdefghijkl", "a23456789012", "standing", "at", "voice"]


def no_word_strings():
    return ["", "abcdefghijklm", "a234567890123", "1", "0", "1a", "9abc", "A", "Ab", "aB", "_", "_a", "a_", "a b",
            " a", "a ", "a-", "-", "a\n", "\na", "a\t", "{", ";", "abcdefghijkL", "`", "@", "~", "a:", "a/", "[a",
            "a" * 40]


def no_words():
    """Values that are no words."""
    return no_word_strings() + integers() + [value for value in no_integers() if value != "a"]


def anything():
    return no_words() + words()
