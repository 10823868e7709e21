"""Commands of a desk by their words alone."""

from producttables.wordwork import count_from, is_digits, number_from

MOST_SIGNS = 8
LETTERS = "abcdefghijklmnopqrstuvwxyz"
SIGNS = "abcdefghijklmnopqrstuvwxyz0123456789"
SIX_DIGITS = 999999
TWO_DIGITS = 99
MOST_ORDER = 6

# for the first word of each deed the kinds of the words behind it; "made" is a
# name, "noted" a label of something new; a kind of many words stands last
DEEDS = {
    "numbers": ("made", "count"), "upper": ("made", "count"), "noughts": ("made", "count"),
    "powers": ("made", "numbers"), "four": ("made", "number", "number"),
    "web": ("made", "count", "arrows"), "group": ("made", "orders"),
    "beside": ("made", "table", "table"), "crossed": ("made", "table", "table"),
    "turned": ("made", "table"), "withone": ("made", "table"),
    "within": ("made", "part"), "behind": ("made", "part"),
    "mixture": ("made", "table", "numbers"), "one": ("made", "table"),
    "times": ("made", "mixture", "mixture"), "added": ("made", "mixture", "mixture"),
    "scaled": ("made", "mixture", "number"), "undone": ("made", "mixture"),
    "amount": ("mixture", "count", "number"), "part": ("made", "mixtures"),
    "dying": ("made", "table"), "middle": ("made", "table"), "living": ("made", "table"),
    "block": ("made", "table", "count"),
    "side": ("made", "part"), "closed": ("made", "part"),
    "room": ("made", "table"), "both": ("made", "room", "room"),
    "drop": ("any",), "claim": ("noted", "claimed", "thing"), "forget": ("label",),
}
# the same for the first word of each other command; "like" is a name for what is of the kind ahead
QUESTIONS = {
    "undo": (), "redo": (), "state": ("label",), "states": (), "claimed": ("label",), "names": (), "show": ("any",),
    "size": ("any",), "trace": ("mixture",), "least": ("mixture",), "full": ("mixture",), "power": ("table",),
    "sizes": ("table",), "traces": ("room",), "lots": ("room",), "same": ("any", "like"),
}
# the words of claims with the kind of thing that they are noted of
CLAIMED = {
    "dies": "mixture", "lives": "mixture", "undone": "mixture", "kills": "mixture", "simple": "table",
    "parted": "table", "closed": "part", "open": "part", "split": "room", "held": "room",
}
# each kind of many words with the kind of one of them
MANY = {"numbers": "number", "arrows": "arrow", "orders": "order", "mixtures": "mixture"}


def is_name(value):
    """Whether any value is a string of one to eight small letters and digits, the first one a letter."""
    if not isinstance(value, str) or not 1 <= len(value) <= MOST_SIGNS:
        return False
    return value[0] in LETTERS and all([sign in SIGNS for sign in value])


def small_number(word):
    """The NUMBER of at most six digits above and below the stroke; None if none is written so."""
    number = number_from(word)
    if number is None or abs(number.top) > SIX_DIGITS or number.bottom > SIX_DIGITS:
        return None
    return number


def small_count(word):
    """The COUNT of at most two digits; None if none is written so."""
    count = count_from(word)
    return None if count is None or count > TWO_DIGITS else count


def arrow_from(word):
    """The tuple of both digits, with - between; None if there are none."""
    if len(word) != 3 or word[1] != "-" or not is_digits(word[0] + word[2]):
        return None
    return int(word[0]), int(word[2])


def order_from(word):
    """The list of one to six digits; None if there are none."""
    if not is_digits(word) or len(word) > MOST_ORDER:
        return None
    return [int(sign) for sign in word]


def word_told(kind, word):
    """What a word of this kind tells; None if it is none."""
    if kind == "count":
        return small_count(word)
    if kind == "number":
        return small_number(word)
    if kind == "arrow":
        return arrow_from(word)
    if kind == "order":
        return order_from(word)
    if kind == "claimed":
        return word if word in CLAIMED else None
    return word if is_name(word) else None


def words_told(kinds, given):
    """For each kind what its word tells, or all of its words as a list; None unless these words are given."""
    found = []
    for place, kind in enumerate(kinds):
        if kind in MANY:
            told = [word_told(MANY[kind], word) for word in given[place:]]
            if None in told or (not told and kind != "arrows"):
                return None
            return found + [told]
        told = word_told(kind, given[place]) if place < len(given) else None
        if told is None:
            return None
        found.append(told)
    return found if len(found) == len(given) else None


def kinds_of(word):
    """The kinds of the words behind the first word of a command; None if none begins with it."""
    return DEEDS[word] if word in DEEDS else QUESTIONS.get(word, None)


def command_told(value):
    """The first word of a command, and what the others tell; None unless the value is one."""
    if not isinstance(value, str):
        return None
    given = value.split(" ")
    kinds = kinds_of(given[0])
    told = None if kinds is None else words_told(kinds, given[1:])
    return None if told is None else (given[0], told)


def is_command(value):
    """Whether any value is a command by its words alone."""
    return command_told(value) is not None


def is_deed(value):
    """Whether any value is a command that is a deed."""
    told = command_told(value)
    return told is not None and told[0] in DEEDS


def claimed_kind(word):
    """The kind of thing of which claims with this word are noted."""
    return CLAIMED[word]
