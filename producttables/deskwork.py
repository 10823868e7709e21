"""What a desk keeps at one moment, and what commands make of it. Nothing here changes: each deed tells a new shelf."""

from producttables.claims import is_claim, is_true
from producttables.claimwork import copied
from producttables.commands import DEEDS, QUESTIONS, claimed_kind
from producttables.deeds import made_by, with_amount
from producttables.errors import InvalidClaim, LabelTaken, NameTaken, TooMany, UnknownLabel, UnknownName
from producttables.wordwork import joined_words

MOST_NAMES = 12
MOST_LABELS = 12


class Shelf:
    """What deeds change: things by names, claims by labels, and the states of these; it never changes itself."""

    def __init__(self, things, claims, states):
        self.things = things
        self.claims = claims
        self.states = states


class Moment:
    """A shelf with the papers, the deeds done and those taken back, each with another shelf; it never changes."""

    def __init__(self, shelf, papers, done, taken):
        self.shelf = shelf
        self.papers = papers
        self.done = done
        self.taken = taken


def is_one_of(value, told):
    """Whether any value is a key of a dict of names or labels."""
    return isinstance(value, str) and value in told


def claim_noted(shelf, word, name):
    """The claim with this word of what is kept under the name; None if there is none."""
    if name not in shelf.things:
        return None
    claim = word, copied(shelf.things[name][1])
    return claim if is_claim(claim) else None


def state_noted(shelf, word, name):
    """The state of the claim with this word of what is kept under the name."""
    claim = claim_noted(shelf, word, name)
    if claim is None:
        return "gone"
    return "true" if is_true(claim) else "false"


def with_item(told, key, value):
    """A dict with one item put in, or exchanged."""
    made = dict(told)
    made[key] = value
    return made


def without_item(told, key):
    """A dict with one item left out."""
    return {other: told[other] for other in told if other != key}


def with_things(shelf, things, name):
    """The shelf with these things, of which that under the name is another one than ahead."""
    made = Shelf(things, shelf.claims, shelf.states)
    states = dict(shelf.states)
    for label in shelf.claims:
        word, claimed = shelf.claims[label]
        if claimed == name:
            states[label] = state_noted(made, word, name)
    return Shelf(things, shelf.claims, states)


def with_claim(shelf, label, word, name):
    """The shelf with a claim that is noted."""
    claim = claim_noted(shelf, word, name)
    if claim is None:
        raise InvalidClaim((word, copied(shelf.things[name][1])))
    states = with_item(shelf.states, label, state_noted(shelf, word, name))
    return Shelf(shelf.things, with_item(shelf.claims, label, (word, name)), states)


def without_claim(shelf, label):
    """The shelf without a claim."""
    return Shelf(shelf.things, without_item(shelf.claims, label), without_item(shelf.states, label))


def need_new(shelf, kinds, told):
    """Nothing, if what is to be new is."""
    for kind, name in zip(kinds, told):
        if kind == "made" and name in shelf.things:
            raise NameTaken(name)
        if kind == "noted" and name in shelf.claims:
            raise LabelTaken(name)


def thing_named(shelf, kind, name):
    """What is kept under the name, if it is of this kind."""
    if name not in shelf.things or kind not in ("any", shelf.things[name][0]):
        raise UnknownName(name)
    return shelf.things[name][1]


def kind_named(shelf, kind, told, place):
    """The kind of thing that is wanted under the name at the place."""
    if kind == "like":
        return shelf.things[told[place - 1]][0]
    return claimed_kind(told[place - 1]) if kind == "thing" else kind


def given_to(shelf, kinds, told):
    """For each word of a command what it gives: things for names, all else as it is told."""
    given = []
    for place, kind in enumerate(kinds):
        one_told = told[place]
        if kind in ("table", "mixture", "part", "room", "any", "like", "thing"):
            given.append(thing_named(shelf, kind_named(shelf, kind, told, place), one_told))
        elif kind == "mixtures":
            given.append([thing_named(shelf, "mixture", name) for name in one_told])
        elif kind == "label" and one_told not in shelf.claims:
            raise UnknownLabel(one_told)
        else:
            given.append(one_told)
    return given


def asked(shelf, word, told):
    """What the words of a command that is no deed give."""
    return given_to(shelf, QUESTIONS[word], told)


def shelf_behind(shelf, word, told):
    """The shelf behind a deed."""
    need_new(shelf, DEEDS[word], told)
    given = given_to(shelf, DEEDS[word], told)
    name = told[0]
    if word == "drop":
        return with_things(shelf, without_item(shelf.things, name), name)
    if word == "claim":
        return with_claim(shelf, name, told[1], told[2])
    if word == "forget":
        return without_claim(shelf, name)
    if word == "amount":
        kept = with_amount(given[0], given[1], given[2])
    else:
        kept = made_by(word, given[1:])
    return with_things(shelf, with_item(shelf.things, name, kept), name)


def need_room_on(shelf):
    """Nothing, if a shelf may hold so much."""
    if len(shelf.things) > MOST_NAMES:
        raise TooMany("names", MOST_NAMES)
    if len(shelf.claims) > MOST_LABELS:
        raise TooMany("labels", MOST_LABELS)


def states_told(states):
    """The labels with their states, sorted."""
    return joined_words([f"{label} {states[label]}" for label in sorted(states)])


def changes_told(before, after):
    """The states of one shelf that another one, ahead of it, did not have."""
    changed = [label for label in after.states if after.states[label] != before.states.get(label, None)]
    return states_told({label: after.states[label] for label in changed})
