"""Entries taken from bytes, one after another, as far as these are right."""

from keptbook.cipher import BLOCK_BYTES, open_from
from keptbook.digest import sum_of
from keptbook.layout import BACK, BACK_BYTES, DROP, FRONT_BYTES, PUT, SUM_BYTES, entry_length, from_low_first
from keptbook.limits import MOST_BODY_BYTES, MOST_PLAIN_BYTES, is_name_length

# Why no further.
NO_MORE_BYTES = 0
TOO_FEW_BYTES = 1
WRONG_SUM = 2
NOT_AS_TOLD = 3


# The book has its head, with which data begins; answers why no further.
def take_entries(volume, data):
    while len(volume.content) < len(data):
        begin = len(volume.content)
        # Too few for a length and a number: nothing in them is looked at.
        if begin + FRONT_BYTES > len(data):
            return TOO_FEW_BYTES
        plain_length = from_low_first(data[begin:begin + 4])
        if plain_length > MOST_PLAIN_BYTES:
            return NOT_AS_TOLD
        end = begin + entry_length(plain_length)
        if end > len(data):
            return TOO_FEW_BYTES
        entry = data[begin:end]
        if sum_of(volume.last_sum() + entry[:-SUM_BYTES]) != entry[-SUM_BYTES:]:
            return WRONG_SUM
        if not take_entry(volume, entry, plain_length):
            return NOT_AS_TOLD
    return NO_MORE_BYTES


# What follows answers whether the entry was as told; else nothing was taken.
def take_entry(volume, entry, plain_length):
    if from_low_first(entry[4:FRONT_BYTES]) != volume.history.entry_count() + 1:
        return False
    text = entry[FRONT_BYTES:-SUM_BYTES]
    if volume.schedule is not None:
        text = open_from(volume.last_sum()[:BLOCK_BYTES], text, volume.schedule)
    if any(text[plain_length:]):
        return False
    if not take_plain(volume.history, text[:plain_length]):
        return False
    volume.add_entry(entry)
    return True


def take_plain(history, plain):
    if len(plain) == 0:
        return False
    if plain[0] == PUT:
        return take_put(history, plain)
    if plain[0] == DROP:
        return take_drop(history, plain)
    if plain[0] == BACK:
        return take_back(history, plain)
    return False


def take_put(history, plain):
    name = name_at(plain, 2)
    if name is None:
        return False
    body = plain[3 + len(name):]
    # A short name leaves room for a body that is too long in a plain text that is not.
    if len(body) > MOST_BODY_BYTES:
        return False
    history.put(plain[1], name, body)
    return True


def take_drop(history, plain):
    name = name_at(plain, 1)
    if name is None or len(plain) > 2 + len(name) or history.record(name) is None:
        return False
    history.drop(name)
    return True


def take_back(history, plain):
    if len(plain) != BACK_BYTES:
        return False
    number = from_low_first(plain[1:])
    if number > history.entry_count():
        return False
    history.back(number)
    return True


# The name whose length stands at that place, None if it isn't wholly there or no name is that long.
def name_at(plain, place):
    if place >= len(plain) or not is_name_length(plain[place]):
        return None
    begin = place + 1
    end = begin + plain[place]
    return plain[begin:end] if end <= len(plain) else None
