"""One book: its bytes, which only grow, and what they tell."""

from keptbook.cipher import spread_key
from keptbook.history import History
from keptbook.layout import SUM_BYTES, back_text, drop_text, entry_bytes, entry_length, head_bytes, put_text
from keptbook.refusals import NO_RECORD, TOO_LONG

MOST_BYTES = 1048576


class Volume:
    def __init__(self, shut, salt, key):
        self.schedule = spread_key(key) if shut == 1 else None
        self.content = head_bytes(shut, salt, key)
        self.history = History()

    # What follows answers the entry's number, or a refusal.
    def put(self, kind, name, body):
        if not self.write(put_text(kind, name, body)):
            return TOO_LONG
        return self.history.put(kind, name, body)

    def drop(self, name):
        if self.history.record(name) is None:
            return NO_RECORD
        if not self.write(drop_text(name)):
            return TOO_LONG
        return self.history.drop(name)

    def back(self, number):
        if not self.write(back_text(number)):
            return TOO_LONG
        return self.history.back(number)

    # Answers whether there was room; else nothing is written.
    def write(self, plain):
        if len(self.content) + entry_length(len(plain)) > MOST_BYTES:
            return False
        number = self.history.entry_count() + 1
        self.content.extend(entry_bytes(number, plain, self.content[-SUM_BYTES:], self.schedule))
        return True
