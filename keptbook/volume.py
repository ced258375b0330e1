"""One book: its bytes, which only grow, and what they tell."""

from keptbook.cipher import spread_key
from keptbook.history import History
from keptbook.layout import SUM_BYTES, back_text, drop_text, entry_bytes, entry_length, head_bytes, put_text
from keptbook.limits import MOST_BOOK_BYTES
from keptbook.refusals import NO_RECORD, TOO_LONG


class Volume:
    def __init__(self, shut, salt, key):
        self.schedule = spread_key(key) if shut == 1 else None
        self.content = head_bytes(shut, salt, key)
        # The k-th is how many bytes there were after entry k.
        self.lengths = [len(self.content)]
        self.history = History()

    # What follows answers the entry's number, or a refusal.
    def put(self, kind, name, body):
        if not self.write(put_text(kind, name, body)):
            return TOO_LONG
        return self.history.put(kind, name, body)

    def drop(self, name):
        if self.history.record(name) is None:
            return NO_RECORD
        if not self.write(drop_text(name)):
            return TOO_LONG
        return self.history.drop(name)

    def back(self, number):
        if not self.write(back_text(number)):
            return TOO_LONG
        return self.history.back(number)

    # Answers whether there was room; else nothing is written.
    def write(self, plain):
        if len(self.content) + entry_length(len(plain)) > MOST_BOOK_BYTES:
            return False
        number = self.history.entry_count() + 1
        self.add_entry(entry_bytes(number, plain, self.last_sum(), self.schedule))
        return True

    def add_entry(self, entry):
        self.content.extend(entry)
        self.lengths.append(len(self.content))

    def last_sum(self):
        return self.content[-SUM_BYTES:]

    # How many entries lie wholly in the first so many bytes.
    def entries_within(self, length):
        return len([end for end in self.lengths[1:] if end <= length])

    # Answers how many records there are. Each has a put of its own in what was there, so there is room for all.
    def squeeze(self):
        records = self.history.records()
        # Entries that lie in their places already would be written the same again, and that takes long.
        kept = in_place_count(records)
        self.content = self.content[:self.lengths[kept]]
        self.lengths = self.lengths[:kept + 1]
        self.history = History()
        for record in records[:kept]:
            self.history.put(record.kind, record.name, record.body)
        for record in records[kept:]:
            self.put(record.kind, list(record.name), record.body)
        return len(records)


# How many of these, from the first on, have the entry's number that they have in a book of them alone.
def in_place_count(records):
    count = 0
    for record in records:
        if record.number != count + 1:
            break
        count += 1
    return count
