"""How things stand after each entry, and the way that led there."""


class Change:
    # number: its entry's; earlier: the number of the change ahead of it in the way, 0 if there is none.
    # A drop has no kind and no body of its own.
    def __init__(self, number, earlier, name, is_put, kind, body):
        self.number = number
        self.earlier = earlier
        self.name = name
        self.is_put = is_put
        self.kind = kind
        self.body = body


class History:
    def __init__(self):
        # The k-th is the number of the last change in the way after entry k: ways share what
        # they have in common, so going back loses nothing and copies nothing.
        self.ends = [0]
        self.changes = {}
        self.standing = {}

    def entry_count(self):
        return len(self.ends) - 1

    def put(self, kind, name, body):
        change = self.add_change(name, True, kind, body)
        self.standing[change.name] = change
        return change.number

    def drop(self, name):
        change = self.add_change(name, False, 0, [])
        self.standing.pop(change.name)
        return change.number

    def back(self, number):
        end = self.ends[number]
        self.ends.append(end)
        self.standing = standing_after(self.way(end))
        return self.entry_count()

    def add_change(self, name, is_put, kind, body):
        number = len(self.ends)
        change = Change(number, self.ends[-1], tuple(name), is_put, kind, body)
        self.changes[number] = change
        self.ends.append(number)
        return change

    # The changes of the way, the last first.
    def way(self, end):
        changes = []
        number = end
        while number > 0:
            change = self.changes[number]
            changes.append(change)
            number = change.earlier
        return changes

    # None if there is no such record.
    def record(self, name):
        return self.standing.get(tuple(name))

    # In the order of their names' bytes.
    def records(self):
        return [self.standing[name] for name in sorted(self.standing)]

    def versions(self, name):
        wanted = tuple(name)
        return [change for change in self.way(self.ends[-1]) if change.is_put and change.name == wanted]


def standing_after(way):
    standing = {}
    for change in reversed(way):
        if change.is_put:
            standing[change.name] = change
        else:
            standing.pop(change.name)
    return standing
