"""Certificates in the words of the document, without keeping anything that was computed before."""

from indoubt.facts import names_of
from indoubt.history import serial
from indoubt.queries import answer_of
from indoubt.schemas import relations_of


def slow_truth(fact, assigned):
    word = fact[0]
    values = dict(assigned)
    if word in ("true", "false"):
        return word == "true"
    if word == "commits":
        return values.get(fact[1])
    if word == "one of":
        true_places = [name for name in fact[1] if values.get(name) is True]
        if len(true_places) >= 2:
            return False
        if [name for name in fact[1] if name not in values]:
            return None
        return len(true_places) == 1
    if word == "not":
        part = slow_truth(fact[1], assigned)
        return None if part is None else not part
    if word == "implies":
        return slow_truth(("or", (("not", fact[1]), fact[2])), assigned)
    parts = [slow_truth(part, assigned) for part in fact[1]]
    ruling = word == "or"
    if ruling in parts:
        return ruling
    return None if None in parts else not ruling


class SlowCertificates:
    def __init__(self, schema, beginning, entries):
        self.schema = schema
        self.beginning = beginning
        self.entries = entries
        self.transactions = [entry for entry in entries if entry[0] != "learn"]

    def fitting(self, assigned):
        """The tables of the possible outcomes of the beginning that fit the assignment."""
        pending, possible, tables = self.beginning
        values = dict(assigned)
        names = [name for name, _, _ in pending]
        return [
            one for outcome, one in zip(possible, tables)
            if all(values[name] == (name in outcome) for name in names if name in values)]

    def determines(self, version, assigned):
        names = [name for name, _, _ in self.beginning[0]]
        names += [entry[1] for entry in self.transactions[:version] if entry[0] == "prepare"]
        return bool(self.fitting(assigned)) and set(names) <= {name for name, _ in assigned}

    def tables_at(self, version, assigned):
        tables, = self.fitting(assigned)
        committed = tuple([name for name, commits in assigned if commits])
        steps = serial(self.schema, tables, tuple(self.transactions[:version]), committed)
        return steps[-1][0] if version else tables

    def result_at(self, version, assigned):
        """The result of the script, which may be skipped; whether it is makes no difference to the result."""
        script = self.transactions[version - 1][-1]
        return serial(self.schema, self.tables_at(version - 1, assigned), (("execute", script),), ())[0][1]

    def excludes(self, number, assigned):
        if number == 0:
            return not self.fitting(assigned)
        entry = self.entries[number - 1]
        if entry[0] == "learn":
            return slow_truth(entry[1], assigned) is False
        version = len([one for one in self.entries[:number] if one[0] != "learn"])
        return (
            entry[0] == "prepare" and dict(assigned).get(entry[1]) is True
            and self.determines(version - 1, assigned) and self.result_at(version, assigned)[0] == "failed")

    def value(self, claim, assigned):
        word = claim[0]
        if word == "fact":
            return slow_truth(claim[1], assigned)
        version = claim[1]
        if word == "result":
            if not self.determines(version - 1, assigned):
                return None
            return self.result_at(version, assigned) == claim[2]
        if not self.determines(version, assigned):
            return None
        rows = answer_of(claim[2], relations_of(self.schema, self.tables_at(version, assigned)))[1]
        return (claim[3] in rows) if word == "row" else (claim[3] not in rows)

    def is_right(self, claim, certificate, assigned=()):
        if certificate[0] == "holds":
            return self.value(claim, assigned) is True
        if certificate[0] == "excluded":
            number = certificate[1]
            return number in range(len(self.entries) + 1) and self.excludes(number, assigned)
        name = certificate[1]
        if name in dict(assigned):
            return False
        both = [tuple(sorted(assigned + ((name, commits),))) for commits in (True, False)]
        return self.is_right(claim, certificate[2], both[0]) and self.is_right(claim, certificate[3], both[1])

    def names_that_matter(self, claim):
        names = {name for name, _, _ in self.beginning[0]}
        for entry in self.entries:
            if entry[0] == "learn":
                names.update(names_of(entry[1]))
            if entry[0] == "prepare":
                names.add(entry[1])
        if claim[0] == "fact":
            names.update(names_of(claim[1]))
        return sorted(names)

    def settle(self, claim):
        opened = []
        certificate = self.settled(claim, (), opened)
        return ("open", opened[0]) if opened else ("certain", certificate)

    def settled(self, claim, assigned, opened):
        if self.value(claim, assigned) is True:
            return ("holds",)
        for number in range(len(self.entries) + 1):
            if self.excludes(number, assigned):
                return ("excluded", number)
        free = [name for name in self.names_that_matter(claim) if name not in dict(assigned)]
        if not free:
            opened.append(tuple([name for name, commits in assigned if commits]))
            return None
        if_commits = self.settled(claim, tuple(sorted(assigned + ((free[0], True),))), opened)
        if_aborts = self.settled(claim, tuple(sorted(assigned + ((free[0], False),))), opened)
        return ("ask", free[0], if_commits, if_aborts)
