"""The tables of a store or a transaction."""

from pastamended.changing import with_pending
from pastamended.copies import copied, copied_relation
from pastamended.rules import first_broken


class Tables:
    """For each table, in the order in which they were made, its columns, rules, text and facts.

    In the facts of a transaction's tables its pending rows stand behind its known number.
    """

    def __init__(self):
        self.columns = {}
        self.rules = {}
        self.texts = {}
        self.facts = {}

    def make(self, name, columns, rules, text, relation):
        """Adds a table with these facts."""
        self.columns[name] = copied(columns)
        self.rules[name] = copied(rules)
        self.texts[name] = text
        self.facts[name] = copied_relation(relation)

    def duplicate(self):
        """The same tables once more; what is done to these has no effect on them, nor the other way round."""
        other = Tables()
        for name in list(self.facts):
            other.make(name, self.columns[name], self.rules[name], self.texts[name], self.facts[name])
        return other

    def set_pending(self, name, pairs, known):
        """Gives a table these pending rows, pairs of a row and spans, behind this known number."""
        self.facts[name] = with_pending(self.facts[name], pairs, known)

    def same_as(self, other):
        """Whether the other ones are these same tables with the same facts."""
        return self.facts == other.facts

    def broken_at(self, known):
        """The table, the rule and the moment of the first broken rule at a known number, or None."""
        rules = [(name, self.rules[name]) for name in self.rules]
        return first_broken(rules, self.facts, {name: self.key_of(name) for name in self.rules}, known)

    def key_of(self, name):
        """The columns of the key of a table, or None."""
        for rule in self.rules[name]:
            if rule[0] == "key":
                return list(rule[1])
        return None

    def schemas(self):
        """The schemas of the tables."""
        return {name: (copied(self.columns[name]), self.key_of(name)) for name in self.columns}

    def relations(self):
        """The facts of the tables."""
        return {name: copied_relation(self.facts[name]) for name in self.facts}
