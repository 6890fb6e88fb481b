"""What deeds lead to: a charter, sums under names, and the last numbers and replies of clients."""


class Ledger:
    """The charter, the sums and the clients that a roll leads to, deed by deed."""

    def __init__(self, charter, table, clients):
        """table has pairs (name, sum), clients has triples (client, number, reply)."""
        self.charter = charter
        self.sums = {name: total for name, total in table}
        self.last = {client: (number, reply) for client, number, reply in clients}

    def take(self, deed):
        """Go on by a deed; its reply, or None."""
        if deed[0] == "change":
            self.charter = deed[1]
            return None
        _, client, number, name, amount = deed
        last, reply = self.last.get(client, (0, None))
        # Numbers are at least 1, so that a client's first deed always counts.
        if number <= last:
            return reply if number == last else None
        self.sums[name] = self.sums.get(name, 0) + amount
        self.last[client] = (number, self.sums[name])
        return self.sums[name]

    def outcome(self):
        """The triple (charter, table, clients), the last two ascending."""
        clients = [(client, number, reply) for client, (number, reply) in sorted(self.last.items())]
        return self.charter, tuple(sorted(self.sums.items())), tuple(clients)
