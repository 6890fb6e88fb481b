"""Trusts written as text."""

from assentwhole.trustchecks import check_trust


def member_text(lots, counts):
    """What counts need of each lot, in words."""
    needs = [f"{number} {lots[at][0]}" for at, number in enumerate(counts) if number > 0]
    return " ".join(needs) if needs else "nobody"


def text_of_trust(lots, trust):
    """The text of a trust that is known to be one."""
    kind = trust[0]
    if kind == "lot":
        return f"{trust[2]} in {lots[trust[1]][0]}"
    if kind == "any":
        rows = [text_of_trust(lots, part) for part in trust[2]]
        return f"{trust[1]} of (" + ", ".join(rows) + ")"
    if kind == "heavy":
        rows = [f"{trust[2][at]} " + text_of_trust(lots, part) for at, part in enumerate(trust[3])]
        return f"heavy {trust[1]} of (" + ", ".join(rows) + ")"
    return kind + " (" + " | ".join([member_text(lots, member) for member in trust[1]]) + ")"


def trust_text(lots, trust):
    """A text that tells trust."""
    check_trust(lots, trust)
    return text_of_trust(lots, trust)
