"""The referee: what workers agree on, and who of them is caught."""

from skewer.dispute import settle_claims
from skewer.workers import is_same


def agree(game, position, workers):
    """Returns the agreed value of the position or None, the names of the caught ones, and the records of disputes."""
    told = [(worker, worker.ask(position)) for worker in workers]
    vouching = [(worker, claim) for worker, claim in told if claim is not None]
    caught = []
    records = []
    rival = first_rival(vouching)
    while rival is not None:
        two = [vouching[0], vouching[rival]]
        record = settle_claims(game, position, two[0][0], two[1][0], (two[0][1], two[1][1]))
        records.append(record)
        names = [two[number][0].name for number, _ in record[1]]
        caught.extend(names)
        vouching = [(worker, claim) for worker, claim in vouching if worker.name not in names]
        rival = first_rival(vouching)
    return (vouching[0][1] if vouching else None, caught, records)


def first_rival(vouching):
    """Returns the index of the first one whose claim differs from that of an earlier one, or None."""
    # All ahead of it claim the same, so that the first one of all is the first such earlier one.
    for index, (_, claim) in enumerate(vouching):
        if not is_same(claim, vouching[0][1]):
            return index
    return None


def agreed_book(game, positions, workers):
    """Returns the book of the agreed values of the positions, and the list of the names of all that were caught."""
    book = {}
    caught = []
    for position in positions:
        left = [worker for worker in workers if worker.name not in caught]
        value, names, _ = agree(game, position, left)
        caught.extend(names)
        if value is not None:
            book[position] = value
    return (book, caught)
