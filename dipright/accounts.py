"""Accounts: what one owes another, balances and the settlement."""

from dipright.errors import BadNumber
from dipright.facts import FOLK, fits
from dipright.field import COIN


def check_folk(who):
    if not fits(who, FOLK):
        raise BadNumber("not of the folk")


def sums(field):
    owed = {}
    for day, debtor, creditor, tenths in field.entries():
        owed[(debtor, creditor)] = owed.get((debtor, creditor), 0) + tenths
        owed[(creditor, debtor)] = owed.get((creditor, debtor), 0) - tenths
    return owed


def owes(field, one, other):
    check_folk(one)
    check_folk(other)
    return sums(field).get((one, other), 0)


def balance(field, who):
    check_folk(who)
    owed = sums(field)
    return sum([owed[pair] for pair in owed if pair[1] == who])


def settlement(field):
    owed = sums(field)
    return [(pair[0], pair[1], owed[pair] // COIN) for pair in sorted(owed) if owed[pair] >= COIN]
