"""Ledgers: who paid which bills, and payments between people; all of it is taken back deed by deed."""

from owedafresh.errors import NothingToUndo
from owedafresh.rules import check_bill


class Ledger:
    """A ledger of people whose bills are corrected anew."""

    CORRECTS_BESIDE = False

    def __init__(self, rule):
        self._rule = rule
        # For each bill who paid it, its amount, and what it comes to with the differences that were written for it.
        self._bills = ()
        # What each one paid to others, less what they received.
        self._paid = tuple([0 for _ in rule.people])
        # What the ledger held ahead of each deed: tuples, which no later deed changes.
        self._pages = []

    def _turn(self, bills, paid):
        """Take other bills and payments for those so far, which undo brings back."""
        self._pages.append((self._bills, self._paid))
        self._bills, self._paid = bills, paid

    def _deal(self, bills):
        """Take other bills for those so far, and return the list of the changes of the shares."""
        before = self.shares()
        self._turn(bills, self._paid)
        return [share - old for share, old in zip(self.shares(), before)]

    def __call__(self, name, amount):
        payer = self._rule.place(name)
        self._turn(self._bills + ((payer, amount, amount),), self._paid)
        return len(self._bills) - 1

    def correct(self, index, amount):
        """Correct a bill to an amount in its place, and return the list of the changes of the shares."""
        check_bill(self._bills, index)
        payer, _, _ = self._bills[index]
        return self._deal(self._bills[:index] + ((payer, amount, amount),) + self._bills[index + 1:])

    def pay(self, name, other, amount):
        """Let one of the people pay an amount to one of them."""
        payer = self._rule.place(name)
        receiver = self._rule.place(other)
        paid = list(self._paid)
        paid[payer] += amount
        paid[receiver] -= amount
        self._turn(self._bills, tuple(paid))

    def balances(self):
        """Return the list of what each one paid for bills and to others, less what they received and their share."""
        found = [paid - share for paid, share in zip(self._paid, self.shares())]
        for payer, amount, _ in self._bills:
            found[payer] += amount
        return found

    @property
    def bills(self):
        """The list of the amounts of the bills."""
        return [amount for _, amount, _ in self._bills]

    def shares(self):
        """Return the list of the shares of all bills, in the order of the people."""
        return self._rule.shares(self.bills)

    def undo(self):
        """Take back the last bill, correction or payment."""
        if len(self._pages) == 0:
            raise NothingToUndo(0)
        self._bills, self._paid = self._pages.pop()

    def __len__(self):
        return len(self._bills)

    def __eq__(self, other):
        if not isinstance(other, Ledger) or self.CORRECTS_BESIDE != other.CORRECTS_BESIDE:
            return False
        if self._rule != other._rule or [bill[:2] for bill in self._bills] != [bill[:2] for bill in other._bills]:
            return False
        # With one rule and the same bills the shares are the same, so that the payments alone tell the balances.
        return self._paid == other._paid


class BesideLedger(Ledger):
    """A ledger of people whose bills are corrected beside: the difference is one bill more."""

    CORRECTS_BESIDE = True

    def correct(self, index, amount):
        """Write what a bill lacks to an amount as one bill more, and return the list of the changes of the shares."""
        check_bill(self._bills, index)
        payer, written, total = self._bills[index]
        lack = amount - total
        corrected = self._bills[:index] + ((payer, written, amount),) + self._bills[index + 1:]
        return self._deal(corrected + ((payer, lack, lack),))
