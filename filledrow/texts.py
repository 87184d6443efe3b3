"""Texts of ledgers."""


def ledger_text(ledger):
    """The text of a ledger, in five rows."""
    return "\n".join([
        f"table {ledger.rates}", f"order {ledger.way}", f"sources {ledger.sources}", f"uses {ledger.uses}",
        f"filling {ledger.filling}"])
