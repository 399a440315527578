"""Amounts, the parts of a purchase, and what a setup is."""

from acquit.errors import BadSetup

WHOLE = 10000
MOST_AMOUNT = 1_000_000_000
MOST_HOUSES = 2
MOST_MEMBERS = 3
MOST_SHARE = 300
MOST_FEE = 500


def parts(amount, share, fee):
    """Return the issuer's part and the merchant's fee of a purchase."""
    return (amount * share // WHOLE, amount * fee // WHOLE)


def check_setup(setup):
    """Raise BadSetup unless this is a tuple (issuers, acquirers, share, fee)."""
    if not _is_setup(setup):
        raise BadSetup()


def is_number(value, least, most):
    """Tell whether this is a whole number from least to most."""
    # True and False are integers to Python, but no numbers to the network.
    if isinstance(value, bool) or not isinstance(value, int):
        return False
    return least <= value <= most


def _is_setup(setup):
    if not _is_tuple(setup, 4, 4):
        return False
    issuers, acquirers, share, fee = setup
    # The share is the fee's lower bound, so it must prove a number first.
    return (
        _are_issuers(issuers)
        and _are_acquirers(acquirers)
        and is_number(share, 0, MOST_SHARE)
        and is_number(fee, share, MOST_FEE)
    )


def _is_tuple(value, least, most):
    return isinstance(value, tuple) and least <= len(value) <= most


def _are_issuers(issuers):
    return _is_tuple(issuers, 1, MOST_HOUSES) and all([_are_holders(holders) for holders in issuers])


def _are_holders(holders):
    return _is_tuple(holders, 1, MOST_MEMBERS) and all([is_number(amount, 0, MOST_AMOUNT) for amount in holders])


def _are_acquirers(acquirers):
    return _is_tuple(acquirers, 1, MOST_HOUSES) and all([is_number(many, 1, MOST_MEMBERS) for many in acquirers])
