"""The errors of the whole program."""


class VaultError(ValueError):
    """The base class of all errors of this program."""


class PowerCut(VaultError):
    """A step of the device exceeded the limit of power."""


class Conflict(VaultError):
    """A transaction changed a key that another one changed since its snapshot."""


class NoTransaction(VaultError):
    """The transaction is not open."""


class WrongStore(VaultError):
    """The device has a store with other dimensions or another metric."""
