"""The refusals, each with a class of its own; StoreError stands for any of them."""


class StoreError(ValueError):
    pass


class Taken(StoreError):
    pass


class Missing(StoreError):
    pass


class Full(StoreError):
    pass


class NotBegun(StoreError):
    pass


class NoOrder(StoreError):
    pass
