"""Why an instruction stops the machine."""


class Ended(Exception):
    """Stop 1."""


class NoInstruction(Exception):
    """Stop 3."""


class NoBytes(Exception):
    """Stop 4."""


class NoQuotient(Exception):
    """Stop 5."""


class NoDigits(Exception):
    """Stop 6."""
