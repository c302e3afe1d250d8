"""Why an instruction stops the machine."""


class NoInstruction(Exception):
    """Stop 3."""


class NoQuotient(Exception):
    """Stop 5."""


class NoDigits(Exception):
    """Stop 6."""
