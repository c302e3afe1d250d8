"""A processor for nested procedures, decimal and long numbers."""
