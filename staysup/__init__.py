"""A small house of processes that keeps accounts and doesn't stay down."""
