"""Dealclerks: two wares with a sign between them."""
