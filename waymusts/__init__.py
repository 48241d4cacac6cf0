"""Waymusts: places that no way leaves out, shown by two orders."""
