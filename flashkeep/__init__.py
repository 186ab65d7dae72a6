"""Flashkeep: a drive on failing flash, and what is read of it behind any cut."""
