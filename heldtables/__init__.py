"""Tables of keys and values that several processes use: see heldtables.tables.answers."""
