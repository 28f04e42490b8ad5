"""How often loops over wrapping words turn, and what their words are then."""
