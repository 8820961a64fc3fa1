"""Networks of reactions, told exactly from a text."""
