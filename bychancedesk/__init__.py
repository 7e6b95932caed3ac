"""By chance: how likely one can come to what's wanted, and what it costs to make it sure."""
