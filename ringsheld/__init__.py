"""Friends and foes: groups of people that nobody would leave."""
