"""Home automation rules: a house that is simulated minute by minute."""
