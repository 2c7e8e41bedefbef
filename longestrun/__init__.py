"""How long a program takes at most, told before it runs."""
