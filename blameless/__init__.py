"""Components, machine code, and who is to blame."""
