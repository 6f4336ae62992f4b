"""Generic definitions whose nearest row is chosen, and that reckon while a program is made."""
