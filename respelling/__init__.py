"""respell: texts of code points rewritten by rules."""
