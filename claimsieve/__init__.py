"""Claimsieve: claims of programs over numbers and lists, sieved by clauses till all that stays holds."""
