"""Who'd leave whom: coalitions, their offices, and which of them may govern."""
