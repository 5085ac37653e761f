"""Files headings by a house's own code."""
