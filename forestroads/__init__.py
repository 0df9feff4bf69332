"""Roads: which roads of a forest make building and carrying together the cheapest."""
