"""Roads: which roads of a forest make building and carrying together the cheapest, and how to share their cost."""
