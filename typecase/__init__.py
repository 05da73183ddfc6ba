"""Letters in a case, and the pages that are set from them."""
