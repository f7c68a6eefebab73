"""Groups told by words that are nothing."""
