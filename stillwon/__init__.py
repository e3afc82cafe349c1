"""Can it still be won? All that a tale can come to is gone through."""
