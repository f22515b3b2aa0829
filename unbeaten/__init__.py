"""The best by several measures: which items of a list are beaten by others, and which are not."""
