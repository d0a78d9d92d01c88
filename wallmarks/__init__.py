"""Four on a line: points of a line, and how a picture shows them."""
