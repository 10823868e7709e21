"""Tables of products of up to eight things, and what is told of them."""
