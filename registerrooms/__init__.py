"""Small programs of blocks, and what can be shown of them."""
