"""Things that cost more the more use them."""
