"""Two pictures of one room: where what is seen in the one is seen in the other."""
