"""Points of a box that lie even, judged by what is nought on all of them."""
