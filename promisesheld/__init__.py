"""What can't both be kept: duties between states, and the conducts that break least of them."""
