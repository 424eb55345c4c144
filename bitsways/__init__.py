"""How much each bit sways a yes or no."""
