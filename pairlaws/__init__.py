"""Relations between finite lists of names, and claims that hold for all of them."""
