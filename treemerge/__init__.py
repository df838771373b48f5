"""One tree edited on two sides, and merged by its nodes."""
