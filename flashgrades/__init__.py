"""Multi-stage flash: choosing flash grades."""
