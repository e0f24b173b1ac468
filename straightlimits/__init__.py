"""The most to be got within straight limits, with its proof."""
