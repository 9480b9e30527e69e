"""An assembly: a text before it, motions about it, and who brought each word. See assemblyhall.floor."""
