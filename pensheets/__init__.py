"""pensheets: drawings made with a pen, stroke by stroke."""
