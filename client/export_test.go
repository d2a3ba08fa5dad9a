package client

// SetNumber makes a number the last one that a client has used: no row of requests comes to the greatest.
func SetNumber(c *Client, n int) {
	c.number = n
}
