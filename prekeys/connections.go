package prekeys

import "strings"

// connectionCount is how many connections a server has (P10).
const connectionCount = 8

type connection struct {
	left   string // of a frame that is not whole yet
	tokens int
	closed bool
}

// arrival is what has come on a connection in a round.
type arrival struct {
	requests []Request
	wrong    bool // behind them comes what is no request
}

// take adds a chunk to what is left on the connection, and takes off what is whole. It touches nothing but the connection, so that all of them can be read at once.
func (c *connection) take(chunk string) arrival {
	if c.closed {
		return arrival{}
	}
	var come arrival
	rest := c.left + chunk
	for {
		request, behind, err := readFrame(rest, readRequest)
		if err != nil {
			come.wrong = err == ErrFrame
			break
		}
		come.requests = append(come.requests, request)
		rest = behind
	}
	c.left, c.closed = strings.Clone(rest), come.wrong
	if c.closed {
		c.left = ""
	}
	return come
}

// spend takes a token, if there is one.
func (c *connection) spend() bool {
	if c.tokens == 0 {
		return false
	}
	c.tokens--
	return true
}
