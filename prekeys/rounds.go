package prekeys

import (
	"strings"
	"sync"
)

// arrive reads all chunks at once: reading hangs on the connection alone, serving on what those ahead have done.
func (s *Server) arrive(chunks []string) []arrival {
	arrivals := make([]arrival, len(chunks))
	var readers sync.WaitGroup
	for i, chunk := range chunks {
		readers.Add(1)
		go func() {
			defer readers.Done()
			arrivals[i] = s.connections[i].take(chunk)
		}()
	}
	readers.Wait()
	return arrivals
}

// serveAll serves one connection after the other (P11). What each is answered is written by a goroutine of its own, while the next is served.
func (s *Server) serveAll(arrivals []arrival, answers []string) {
	var writers sync.WaitGroup
	for i, come := range arrivals {
		replies := make(chan Reply)
		writers.Add(1)
		go func() {
			defer writers.Done()
			answers[i] = writeAll(replies)
		}()
		s.serve(&s.connections[i], come, replies)
		close(replies)
	}
	writers.Wait()
}

// writeAll tells the frames of the replies that are sent to it, till there are no more.
func writeAll(replies <-chan Reply) string {
	var text strings.Builder
	for reply := range replies {
		text.WriteString(frame(replyBody(reply)))
	}
	return text.String()
}

// serve sends the replies to what has come on a connection. A server that is down sends none, and not to what is no frame either (P12).
func (s *Server) serve(c *connection, come arrival, replies chan<- Reply) {
	for _, request := range come.requests {
		if reply, answered := s.answer(c, request); answered {
			replies <- reply
		}
	}
	if come.wrong && !s.down {
		replies <- Reply{Kind: kindNoFrame, Code: codeNoFrame}
	}
}
