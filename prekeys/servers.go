package prekeys

// isConfig has P10's limits.
func isConfig(c Config) bool {
	return within(c.Pool, 1, 30) && within(c.Low, 0, 30) &&
		within(c.Burst, 1, 100) && within(c.Refill, 0, 100) && within(c.Shards, 1, 8)
}

func within(number, least, most int) bool { return number >= least && number <= most }

func newServer(d *Disk, c Config) *Server {
	s := &Server{disk: d, config: c, shards: newShards(c.Shards)}
	for i := range s.connections {
		s.connections[i].tokens = c.Burst
	}
	return s
}

// answer serves a request (P12). It tells false if there is no answer, as the server is down.
func (s *Server) answer(c *connection, r Request) (Reply, bool) {
	if s.down {
		return Reply{}, false
	}
	if r.Kind == kindFetch && !c.spend() {
		return Reply{Kind: kindFetch, Code: codeSlow}, true
	}
	h := s.shardOf(r.Name)
	h.lock.Lock()
	defer h.lock.Unlock()
	switch r.Kind {
	case kindFetch:
		return s.fetch(h, r.Name)
	case kindCount:
		return h.count(r.Name), true
	}
	code := s.do(h, record{Request: r})
	return Reply{Kind: r.Kind, Code: code}, !s.down
}

// do writes a record ahead of what it does, and tells why it is refused (P9). If the record is not safe nothing is done, and the server is down.
func (s *Server) do(h *shard, r record) (code int) {
	code, change := h.weigh(r, s.config.Pool)
	if code == codeFine && s.store(r) {
		change()
	}
	return code
}

func (s *Server) fetch(h *shard, name string) (Reply, bool) {
	e := h.entries[name]
	if e == nil {
		return Reply{Kind: kindFetch, Code: codeNone}, true
	}
	reply := Reply{Kind: kindFetch, Identity: e.identity, ID: e.id, Key: e.key, Seal: e.seal}
	if len(e.pool) == 0 {
		return reply, true
	}
	first := e.pool[0]
	reply.One, reply.OneID, reply.OneKey = true, first.ID, first.Key
	s.do(h, givenRecord(name, first.ID))
	if s.down {
		return Reply{}, false
	}
	if len(e.pool) < s.config.Low {
		s.notices = append(s.notices, name)
	}
	return reply, true
}
