package prekeys

import (
	"math"
	"slices"
	"strings"
)

// replay does what the records of a log do, up to the first that is none or is refused. It tells how many bytes of the log that was.
func (s *Server) replay(log string) int {
	rest := log
	for {
		r, behind, err := firstRecord(rest)
		if err != nil || !s.redo(r) {
			return len(log) - len(rest)
		}
		rest = behind
	}
}

// redo does not look whether the pool is full: the record was taken under another config, maybe (P10).
func (s *Server) redo(r record) bool {
	h := s.shardOf(r.Name)
	h.lock.Lock()
	defer h.lock.Unlock()
	code, change := h.weigh(r, math.MaxInt)
	if code != codeFine {
		return false
	}
	change()
	return true
}

// store tells whether a record is safe; if not, the server is down from here on (P12).
func (s *Server) store(r record) bool {
	err := s.disk.Write(recordText(r))
	if err == nil {
		err = s.disk.Sync()
	}
	s.down = err != nil
	return !s.down
}

// logAnew tells a log by which all is as it is now, without the way that led there (P13).
func (s *Server) logAnew() string {
	var names []string
	for i := range s.shards {
		names = append(names, s.shards[i].names()...)
	}
	slices.Sort(names)
	var log strings.Builder
	for _, name := range names {
		for _, r := range s.recordsOf(name) {
			log.WriteString(recordText(r))
		}
	}
	return log.String()
}

func (s *Server) recordsOf(name string) []record {
	h := s.shardOf(name)
	h.lock.Lock()
	defer h.lock.Unlock()
	e := h.entries[name]
	records := []record{{Request: Request{Kind: kindRegister, Name: name, Identity: e.identity, ID: e.id, Key: e.key, Seal: e.seal}}}
	for ids := range slices.Chunk(e.gone(), maxKeys) {
		records = append(records, usedRecord(name, ids))
	}
	for keys := range slices.Chunk(e.pool, maxKeys) {
		records = append(records, record{Request: Request{Kind: kindUpload, Name: name, Keys: keys}})
	}
	return records
}
