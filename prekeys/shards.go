package prekeys

import (
	"maps"
	"slices"
	"sync"
)

// shard is one of the maps that the names are spread over (P10). Who goes to its entries holds its lock, from the question whether a record is refused till what it does is done.
type shard struct {
	lock    sync.Mutex
	entries map[string]*entry
}

func newShards(count int) []shard {
	shards := make([]shard, count)
	for i := range shards {
		shards[i].entries = map[string]*entry{}
	}
	return shards
}

func (s *Server) shardOf(name string) *shard {
	place := addToSeal(sealStart, name) % uint64(len(s.shards))
	return &s.shards[place]
}

// weigh tells why a record is refused or, with codeFine, its change (P9). The pool may have as many keys as most behind it.
func (h *shard) weigh(r record, most int) (code int, change func()) {
	if r.Kind == kindRegister {
		return h.register(r.Request)
	}
	e := h.entries[r.Name]
	if e == nil {
		return codeNone, nil
	}
	switch r.Kind {
	case kindRotate:
		return e.rotate(signedOf(r.Request))
	case kindUpload:
		return e.upload(r.Keys, idsOf(r.Request), most)
	case kindGiven:
		return e.give(r.ID)
	}
	return e.use(r.ids)
}

func (h *shard) register(r Request) (code int, change func()) {
	signed := signedOf(r)
	if h.entries[r.Name] != nil {
		return codeKnown, nil
	}
	if !signed.sealedFor(r.Identity) {
		return codeSeal, nil
	}
	return codeFine, func() {
		h.entries[r.Name] = &entry{signedKey: signed, identity: r.Identity, taken: map[int]struct{}{}}
	}
}

func (h *shard) count(name string) Reply {
	e := h.entries[name]
	if e == nil {
		return Reply{Kind: kindCount, Code: codeNone}
	}
	return Reply{Kind: kindCount, Count: len(e.pool)}
}

func (h *shard) names() []string {
	h.lock.Lock()
	defer h.lock.Unlock()
	return slices.Collect(maps.Keys(h.entries))
}
