package prekeys

import (
	"maps"
	"slices"
)

// signedKey is the key that every asker is told.
type signedKey struct {
	id        int
	key, seal string
}

func signedOf(r Request) signedKey { return signedKey{id: r.ID, key: r.Key, seal: r.Seal} }

func (k signedKey) sealedFor(identity string) bool { return k.seal == Seal(identity, k.key) }

// entry is what is kept of a name. What would change it tells why it is refused or, with codeFine, a change: it is called when the record of it is safe, and not at all if that fails (P12).
type entry struct {
	signedKey
	identity string
	pool     []OneTime
	taken    map[int]struct{} // the ids of the pool's keys, and of all that have left it
}

func (e *entry) rotate(to signedKey) (code int, change func()) {
	if to.id <= e.id {
		return codeOld, nil
	}
	if !to.sealedFor(e.identity) {
		return codeSeal, nil
	}
	return codeFine, func() { e.signedKey = to }
}

func (e *entry) upload(keys []OneTime, ids []int, most int) (code int, change func()) {
	if e.hasAny(ids) {
		return codeAgain, nil
	}
	if len(e.pool)+len(keys) > most {
		return codeFull, nil
	}
	return codeFine, func() {
		e.pool = append(e.pool, keys...)
		e.take(ids)
	}
}

func (e *entry) give(id int) (code int, change func()) {
	if len(e.pool) == 0 || e.pool[0].ID != id {
		return codeNone, nil
	}
	return codeFine, func() {
		e.pool[0] = OneTime{} // the list behind the pool must not keep a key that is gone
		e.pool = e.pool[1:]
	}
}

func (e *entry) use(ids []int) (code int, change func()) {
	if e.hasAny(ids) {
		return codeAgain, nil
	}
	return codeFine, func() { e.take(ids) }
}

// hasAny tells whether an id is taken already, or would be by another one of these.
func (e *entry) hasAny(ids []int) bool {
	for i, id := range ids {
		if _, taken := e.taken[id]; taken || slices.Contains(ids[:i], id) {
			return true
		}
	}
	return false
}

func (e *entry) take(ids []int) {
	for _, id := range ids {
		e.taken[id] = struct{}{}
	}
}

// gone tells the ids that are taken and not in the pool, rising.
func (e *entry) gone() []int {
	ids := maps.Clone(e.taken)
	for _, one := range e.pool {
		delete(ids, one.ID)
	}
	return slices.Sorted(maps.Keys(ids))
}
