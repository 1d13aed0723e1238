package prekeys_test

import (
	"fmt"
	"math/rand/v2"
	"slices"
	"strings"
	"testing"

	"prekeys/prekeys"
)

// ask is a request as the plain directory knows it.
type ask struct {
	kind int // 0: what is no request
	name string
	ids  []int // of register and rotate one
	bad  bool  // its seal is spoilt
}

func (a ask) body() string {
	body := ""
	switch a.kind {
	case 0:
		return "" // a length of 0 may not be
	case 1:
		body = register(a.name, a.ids[0])
	case 2:
		body = rotate(a.name, a.ids[0])
	case 3:
		return upload(a.name, a.ids...)
	default:
		return head(a.kind, a.name)
	}
	if a.bad {
		return unsealed(body)
	}
	return body
}

type plainEntry struct {
	signed int
	pool   []int
	taken  map[int]bool
}

// plainDirectory does what P9 to P13 say in the plainest way: no bytes, no shards, no goroutines.
type plainDirectory struct {
	config  prekeys.Config
	entries map[string]*plainEntry
	log     []string
	tokens  [8]int
	closed  [8]bool
	notices []string
	down    bool

	fuse     int // of the disk
	diskDown bool
	wrote    bool
	pending  ask // what was only written when the disk went down, if it wrote that
}

func newPlain(c prekeys.Config) *plainDirectory {
	m := &plainDirectory{config: c, entries: map[string]*plainEntry{}}
	m.begin()
	return m
}

// begin is what Open makes anew.
func (m *plainDirectory) begin() {
	for i := range m.tokens {
		m.tokens[i] = m.config.Burst
	}
	m.closed, m.notices, m.down = [8]bool{}, nil, false
}

func (m *plainDirectory) refusal(a ask) int {
	e := m.entries[a.name]
	switch {
	case a.kind == 1 && e != nil:
		return 1
	case a.kind != 1 && e == nil:
		return 2
	case a.kind == 2 && a.ids[0] <= e.signed:
		return 7
	case a.bad:
		return 3
	}
	if a.kind != 3 {
		return 0
	}
	for i, id := range a.ids {
		if e.taken[id] || slices.Contains(a.ids[:i], id) {
			return 4
		}
	}
	if len(e.pool)+len(a.ids) > m.config.Pool {
		return 5
	}
	return 0
}

// burn tells whether the disk lives through an operation.
func (m *plainDirectory) burn() bool {
	m.fuse--
	m.diskDown = m.diskDown || m.fuse == 0
	return !m.diskDown
}

// safe tells whether the record of an ask is.
func (m *plainDirectory) safe(a ask) bool {
	if !m.burn() {
		m.down = true
		return false
	}
	if !m.burn() {
		m.down, m.wrote, m.pending = true, true, a
		return false
	}
	return true
}

// do changes the directory; a fetch gives a key.
func (m *plainDirectory) do(a ask) {
	e := m.entries[a.name]
	switch a.kind {
	case 1:
		m.entries[a.name] = &plainEntry{signed: a.ids[0], taken: map[int]bool{}}
	case 2:
		e.signed = a.ids[0]
	case 3:
		e.pool = append(e.pool, a.ids...)
		for _, id := range a.ids {
			e.taken[id] = true
		}
	case 4:
		m.log = append(m.log, given(a.name, e.pool[0]))
		e.pool = e.pool[1:]
		return
	}
	m.log = append(m.log, a.body())
}

// serve tells the reply in short, with a space behind it.
func (m *plainDirectory) serve(place int, a ask) string {
	closed := m.closed[place]
	m.closed[place] = closed || a.kind == 0
	if closed || m.down {
		return ""
	}
	if a.kind == 0 {
		return "255:9 "
	}
	if a.kind == 4 && m.tokens[place] == 0 {
		return "4:6 "
	}
	if a.kind == 4 {
		m.tokens[place]--
	}
	if code := m.refusal(a); code != 0 {
		return fmt.Sprintf("%d:%d ", a.kind, code)
	}
	e := m.entries[a.name]
	if a.kind == 5 {
		return fmt.Sprintf("5:0(%d) ", len(e.pool))
	}
	if a.kind == 4 && len(e.pool) == 0 {
		return fmt.Sprintf("4:0(%d) ", e.signed)
	}
	if !m.safe(a) {
		return ""
	}
	reply := fmt.Sprintf("%d:0 ", a.kind)
	if a.kind == 4 {
		reply = fmt.Sprintf("4:0(%d gives %d) ", e.signed, e.pool[0])
	}
	m.do(a)
	if a.kind == 4 && len(e.pool) < m.config.Low {
		m.notices = append(m.notices, a.name)
	}
	return reply
}

// crash keeps bytes of what was only written: it counts if the whole record is there.
func (m *plainDirectory) crash(keep int) {
	if m.wrote {
		body := m.pending.body()
		if m.pending.kind == 4 {
			body = given(m.pending.name, m.entries[m.pending.name].pool[0])
		}
		if keep >= len(recorded(body)) {
			m.do(m.pending)
		}
	}
	m.fuse, m.diskDown, m.wrote = 0, false, false
}

// compact tells how it went.
func (m *plainDirectory) compact() string {
	if m.down || !m.burn() {
		m.down = true
		return "down"
	}
	m.log = nil
	var names []string
	for name := range m.entries {
		names = append(names, name)
	}
	slices.Sort(names)
	for _, name := range names {
		e := m.entries[name]
		var gone []int
		for id := range e.taken {
			if !slices.Contains(e.pool, id) {
				gone = append(gone, id)
			}
		}
		slices.Sort(gone)
		m.log = append(m.log, register(name, e.signed))
		for ids := range slices.Chunk(gone, 10) {
			m.log = append(m.log, used(name, ids...))
		}
		for ids := range slices.Chunk(e.pool, 10) {
			m.log = append(m.log, upload(name, ids...))
		}
	}
	return "fine"
}

// player lets a server and the plain directory do the same.
type player struct {
	t       *testing.T
	random  *rand.Rand
	plain   *plainDirectory
	disk    *prekeys.Disk
	server  *prekeys.Server
	waiting [8][]ask // what has been sent, in part
	bytes   [8]string
}

func (p *player) ask() ask {
	names := []string{"a", "b", "é", "é1", "zzz"}
	a := ask{kind: 1 + p.random.IntN(5), name: names[p.random.IntN(len(names))], bad: p.random.IntN(8) == 0}
	if p.random.IntN(80) == 0 {
		return ask{kind: 0}
	}
	if a.kind > 3 {
		a.bad = false
		return a
	}
	if a.kind < 3 {
		a.ids = []int{p.random.IntN(400)}
		return a
	}
	a.bad = false
	for range 1 + p.random.IntN(10) {
		a.ids = append(a.ids, p.random.IntN(60)*p.random.IntN(60))
	}
	return a
}

// round sends some more on some connections, cut anywhere.
func (p *player) round() {
	var chunks, want []string
	for place := range p.random.IntN(9) {
		for range p.random.IntN(4) {
			a := p.ask()
			p.waiting[place] = append(p.waiting[place], a)
			p.bytes[place] += framed(a.body())
		}
		cut := len(p.bytes[place])
		if p.random.IntN(3) == 0 {
			cut = p.random.IntN(cut + 1)
		}
		chunks = append(chunks, p.bytes[place][:cut])
		p.bytes[place] = p.bytes[place][cut:]
		want = append(want, p.served(place))
	}
	answers := p.server.Round(chunks...)
	for place, answer := range answers {
		got := inShort(p.t, answer)
		if got != strings.TrimSpace(want[place]) {
			p.t.Fatalf("P11, P12: connection %d of %x: %q, want %q", place, chunks, got, want[place])
		}
	}
}

// served lets the plain directory serve what has come whole.
func (p *player) served(place int) string {
	out := ""
	for len(p.waiting[place]) > 0 && p.left(place) >= len(p.bytes[place]) {
		out += p.plain.serve(place, p.waiting[place][0])
		p.waiting[place] = p.waiting[place][1:]
	}
	return out
}

// left is how many bytes the frames behind the first that waits have.
func (p *player) left(place int) int {
	size := 0
	for _, a := range p.waiting[place][1:] {
		size += len(framed(a.body()))
	}
	return size
}

// reopen opens the disk as it is, or behind a crash; each time with another config.
func (p *player) reopen() {
	p.waiting, p.bytes = [8][]ask{}, [8]string{}
	p.plain.config = anyConfig(p.random)
	if p.random.IntN(4) > 0 {
		p.crash()
		p.spoil()
	}
	if p.plain.wrote { // there is something to be put right, but the disk is down
		p.expectOpenFails()
		p.crash()
	}
	p.server = opened(p.t, p.disk, p.plain.config)
	p.plain.begin()
	expectLog(p.t, "P10", p.disk, p.plain.log...)
}

func (p *player) crash() {
	keep := p.random.IntN(160)
	p.disk.Crash(keep)
	p.plain.crash(keep)
}

// spoil leaves something behind the log that must go, and lets Open fail at that at times.
func (p *player) spoil() {
	rubbish := []string{"", "\x00", "\xff\xff\xff\xff", recorded(given("nobody", 1)), recorded(register("new", 1))[:30]}
	p.disk.Write(rubbish[p.random.IntN(len(rubbish))])
	_, written := p.disk.Bytes()
	if written != "" && p.random.IntN(2) == 0 {
		p.disk.Fuse(1)
		p.expectOpenFails()
		p.crash()
	}
}

func (p *player) expectOpenFails() {
	safe, written := p.disk.Bytes()
	if s, err := prekeys.Open(p.disk, p.plain.config); s != nil || told(err) != "down" {
		p.t.Fatalf("P10: Open where Replace fails: %v, %s", s, told(err))
	}
	expectBytes(p.t, "behind an Open that failed", p.disk, safe, written)
}

func (p *player) step() {
	switch n := p.random.IntN(40); {
	case n == 0:
		p.reopen()
	case n == 1:
		expectCompact(p.t, p.server, p.plain.compact())
	case n == 2:
		p.plain.fuse = 1 + p.random.IntN(20)
		p.disk.Fuse(p.plain.fuse)
	case n < 10:
		p.server.Tick()
		for i := range p.plain.tokens {
			p.plain.tokens[i] = min(p.plain.tokens[i]+p.plain.config.Refill, p.plain.config.Burst)
		}
	case n < 14:
		expectNotices(p.t, p.server, p.plain.notices...)
		p.plain.notices = nil
	default:
		p.round()
	}
	expectDown(p.t, p.server, p.plain.down)
	safe, _ := p.disk.Bytes()
	if safe != logOf(p.plain.log...) {
		p.t.Fatalf("P12, P13: the log is %x, want %x", safe, logOf(p.plain.log...))
	}
}

func anyConfig(random *rand.Rand) prekeys.Config {
	return prekeys.Config{Pool: 1 + random.IntN(30), Low: random.IntN(31), Burst: 1 + random.IntN(20), Refill: random.IntN(20), Shards: 1 + random.IntN(8)}
}

// TestPlayedAgainstThePlainDirectory plays at random, the same each time, with fuses and crashes.
func TestPlayedAgainstThePlainDirectory(t *testing.T) {
	for seed := range uint64(60) {
		t.Run(fmt.Sprint("seed ", seed), func(t *testing.T) {
			random := rand.New(rand.NewPCG(seed, 7))
			c := anyConfig(random)
			d := prekeys.NewDisk()
			p := &player{t: t, random: random, plain: newPlain(c), disk: d, server: opened(t, d, c)}
			for range 300 {
				p.step()
			}
		})
	}
}
