// Package prekeys: a directory of keys that are given out once each: see DOC.md.
package prekeys

import (
	"errors"
	"strconv"
	"sync"
)

// Why something is refused: asked with errors.Is.
var (
	ErrConfig = errors.New("a config that may not be")
	ErrName   = errors.New("no name")
	ErrKey    = errors.New("no key of eight bytes")
	ErrID     = errors.New("no number of a key")
	ErrCount  = errors.New("too few or too many keys")
	ErrKind   = errors.New("no kind of request")
	ErrShort  = errors.New("a frame that ends too early")
	ErrFrame  = errors.New("no frame")
	ErrDown   = errors.New("the disk is down")
)

// Fault is a reason and where: asked with errors.As (for a *Fault).
type Fault struct {
	At  int
	Err error
}

func (f *Fault) Error() string {
	place := "at place " + strconv.Itoa(f.At)
	if f.Err == nil {
		return place
	}
	return place + ": " + f.Err.Error()
}

func (f *Fault) Unwrap() error { return f.Err }

// OneTime is a key that is given once.
type OneTime struct {
	ID  int
	Key string
}

// Request is what a client asks (P5).
type Request struct {
	Kind                      int
	Name, Identity, Key, Seal string
	ID                        int
	Keys                      []OneTime
}

// Reply is what it is answered (P7).
type Reply struct {
	Kind, Code          int
	Identity, Key, Seal string
	ID                  int
	One                 bool
	OneID               int
	OneKey              string
	Count               int
}

// Config tells sizes (P10).
type Config struct {
	Pool, Low, Burst, Refill, Shards int
}

// Valid tells whether a text is a name (P3).
func Valid(name string) error {
	ahead := 0
	for _, letter := range name {
		if ahead == maxLetters || !standsInName(letter) {
			return &Fault{At: ahead, Err: ErrName}
		}
		ahead++
	}
	if ahead == 0 {
		return &Fault{At: 0, Err: ErrName}
	}
	return nil
}

// Seal tells the seal of a key (P4).
func Seal(identity, key string) string {
	sum := addToSeal(sealStart, identity)
	sum = addToSeal(sum, key)
	return string(appendNumber(nil, sum, sealSize))
}

// Encode tells a request's frame (P5).
func Encode(r Request) (string, error) {
	if err := checkRequest(r); err != nil {
		return "", err
	}
	return frame(requestBody(r)), nil
}

// Requests tells the requests of a text (P6).
func Requests(text string) func(yield func(Request, error) bool) {
	return frames(text, readRequest)
}

// Replies tells the replies of a text (P7).
func Replies(text string) ([]Reply, error) {
	var replies []Reply
	for reply, err := range frames(text, readReply) {
		if err != nil {
			return nil, &Fault{At: len(replies), Err: err}
		}
		replies = append(replies, reply)
	}
	return replies, nil
}

// Disk is a stand-in for a file (P8).
type Disk struct {
	lock    sync.Mutex
	safe    []byte
	written []byte
	fuse    int // how many operations it takes till the disk goes down; 0: none is lit
	down    bool
}

// NewDisk makes an empty one (P8).
func NewDisk() *Disk { return &Disk{} }

// Write adds to what is only written (P8).
func (d *Disk) Write(text string) error {
	return d.operate(func() { d.written = append(d.written, text...) })
}

// Sync makes what is written safe (P8).
func (d *Disk) Sync() error {
	return d.operate(func() { d.keep(len(d.written)) })
}

// Replace puts a text in the place of all (P8).
func (d *Disk) Replace(text string) error {
	return d.operate(func() { d.safe, d.written = []byte(text), nil })
}

// Fuse lets the disk go down later (P8).
func (d *Disk) Fuse(n int) {
	d.lock.Lock()
	defer d.lock.Unlock()
	d.fuse = max(n, 0)
}

// Crash loses what is not safe (P8).
func (d *Disk) Crash(keep int) {
	d.lock.Lock()
	defer d.lock.Unlock()
	d.keep(min(max(keep, 0), len(d.written)))
	d.fuse, d.down = 0, false
}

// Bytes tells what is safe, and what is only written (P8).
func (d *Disk) Bytes() (string, string) {
	d.lock.Lock()
	defer d.lock.Unlock()
	return string(d.safe), string(d.written)
}

// Server is a directory over a disk.
type Server struct {
	lock        sync.Mutex // of all but the shards, which have their own
	disk        *Disk
	config      Config
	shards      []shard
	connections [connectionCount]connection
	notices     []string
	down        bool
}

// Open makes a server out of what a disk has (P10).
func Open(d *Disk, c Config) (*Server, error) {
	if !isConfig(c) {
		return nil, ErrConfig
	}
	s := newServer(d, c)
	safe, written := d.Bytes()
	log := safe + written
	read := s.replay(log)
	if written == "" && read == len(log) {
		return s, nil
	}
	if err := d.Replace(log[:read]); err != nil {
		return nil, err
	}
	return s, nil
}

// Round lets chunks arrive, one on each connection, and tells what is answered (P11).
func (s *Server) Round(chunks ...string) []string {
	s.lock.Lock()
	defer s.lock.Unlock()
	answers := make([]string, len(chunks))
	arrivals := s.arrive(chunks[:min(len(chunks), connectionCount)])
	s.serveAll(arrivals, answers)
	return answers
}

// Tick lets the time go on (P13).
func (s *Server) Tick() {
	s.lock.Lock()
	defer s.lock.Unlock()
	for i := range s.connections {
		c := &s.connections[i]
		c.tokens = min(c.tokens+s.config.Refill, s.config.Burst)
	}
}

// Notices tells whose keys are nearly gone (P13).
func (s *Server) Notices() []string {
	s.lock.Lock()
	defer s.lock.Unlock()
	notices := s.notices
	s.notices = nil
	return notices
}

// Compact writes the log anew (P13).
func (s *Server) Compact() error {
	s.lock.Lock()
	defer s.lock.Unlock()
	if s.down {
		return ErrDown
	}
	err := s.disk.Replace(s.logAnew())
	s.down = err != nil
	return err
}

// Down tells whether the disk has failed it (P12).
func (s *Server) Down() bool {
	s.lock.Lock()
	defer s.lock.Unlock()
	return s.down
}
