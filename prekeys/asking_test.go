package prekeys_test

import (
	"encoding/binary"
	"fmt"
	"hash/crc32"
	"slices"
	"strings"
	"testing"

	"prekeys/prekeys"
)

// The bodies of requests and records, worked out by hand. Everybody's identity is "identity", and a key is known by its id.

func keyOf(id int) string { return fmt.Sprintf("key%05d", id) }

func twoBytes(number int) string { return string([]byte{byte(number >> 8), byte(number)}) }

func head(kind int, name string) string {
	return string([]byte{byte(kind), byte(len(name))}) + name
}

func signedPartOf(id int) string {
	return twoBytes(id) + keyOf(id) + prekeys.Seal("identity", keyOf(id))
}

func register(name string, id int) string { return head(1, name) + "identity" + signedPartOf(id) }

func rotate(name string, id int) string { return head(2, name) + signedPartOf(id) }

func upload(name string, ids ...int) string {
	body := head(3, name) + string([]byte{byte(len(ids))})
	for _, id := range ids {
		body += twoBytes(id) + keyOf(id)
	}
	return body
}

func fetch(name string) string { return head(4, name) }

func count(name string) string { return head(5, name) }

func given(name string, id int) string { return head(6, name) + twoBytes(id) }

func used(name string, ids ...int) string {
	body := head(7, name) + string([]byte{byte(len(ids))})
	for _, id := range ids {
		body += twoBytes(id)
	}
	return body
}

// unsealed spoils the last byte of a body: of register and rotate that is the seal's.
func unsealed(body string) string {
	last := len(body) - 1
	return body[:last] + string([]byte{body[last] ^ 1})
}

// rising tells the ids from first to last.
func rising(first, last int) []int {
	var ids []int
	for id := first; id <= last; id++ {
		ids = append(ids, id)
	}
	return ids
}

func chunk(bodies ...string) string {
	text := ""
	for _, body := range bodies {
		text += framed(body)
	}
	return text
}

func recorded(body string) string {
	return framed(body) + string(binary.BigEndian.AppendUint32(nil, crc32.ChecksumIEEE([]byte(body))))
}

func logOf(bodies ...string) string {
	text := ""
	for _, body := range bodies {
		text += recorded(body)
	}
	return text
}

// inShort tells replies as KIND:CODE, of a fetch with the ids of the signed key and of the key that is given, of a count with its number.
func inShort(t *testing.T, text string) string {
	t.Helper()
	replies, err := prekeys.Replies(text)
	if err != nil {
		t.Errorf("P11: the answer %x is not made of replies: %v", text, err)
	}
	var words []string
	for _, r := range replies {
		word := fmt.Sprint(r.Kind, ":", r.Code)
		if r.Kind == 4 && r.Code == 0 {
			word += fetchedInShort(t, r)
		}
		if r.Kind == 5 && r.Code == 0 {
			word += fmt.Sprint("(", r.Count, ")")
		}
		words = append(words, word)
	}
	return strings.Join(words, " ")
}

func fetchedInShort(t *testing.T, r prekeys.Reply) string {
	t.Helper()
	if r.Identity != "identity" || r.Key != keyOf(r.ID) || r.Seal != prekeys.Seal("identity", r.Key) {
		t.Errorf("P12: a fetch tells another's signed key: %+v", r)
	}
	if !r.One {
		return fmt.Sprint("(", r.ID, ")")
	}
	if r.OneKey != keyOf(r.OneID) {
		t.Errorf("P12: a fetch gives another's key: %+v", r)
	}
	return fmt.Sprint("(", r.ID, " gives ", r.OneID, ")")
}

// plenty is a config that stands in the way of nothing.
func plenty() prekeys.Config {
	return prekeys.Config{Pool: 30, Low: 0, Burst: 100, Refill: 100, Shards: 3}
}

func opened(t *testing.T, d *prekeys.Disk, c prekeys.Config) *prekeys.Server {
	t.Helper()
	s, err := prekeys.Open(d, c)
	if err != nil || s == nil {
		t.Fatalf("P10: Open with %+v: %v, %v", c, s, err)
	}
	return s
}

// serverOf makes a server over a disk that has a log of these records.
func serverOf(t *testing.T, c prekeys.Config, bodies ...string) (*prekeys.Server, *prekeys.Disk) {
	t.Helper()
	d := diskWith(t, logOf(bodies...), "")
	return opened(t, d, c), d
}

// expectServed lets requests come on connection 0.
func expectServed(t *testing.T, promise string, s *prekeys.Server, want string, bodies ...string) {
	t.Helper()
	expectRound(t, promise, s, []string{chunk(bodies...)}, want)
}

func expectRound(t *testing.T, promise string, s *prekeys.Server, chunks []string, want ...string) {
	t.Helper()
	answers := s.Round(chunks...)
	var got []string
	for _, text := range answers {
		got = append(got, inShort(t, text))
	}
	if !slices.Equal(got, want) {
		t.Errorf("%s: Round(%x) = %q, want %q", promise, chunks, got, want)
	}
}

// expectLog wants records to be safe on a disk, and nothing only written.
func expectLog(t *testing.T, promise string, d *prekeys.Disk, bodies ...string) {
	t.Helper()
	safe, written := d.Bytes()
	if safe != logOf(bodies...) || written != "" {
		t.Errorf("%s: the disk has %x, only written %x; want %x", promise, safe, written, logOf(bodies...))
	}
}

func expectNotices(t *testing.T, s *prekeys.Server, want ...string) {
	t.Helper()
	if got := s.Notices(); !slices.Equal(got, want) {
		t.Errorf("P13: Notices() = %q, want %q", got, want)
	}
}

func expectDown(t *testing.T, s *prekeys.Server, want bool) {
	t.Helper()
	if got := s.Down(); got != want {
		t.Errorf("P12: Down() = %v, want %v", got, want)
	}
}
