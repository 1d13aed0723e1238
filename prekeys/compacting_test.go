package prekeys_test

import (
	"testing"

	"prekeys/prekeys"
)

func expectCompact(t *testing.T, s *prekeys.Server, want string) {
	t.Helper()
	if err := s.Compact(); told(err) != want {
		t.Errorf("P13: Compact(): %s, want %s", told(err), want)
	}
}

func TestCompactOfNothing(t *testing.T) {
	s, d := serverOf(t, plenty())
	expectCompact(t, s, "fine")
	expectLog(t, "P13", d)
}

func TestCompactWritesAnew(t *testing.T) {
	bodies := []string{register("a", 1), rotate("a", 2), upload("a", 9, 3), given("a", 9), upload("a", 1, 65535, 0), given("a", 3), rotate("a", 7)}
	s, d := serverOf(t, plenty(), bodies...)
	expectLog(t, "P13", d, bodies...)
	expectCompact(t, s, "fine")
	anew := []string{register("a", 7), used("a", 3, 9), upload("a", 1, 65535, 0)}
	expectLog(t, "P13", d, anew...)
	expectCompact(t, s, "fine")
	expectLog(t, "P13", d, anew...)
	expectServed(t, "P13", s, "4:0(7 gives 1)", fetch("a"))
	expectLog(t, "P13", d, append(anew, given("a", 1))...)
	expectCompact(t, s, "fine")
	expectLog(t, "P13", d, register("a", 7), used("a", 1, 3, 9), upload("a", 65535, 0))
}

func TestCompactGoesByTheNamesBytes(t *testing.T) {
	names := []string{"ÿ", "é1", "b", "a", "é", "ab", "0", "a0", "z", "9", "à", longName, "aà"}
	rising := []string{"0", "9", "a", "a0", "ab", "aà", "b", "z", "à", "é", "é1", longName, "ÿ"}
	for shards := 1; shards <= 8; shards++ {
		c := plenty()
		c.Shards = shards
		var before, after []string
		for _, name := range names {
			before = append(before, register(name, 5), upload(name, 2, 1), given(name, 2))
		}
		for _, name := range rising {
			after = append(after, register(name, 5), used(name, 2), upload(name, 1))
		}
		s, d := serverOf(t, c, before...)
		expectCompact(t, s, "fine")
		expectLog(t, "P13", d, after...)
	}
}

// TestCompactTellsTenAtOnce has pools and used ids of all lengths from 0 to 30.
func TestCompactTellsTenAtOnce(t *testing.T) {
	for gone := range 31 {
		for left := range 31 {
			before, after := []string{register("a", 1)}, []string{register("a", 1)}
			for id := gone; id > 0; id-- { // falling: they must be told rising
				before = append(before, upload("a", 1000+id), given("a", 1000+id))
			}
			for id := left; id > 0; id-- { // falling: they must be told in this order
				before = append(before, upload("a", id))
			}
			for first := 1; first <= gone; first += 10 {
				after = append(after, used("a", rising(1000+first, 1000+min(first+9, gone))...))
			}
			for first := left; first > 0; first -= 10 {
				after = append(after, upload("a", falling(first, max(first-9, 1))...))
			}
			s, d := serverOf(t, plenty(), before...)
			expectCompact(t, s, "fine")
			expectLog(t, "P13", d, after...)
		}
	}
}

func falling(first, last int) []int {
	var ids []int
	for id := first; id >= last; id-- {
		ids = append(ids, id)
	}
	return ids
}

// TestCompactKeepsWhatCounts opens the new log: names, signed keys, pools and taken ids are as they were.
func TestCompactKeepsWhatCounts(t *testing.T) {
	s, d := serverOf(t, plenty(), register("a", 1), upload("a", 5, 4, 3), given("a", 5), rotate("a", 8), used("a", 6), register("b", 3))
	expectCompact(t, s, "fine")
	for _, server := range []*prekeys.Server{opened(t, d, plenty()), s} {
		expectServed(t, "P13", server, "1:1 2:7 3:4 3:4 3:4 5:0(2) 5:0(0) 5:2", register("a", 9), rotate("a", 8), upload("a", 5), upload("a", 4), upload("a", 6), count("a"), count("b"), count("c"))
	}
	expectServed(t, "P13", s, "4:0(8 gives 4) 4:0(8 gives 3) 4:0(8) 4:0(3)", fetch("a"), fetch("a"), fetch("a"), fetch("b"))
}

func TestCompactLeavesConnectionsAlone(t *testing.T) {
	c := plenty()
	c.Burst, c.Low = 1, 9
	s, _ := serverOf(t, c, register("a", 1), upload("a", 1, 2))
	text := chunk(count("a"))
	expectRound(t, "P13", s, []string{chunk(fetch("a")) + text[:5], "\xff\xff\xff\xff"}, "4:0(1 gives 1)", "255:9")
	expectCompact(t, s, "fine")
	expectRound(t, "P13", s, []string{text[5:] + chunk(fetch("a")), text}, "5:0(1) 4:6", "")
	expectNotices(t, s, "a")
}

// TestCompactIsOneReplace counts operations by a fuse.
func TestCompactIsOneReplace(t *testing.T) {
	before := []string{register("a", 1), upload("a", 1, 2), given("a", 1)}
	s, d := serverOf(t, plenty(), before...)
	d.Fuse(2)
	expectCompact(t, s, "fine")
	expectDown(t, s, false)
	expectTold(t, "the operation behind Compact", d.Sync(), "down")

	s, d = serverOf(t, plenty(), before...)
	d.Fuse(1)
	expectCompact(t, s, "down")
	expectDown(t, s, true)
	expectLog(t, "P13", d, before...)
	d.Crash(0)
	expectCompact(t, s, "down")
	expectServed(t, "P13", s, "", count("a"))
	expectLog(t, "P13", d, before...)
}

func TestCompactDropsWhatIsOnlyWritten(t *testing.T) {
	s, d := serverOf(t, plenty(), register("a", 1))
	expectTold(t, "Write of another", d.Write("only written"), "fine")
	expectCompact(t, s, "fine")
	expectLog(t, "P13", d, register("a", 1))
}
