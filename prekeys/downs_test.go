package prekeys_test

import (
	"slices"
	"testing"
)

// TestExampleOfACrash is example 7: the Write succeeds, the Sync does not.
func TestExampleOfACrash(t *testing.T) {
	for keep, want := range map[int]string{0: "5:0(0)", 21: "5:0(0)", 22: "5:0(1)", 1000: "5:0(1)"} {
		s, d := serverOf(t, plenty(), register("a", 1))
		d.Fuse(2)
		expectServed(t, "P12", s, "", upload("a", 9))
		expectDown(t, s, true)
		d.Crash(keep)
		expectServed(t, "P10", opened(t, d, plenty()), want, count("a"))
	}
}

func TestNothingIsDoneWhenTheDiskFails(t *testing.T) {
	c := plenty()
	c.Low = 30
	before := []string{register("a", 1), upload("a", 1, 2)}
	for _, change := range []string{register("b", 1), rotate("a", 2), upload("a", 3), fetch("a")} {
		for _, fuse := range []int{1, 2} {
			s, d := serverOf(t, c, before...)
			d.Fuse(fuse)
			expectServed(t, "P12", s, "5:0(2)", count("a"), change, count("a"), change)
			expectDown(t, s, true)
			expectNotices(t, s)
			d.Crash(0)
			expectLog(t, "P12", d, before...)
			again := opened(t, d, c)
			expectServed(t, "P12", again, "5:0(2) 5:2 4:0(1 gives 1)", count("a"), count("b"), fetch("a"))
		}
	}
}

// TestServerStaysDown asks a server that is down for everything, also when its disk is up again.
func TestServerStaysDown(t *testing.T) {
	s, d := serverOf(t, plenty(), register("a", 1), upload("a", 1))
	d.Fuse(1)
	expectRound(t, "P12", s, []string{chunk(count("a")), chunk(upload("a", 2), count("a")), chunk(count("a")) + "\xff\xff\xff\xff", "\x00\x00\x00\x00"}, "5:0(1)", "", "", "")
	for range 2 {
		expectDown(t, s, true)
		all := chunk(count("a"), count("z"), fetch("a"), fetch("z"), upload("a", 3), rotate("a", 3), register("b", 1), register("a", 1))
		expectRound(t, "P12", s, slices.Repeat([]string{all + "\x00\x00\x00\x00"}, 9), slices.Repeat([]string{""}, 9)...)
		expectRound(t, "P12", s, []string{all, "\xff\xff\xff\xff"}, "", "")
		s.Tick()
		expectNotices(t, s)
		if err := s.Compact(); told(err) != "down" {
			t.Errorf("P13: Compact of a server that is down: %s", told(err))
		}
		expectBytes(t, "P12: the disk of a server that is down", d, logOf(register("a", 1), upload("a", 1)), "")
		d.Crash(0)
	}
}

// TestNoticesOutliveTheDisk: what came about ahead of the failure is told still.
func TestNoticesOutliveTheDisk(t *testing.T) {
	c := plenty()
	c.Low = 5
	s, d := serverOf(t, c, register("a", 1), upload("a", 1, 2))
	d.Fuse(3)
	expectServed(t, "P12", s, "4:0(1 gives 1)", fetch("a"), fetch("a"))
	expectDown(t, s, true)
	expectNotices(t, s, "a")
	expectNotices(t, s)
}
