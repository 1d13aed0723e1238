package prekeys_test

import (
	"slices"
	"strings"
	"testing"

	"prekeys/prekeys"
)

// tokensLeft uses up the tokens of a connection: how many there were?
func tokensLeft(t *testing.T, s *prekeys.Server, place int) int {
	t.Helper()
	chunks := slices.Repeat([]string{""}, place+1)
	chunks[place] = chunk(slices.Repeat([]string{fetch("nobody")}, 101)...)
	return strings.Count(inShort(t, s.Round(chunks...)[place]), "4:2")
}

func TestTickRefills(t *testing.T) {
	for _, c := range []struct{ burst, refill, ticks, want int }{
		{1, 0, 0, 0}, {1, 0, 3, 0}, {1, 1, 1, 1}, {1, 1, 2, 1}, {1, 100, 1, 1},
		{100, 1, 1, 1}, {100, 1, 7, 7}, {100, 30, 3, 90}, {100, 30, 4, 100}, {100, 100, 1, 100}, {100, 100, 9, 100}, {99, 33, 3, 99}, {99, 33, 4, 99},
	} {
		s, _ := serverOf(t, prekeys.Config{Pool: 1, Burst: c.burst, Refill: c.refill, Shards: 1})
		for place := range 8 {
			if got := tokensLeft(t, s, place); got != c.burst {
				t.Errorf("P10: %d tokens on connection %d, want %d", got, place, c.burst)
			}
		}
		for range c.ticks {
			s.Tick()
		}
		for place := range 8 {
			if got := tokensLeft(t, s, place); got != c.want {
				t.Errorf("P13: %d tokens behind %d ticks of %d, Burst %d; want %d", got, c.ticks, c.refill, c.burst, c.want)
			}
		}
	}
}

func TestTickOfFullConnections(t *testing.T) {
	s, _ := serverOf(t, prekeys.Config{Pool: 1, Burst: 5, Refill: 3, Shards: 1})
	s.Tick()
	s.Tick()
	if got := tokensLeft(t, s, 0); got != 5 {
		t.Errorf("P13: %d tokens, Burst 5", got)
	}
	s.Tick()
	for place, want := range []int{3, 5, 5} {
		if got := tokensLeft(t, s, place); got != want {
			t.Errorf("P13: %d tokens on connection %d, want %d", got, place, want)
		}
	}
}

func TestExampleOfATick(t *testing.T) {
	s, _ := serverOf(t, prekeys.Config{Pool: 1, Burst: 1, Refill: 1, Shards: 1}, register("a", 1))
	expectServed(t, "P13", s, "4:0(1) 4:6", fetch("a"), fetch("a"))
	s.Tick()
	expectServed(t, "P13", s, "4:0(1)", fetch("a"))
}

func TestNotices(t *testing.T) {
	c := plenty()
	c.Low = 2
	s, _ := serverOf(t, c, register("a", 1), upload("a", 1, 2, 3, 4), register("b", 1), upload("b", 1, 2))
	expectNotices(t, s)
	s.Round(chunk(fetch("a"), fetch("a"))) // three are left, then two
	expectNotices(t, s)
	s.Round(chunk(fetch("a"), fetch("b"), fetch("a")), chunk(fetch("b")))
	expectNotices(t, s, "a", "b", "a", "b")
	expectNotices(t, s)
	s.Round(chunk(fetch("a"), fetch("b"), fetch("z"), count("a"))) // nothing is given
	expectNotices(t, s)
	s.Round(chunk(upload("a", 5)), chunk(fetch("a"), upload("a", 6, 7, 8)), chunk(upload("b", 5), fetch("b")))
	s.Tick()
	s.Round(chunk(fetch("a"))) // two are left
	expectNotices(t, s, "a", "b")
}

func TestNoticesHangOnLow(t *testing.T) {
	for low, want := range map[int]int{0: 0, 1: 1, 2: 2, 9: 9, 10: 10, 11: 10, 30: 10} {
		c := plenty()
		c.Low = low
		s, _ := serverOf(t, c, register("é", 1), upload("é", rising(1, 10)...))
		s.Round(chunk(slices.Repeat([]string{fetch("é")}, 12)...))
		expectNotices(t, s, slices.Repeat([]string{"é"}, want)...)
	}
}

func TestNoNoticeOfSlowOnes(t *testing.T) {
	c := plenty()
	c.Low, c.Burst = 30, 1
	s, _ := serverOf(t, c, register("a", 1), upload("a", 1, 2, 3))
	s.Round(chunk(fetch("a"), fetch("a"), fetch("a")))
	expectNotices(t, s, "a")
}
