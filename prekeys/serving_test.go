package prekeys_test

import (
	"slices"
	"strings"
	"testing"

	"prekeys/prekeys"
)

func TestFetchGivesEachKeyOnce(t *testing.T) {
	s, _ := serverOf(t, plenty(), register("a", 9), upload("a", 3, 1, 2))
	expectServed(t, "P12", s, "4:0(9 gives 3) 5:0(2)", fetch("a"), count("a"))
	expectServed(t, "P12", s, "3:0 4:0(9 gives 1) 4:0(9 gives 2) 4:0(9 gives 0) 4:0(9) 4:0(9) 5:0(0)", upload("a", 0), fetch("a"), fetch("a"), fetch("a"), fetch("a"), fetch("a"), count("a"))
}

func TestFetchTellsTheSignedKeyOfNow(t *testing.T) {
	s, _ := serverOf(t, plenty())
	expectServed(t, "P12", s, "4:2 1:0 4:0(0) 2:0 4:0(65535)", fetch("a"), register("a", 0), fetch("a"), rotate("a", 65535), fetch("a"))
}

// TestFetchTellsWhatWasRegistered has an identity and keys of all bytes.
func TestFetchTellsWhatWasRegistered(t *testing.T) {
	s, _ := serverOf(t, plenty())
	identity, key, one := "\x00\xff\x80\x7f\x01\xfe\x0a\x0d", "\xff\x00\x00\x00\xc3\x28\x00\xff", "\x00\x00\x00\x00\x00\x00\x00\x00"
	seal := prekeys.Seal(identity, key)
	s.Round(chunk(head(1, longName)+identity+"\xab\xcd"+key+seal, head(3, longName)+"\x01\xfe\xdc"+one))
	want := framed("\x84\x00" + identity + "\xab\xcd" + key + seal + "\x01\xfe\xdc" + one)
	if got := s.Round("", "", chunk(fetch(longName)))[2]; got != want {
		t.Errorf("P12: a fetch tells %x, want %x", got, want)
	}
}

// TestNothingIsWrittenForNothing lights a fuse: what changes nothing must make no operation.
func TestNothingIsWrittenForNothing(t *testing.T) {
	c := plenty()
	c.Pool, c.Burst = 1, 3
	bodies := []string{register("a", 5), upload("a", 1), register("b", 1)}
	s, d := serverOf(t, c, bodies...)
	d.Fuse(1)
	expectServed(t, "P12", s, "5:0(1) 5:2 4:2 4:0(1)", count("a"), count("z"), fetch("z"), fetch("b"))
	expectServed(t, "P12", s, "1:1 1:3 2:2 2:7 2:3", register("a", 9), unsealed(register("z", 1)), rotate("z", 1), rotate("a", 5), unsealed(rotate("a", 6)))
	expectServed(t, "P12", s, "3:2 3:4 3:5 4:0(1) 4:6", upload("z", 1), upload("a", 1), upload("a", 2), fetch("b"), fetch("a"))
	expectRound(t, "P12", s, []string{"\xff\xff\xff\xff"}, "255:9")
	expectDown(t, s, false)
	expectLog(t, "P12", d, bodies...)
	expectTold(t, "the first operation of the disk", d.Sync(), "down")
}

// TestEachChangeIsWrittenOnce counts operations by a fuse: one Write and one Sync for each change.
func TestEachChangeIsWrittenOnce(t *testing.T) {
	for fuse := 1; fuse <= 12; fuse++ {
		s, d := serverOf(t, plenty())
		d.Fuse(fuse)
		changes := []string{register("a", 1), rotate("a", 2), upload("a", 1, 2, 3), fetch("a"), fetch("a")}
		records := []string{register("a", 1), rotate("a", 2), upload("a", 1, 2, 3), given("a", 1), given("a", 2)}
		replies := []string{"1:0", "2:0", "3:0", "4:0(2 gives 1)", "4:0(2 gives 2)"}
		done := min((fuse-1)/2, len(changes))
		expectServed(t, "P12", s, strings.Join(replies[:done], " "), changes...)
		expectDown(t, s, done < len(changes))
		written := ""
		if done < len(changes) && fuse%2 == 0 { // the Write was made, the Sync not
			written = recorded(records[done])
		}
		expectBytes(t, "P12: behind changes with a fuse", d, logOf(records[:done]...), written)
	}
}

func TestTokens(t *testing.T) {
	c := plenty()
	c.Burst = 2
	s, d := serverOf(t, c, register("a", 1), upload("a", 1, 2, 3, 4, 5))
	three := chunk(fetch("a"), fetch("a"), fetch("a"), fetch("z"))
	expectRound(t, "P12", s, []string{three, "", three}, "4:0(1 gives 1) 4:0(1 gives 2) 4:6 4:6", "", "4:0(1 gives 3) 4:0(1 gives 4) 4:6 4:6")
	expectRound(t, "P12", s, []string{three}, "4:6 4:6 4:6 4:6")
	expectRound(t, "P12", s, []string{"", chunk(fetch("z"), fetch("z"), fetch("a"))}, "", "4:2 4:2 4:6") // one is gone for none, too
	expectServed(t, "P12", s, "5:0(1) 3:0 2:0 1:0 5:0(2)", count("a"), upload("a", 6), rotate("a", 2), register("b", 1), count("a"))
	expectLog(t, "P12", d, register("a", 1), upload("a", 1, 2, 3, 4, 5), given("a", 1), given("a", 2), given("a", 3), given("a", 4), upload("a", 6), rotate("a", 2), register("b", 1))
}

func TestAsManyTokensAsBurst(t *testing.T) {
	for _, burst := range []int{1, 2, 99, 100} {
		c := plenty()
		c.Burst = burst
		s, _ := serverOf(t, c, register("a", 1))
		fetches := chunk(slices.Repeat([]string{fetch("a")}, 101)...)
		want := strings.Repeat("4:0(1) ", burst) + strings.Repeat("4:6 ", 101-burst)
		for _, answer := range s.Round(slices.Repeat([]string{fetches}, 8)...) {
			if got := inShort(t, answer) + " "; got != want {
				t.Errorf("P12: Burst %d: %s", burst, got)
			}
		}
	}
}

func TestCountIsModulo256(t *testing.T) {
	bodies := []string{register("a", 1)}
	for first := 0; first < 260; first += 10 {
		bodies = append(bodies, upload("a", rising(first, first+9)...))
	}
	s, _ := serverOf(t, plenty(), bodies...)
	for _, want := range []string{"5:0(4)", "5:0(3)", "5:0(2)", "5:0(1)", "5:0(0)", "5:0(255)", "5:0(254)"} {
		expectServed(t, "P7", s, want, count("a"))
		s.Round(chunk(fetch("a")))
	}
}
