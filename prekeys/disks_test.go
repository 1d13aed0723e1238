package prekeys_test

import (
	"errors"
	"fmt"
	"math"
	"slices"
	"strconv"
	"strings"
	"sync"
	"testing"

	"prekeys/prekeys"
)

// operation is one of the three that a fuse counts.
type operation struct {
	name string
	do   func(d *prekeys.Disk) error
}

func operations() []operation {
	return []operation{
		{"Write", func(d *prekeys.Disk) error { return d.Write("new") }},
		{"Write of nothing", func(d *prekeys.Disk) error { return d.Write("") }},
		{"Sync", (*prekeys.Disk).Sync},
		{"Replace", func(d *prekeys.Disk) error { return d.Replace("other") }},
	}
}

// diskWith makes a disk that has a text safe and a text only written.
func diskWith(t *testing.T, safe, written string) *prekeys.Disk {
	t.Helper()
	d := prekeys.NewDisk()
	for _, err := range []error{d.Write(safe), d.Sync(), d.Write(written)} {
		expectTold(t, "an operation of a new disk", err, "fine")
	}
	return d
}

func expectTold(t *testing.T, what string, err error, want string) {
	t.Helper()
	if got := told(err); got != want {
		t.Errorf("P8: %s: %s, want %s", what, got, want)
	}
}

func expectBytes(t *testing.T, what string, d *prekeys.Disk, safe, written string) {
	t.Helper()
	gotSafe, gotWritten := d.Bytes()
	if gotSafe != safe || gotWritten != written {
		t.Errorf("P8: %s: safe %q, only written %q; want %q, %q", what, gotSafe, gotWritten, safe, written)
	}
}

func TestNewDiskIsEmpty(t *testing.T) {
	d := prekeys.NewDisk()
	expectBytes(t, "a new disk", d, "", "")
	expectTold(t, "Sync of a new disk", d.Sync(), "fine")
	expectBytes(t, "a new disk behind Sync", d, "", "")
}

func TestWrittenBecomesSafe(t *testing.T) {
	d := prekeys.NewDisk()
	expectTold(t, "Write", d.Write("ab\x00"), "fine")
	expectBytes(t, "behind one Write", d, "", "ab\x00")
	expectTold(t, "Write", d.Write("\xff"), "fine")
	expectTold(t, "Write of nothing", d.Write(""), "fine")
	expectBytes(t, "behind three Writes", d, "", "ab\x00\xff")
	expectTold(t, "Sync", d.Sync(), "fine")
	expectBytes(t, "behind Sync", d, "ab\x00\xff", "")
	expectTold(t, "Write", d.Write("c"), "fine")
	expectBytes(t, "behind Sync and Write", d, "ab\x00\xff", "c")
	expectTold(t, "Sync", d.Sync(), "fine")
	expectTold(t, "Sync", d.Sync(), "fine")
	expectBytes(t, "behind more Syncs", d, "ab\x00\xffc", "")
}

func TestReplaceLeavesItsTextAlone(t *testing.T) {
	for _, text := range []string{"", "z", "longer than what was there"} {
		d := diskWith(t, "safe", "written")
		expectTold(t, "Replace", d.Replace(text), "fine")
		expectBytes(t, "behind Replace", d, text, "")
		expectTold(t, "Write", d.Write("c"), "fine")
		expectBytes(t, "behind Replace and Write", d, text, "c")
		expectTold(t, "Sync", d.Sync(), "fine")
		expectBytes(t, "behind Replace, Write, Sync", d, text+"c", "")
	}
}

func TestCrashKeepsSome(t *testing.T) {
	for _, c := range []struct {
		keep int
		safe string
	}{
		{math.MinInt, "safe"}, {-1, "safe"}, {0, "safe"}, {1, "safew"}, {6, "safewritte"},
		{7, "safewritten"}, {8, "safewritten"}, {math.MaxInt, "safewritten"},
	} {
		what := fmt.Sprintf("Crash(%d)", c.keep)
		d := diskWith(t, "safe", "written")
		d.Crash(c.keep)
		expectBytes(t, what, d, c.safe, "")
		expectTold(t, "Write behind "+what, d.Write("!"), "fine")
		expectBytes(t, what+", Write", d, c.safe, "!")
		expectTold(t, "Sync behind "+what, d.Sync(), "fine")
		expectBytes(t, what+", Write, Sync", d, c.safe+"!", "")
		d.Crash(c.keep)
		expectBytes(t, what+" with nothing only written", d, c.safe+"!", "")
	}
}

// TestFuseCounts lets each operation be the last one of fuses of several lengths.
func TestFuseCounts(t *testing.T) {
	for _, n := range []int{1, 2, 3, 10} {
		for _, last := range operations() {
			d := diskWith(t, "safe", "")
			d.Fuse(n)
			for range n - 1 {
				expectTold(t, "an operation ahead of the fuse's end", d.Write("w"), "fine")
				d.Bytes() // no operation: it takes nothing off the fuse
			}
			what := fmt.Sprintf("%s as operation %d of as long a fuse", last.name, n)
			expectTold(t, what, last.do(d), "down")
			expectBytes(t, what, d, "safe", strings.Repeat("w", n-1))
			expectAllDown(t, what, d)
			expectBytes(t, "operations behind "+what, d, "safe", strings.Repeat("w", n-1))
		}
	}
}

func expectAllDown(t *testing.T, when string, d *prekeys.Disk) {
	t.Helper()
	for range 2 {
		for _, o := range operations() {
			expectTold(t, o.name+" behind "+when, o.do(d), "down")
		}
	}
}

func TestEachOperationBurnsTheFuse(t *testing.T) {
	for _, o := range operations() {
		d := prekeys.NewDisk()
		d.Fuse(2)
		expectTold(t, o.name+" as the first of a fuse of 2", o.do(d), "fine")
		expectTold(t, "Sync behind it", d.Sync(), "down")
	}
}

func TestFuseAnewIsTheOnlyOne(t *testing.T) {
	for _, c := range []struct {
		fuses []int
		fine  int // how many operations succeed; -1: all
	}{
		{[]int{1, 3}, 2}, {[]int{3, 1}, 0}, {[]int{2, 2}, 1},
		{[]int{1, 0}, -1}, {[]int{1, -1}, -1}, {[]int{1, math.MinInt}, -1},
		{[]int{0, 2}, 1}, {[]int{-5, 1}, 0}, {[]int{1, math.MaxInt}, -1}, {[]int{0}, -1}, {[]int{-3}, -1},
	} {
		d := prekeys.NewDisk()
		for _, n := range c.fuses {
			d.Fuse(n)
		}
		for i := range 8 {
			want := "fine"
			if c.fine >= 0 && i >= c.fine {
				want = "down"
			}
			what := fmt.Sprint("Write ", i, " behind the fuses ", c.fuses)
			expectTold(t, what, d.Write("w"), want)
		}
	}
}

func TestFuseAnewCountsFromNowOn(t *testing.T) {
	d := prekeys.NewDisk()
	d.Fuse(3)
	expectTold(t, "the first operation of a fuse of 3", d.Write("a"), "fine")
	expectTold(t, "the second", d.Write("b"), "fine")
	d.Fuse(2)
	expectTold(t, "the first operation of a new fuse of 2", d.Write("c"), "fine")
	expectTold(t, "its second", d.Write("d"), "down")
	expectBytes(t, "behind both fuses", d, "", "abc")
}

func TestDownStaysDown(t *testing.T) {
	for _, n := range []int{math.MinInt, -1, 0, 1, 2, 5, math.MaxInt} {
		d := diskWith(t, "safe", "written")
		d.Fuse(1)
		expectTold(t, "Sync at the fuse's end", d.Sync(), "down")
		d.Fuse(n)
		expectAllDown(t, fmt.Sprintf("Fuse(%d) of a disk that is down", n), d)
		expectBytes(t, "a disk that is down", d, "safe", "written")
	}
}

func TestCrashBringsUpAndPutsTheFuseOut(t *testing.T) {
	for _, down := range []bool{false, true} {
		d := diskWith(t, "safe", "written")
		d.Fuse(1)
		if down {
			expectTold(t, "Replace at the fuse's end", d.Replace("other"), "down")
			d.Fuse(2)
		}
		d.Crash(2)
		expectBytes(t, "behind Crash(2)", d, "safewr", "")
		for range 3 {
			expectTold(t, "Write behind Crash", d.Write("!"), "fine")
		}
		expectTold(t, "Sync behind Crash", d.Sync(), "fine")
		expectBytes(t, "behind Crash, Writes, Sync", d, "safewr!!!", "")
		d.Fuse(1)
		expectTold(t, "Write at a fuse lit behind Crash", d.Write("!"), "down")
	}
}

func TestDisksAreApart(t *testing.T) {
	one, other := diskWith(t, "one", "1"), diskWith(t, "other", "2")
	one.Fuse(1)
	expectTold(t, "Sync of the disk with a fuse", one.Sync(), "down")
	expectTold(t, "Sync of the other one", other.Sync(), "fine")
	other.Crash(0)
	expectTold(t, "Write of the disk that is down", one.Write("x"), "down")
	expectBytes(t, "the disk that is down", one, "one", "1")
	expectBytes(t, "the other one", other, "other2", "")
}

func TestBytesStayAsTheyWereTold(t *testing.T) {
	d := diskWith(t, "safe", "written")
	safe, written := d.Bytes()
	d.Crash(3)
	expectTold(t, "Write", d.Write("anothertext"), "fine")
	expectTold(t, "Replace", d.Replace("xxxxxxxxxxxx"), "fine")
	expectTold(t, "Write", d.Write("yyyyyyyyyyyy"), "fine")
	if safe != "safe" || written != "written" {
		t.Errorf("P2: what Bytes told has become %q, %q", safe, written)
	}
}

// TestDiskIsLocked lets many use one disk at once: no byte may be lost, come twice or stand inside another one's text.
func TestDiskIsLocked(t *testing.T) {
	const writers, texts = 8, 1000
	d := prekeys.NewDisk()
	var wait sync.WaitGroup
	for w := range writers {
		wait.Go(func() {
			for range texts {
				err := d.Write(strings.Repeat(strconv.Itoa(w), 4))
				if w%2 == 0 {
					err = errors.Join(err, d.Sync())
				} else {
					d.Crash(math.MaxInt)
				}
				if err != nil {
					t.Error("P8: ErrDown without a fuse")
				}
				d.Fuse(0) // that it takes the lock shows under the race detector alone
				if safe, written := d.Bytes(); len(safe)%4 != 0 || len(written)%4 != 0 {
					t.Errorf("P8: Bytes tells %d and %d bytes in the midst of a Write", len(safe), len(written))
				}
			}
		})
	}
	wait.Wait()
	safe, written := d.Bytes()
	if len(safe) != writers*texts*4 || written != "" {
		t.Fatalf("P8: %d bytes safe and %d only written, want %d and 0", len(safe), len(written), writers*texts*4)
	}
	var counts [writers]int
	for text := range slices.Chunk([]byte(safe), 4) {
		if string(text) != strings.Repeat(string(text[:1]), 4) {
			t.Fatalf("P8: %q is safe, which nobody has written", text)
		}
		counts[text[0]-'0']++
	}
	for w, n := range counts {
		if n != texts {
			t.Errorf("P8: %d texts of writer %d, want %d", n, w, texts)
		}
	}
}

// TestFuseIsLocked: of operations at once just as many succeed as stand ahead of the fuse's end.
func TestFuseIsLocked(t *testing.T) {
	const writers, fuse = 8, 10000
	d := prekeys.NewDisk()
	d.Fuse(fuse)
	var wait sync.WaitGroup
	var fine [writers]int
	for w := range writers {
		wait.Go(func() {
			for d.Write("w") == nil && fine[w] < fuse {
				fine[w]++
			}
		})
	}
	wait.Wait()
	all := 0
	for _, n := range fine {
		all += n
	}
	_, written := d.Bytes()
	if all != fuse-1 || len(written) != fuse-1 {
		t.Errorf("P8: %d operations succeed, %d bytes are written; want %d of both", all, len(written), fuse-1)
	}
}
