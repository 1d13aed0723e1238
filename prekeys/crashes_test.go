package prekeys_test

import (
	"slices"
	"strings"
	"testing"

	"prekeys/prekeys"
)

// change is a request that does something: its record, its reply, and what a server tells behind it.
type change struct {
	asked, record, reply, behind string
}

// changes are of all kinds, behind what ahead tells.
func changes() (ahead []string, all []change) {
	ahead = []string{register("a", 1), upload("a", 1, 2)}
	all = []change{
		{register("b", 4), register("b", 4), "1:0", "5:0(2) 5:0(0) 2:0 3:0 4:0(2 gives 1) 4:0(2 gives 2)"},
		{rotate("a", 2), rotate("a", 2), "2:0", "5:0(2) 5:2 2:7 3:0 4:0(2 gives 1) 4:0(2 gives 2)"},
		{upload("a", 3, 4), upload("a", 3, 4), "3:0", "5:0(4) 5:2 2:0 3:4 4:0(2 gives 1) 4:0(2 gives 2)"},
		{fetch("a"), given("a", 1), "4:0(1 gives 1)", "5:0(1) 5:2 2:0 3:0 4:0(2 gives 2) 4:0(2 gives 3)"},
	}
	return ahead, all
}

// undone is what a server tells that has not made one of these changes.
const undone = "5:0(2) 5:2 2:0 3:0 4:0(2 gives 1) 4:0(2 gives 2)"

func expectBehind(t *testing.T, s *prekeys.Server, want string) {
	t.Helper()
	expectServed(t, "P12", s, want, count("a"), count("b"), rotate("a", 2), upload("a", 3), fetch("a"), fetch("a"))
}

func TestChangesThatAreSafeOutliveCrashes(t *testing.T) {
	ahead, all := changes()
	for _, c := range all {
		for _, keep := range []int{-1, 0, 1, 1000} {
			s, d := serverOf(t, plenty(), ahead...)
			expectServed(t, "P12", s, c.reply, c.asked)
			d.Crash(keep)
			again := opened(t, d, plenty())
			expectLog(t, "P12", d, append(slices.Clone(ahead), c.record)...)
			expectBehind(t, again, c.behind)
		}
	}
}

func TestWriteThatFailsLeavesNothing(t *testing.T) {
	ahead, all := changes()
	for _, c := range all {
		for _, keep := range []int{-1, 0, 1, 1000} {
			s, d := serverOf(t, plenty(), ahead...)
			d.Fuse(1)
			expectServed(t, "P12", s, "", c.asked)
			expectDown(t, s, true)
			expectLog(t, "P12", d, ahead...)
			d.Crash(keep)
			again := opened(t, d, plenty())
			expectLog(t, "P12", d, ahead...)
			expectBehind(t, again, undone)
		}
	}
}

// TestSyncThatFailsLeavesAllOrNothing keeps each number of a record's bytes: it counts if it is there whole, and else what is there of it goes.
func TestSyncThatFailsLeavesAllOrNothing(t *testing.T) {
	ahead, all := changes()
	for _, c := range all {
		record := recorded(c.record)
		for keep := -1; keep <= len(record)+1; keep++ {
			s, d := serverOf(t, plenty(), ahead...)
			d.Fuse(2)
			expectServed(t, "P12", s, "", c.asked)
			expectDown(t, s, true)
			expectBytes(t, "behind a Sync that failed", d, logOf(ahead...), record)
			d.Crash(keep)
			again := opened(t, d, plenty())
			if keep < len(record) {
				expectLog(t, "P10", d, ahead...)
				expectBehind(t, again, undone)
				continue
			}
			expectLog(t, "P10", d, append(slices.Clone(ahead), c.record)...)
			expectBehind(t, again, c.behind)
		}
	}
}

// TestNewServerGoesOnBehindACrash writes on where the log was cut, and opens it once more.
func TestNewServerGoesOnBehindACrash(t *testing.T) {
	ahead, all := changes()
	for _, c := range all {
		for _, keep := range []int{0, 1, 5, 12} {
			s, d := serverOf(t, plenty(), ahead...)
			d.Fuse(2)
			expectServed(t, "P12", s, "", c.asked)
			d.Crash(keep)
			again := opened(t, d, plenty())
			expectServed(t, "P12", again, c.reply, c.asked)
			expectLog(t, "P12", d, append(slices.Clone(ahead), c.record)...)
			d.Crash(keep)
			expectBehind(t, opened(t, d, plenty()), c.behind)
		}
	}
}

// TestDownAmongConnections lets the disk fail at each operation of a round: what was answered ahead of it is true behind the crash, and nothing else is answered.
func TestDownAmongConnections(t *testing.T) {
	chunks := []string{chunk(register("a", 1), upload("a", 1, 2)), chunk(fetch("a"), rotate("a", 3)), "", chunk(fetch("a"), register("b", 1)) + "\xff\xff\xff\xff"}
	records := []string{register("a", 1), upload("a", 1, 2), given("a", 1), rotate("a", 3), given("a", 2), register("b", 1)}
	replies := []string{"1:0", "3:0", "4:0(1 gives 1)", "2:0", "4:0(3 gives 2)", "1:0"}
	for fuse := 1; fuse <= 2*len(records); fuse++ {
		done := (fuse - 1) / 2
		for _, keep := range []int{0, 1000} {
			s, d := serverOf(t, plenty())
			d.Fuse(fuse)
			want := make([]string, len(chunks))
			for i, reply := range replies[:done] {
				place := []int{0, 0, 1, 1, 3, 3}[i]
				want[place] = strings.TrimSpace(want[place] + " " + reply)
			}
			expectRound(t, "P12", s, chunks, want...)
			expectDown(t, s, true)
			d.Crash(keep)
			opened(t, d, plenty())
			if fuse%2 == 0 && keep > 0 { // the Write was made
				expectLog(t, "P12", d, records[:done+1]...)
				continue
			}
			expectLog(t, "P12", d, records[:done]...)
		}
	}
}

// TestNoKeyIsGivenTwice fetches over one crash after the other, at each operation, with the record kept or lost: a key may be lost then, but not come back.
func TestNoKeyIsGivenTwice(t *testing.T) {
	for fuse := 1; fuse <= 7; fuse++ {
		for _, keep := range []int{0, 12, 13} { // 13 is all of a record of given
			d := diskWith(t, logOf(register("a", 1), upload("a", rising(1, 10)...), upload("a", rising(11, 20)...)), "")
			last := 0
			for range 20 {
				s := opened(t, d, plenty())
				d.Fuse(fuse)
				for _, text := range slices.Repeat([]string{chunk(fetch("a"))}, 5) {
					last = expectGivenBehind(t, s.Round(text)[0], last)
				}
				d.Crash(keep)
			}
		}
	}
}

// expectGivenBehind wants a key that is given to be one behind the last; it tells which was the last now.
func expectGivenBehind(t *testing.T, answer string, last int) int {
	t.Helper()
	replies, err := prekeys.Replies(answer)
	if err != nil || len(replies) > 1 {
		t.Fatalf("P12: a fetch is answered %+v, %v", replies, err)
	}
	if len(replies) == 0 || !replies[0].One {
		return last
	}
	if replies[0].OneID <= last {
		t.Errorf("P12: key %d is given behind key %d", replies[0].OneID, last)
	}
	return replies[0].OneID
}

// TestOpenThatFailedIsTriedAgain lets Open's Replace fail, and opens the disk behind each crash.
func TestOpenThatFailedIsTriedAgain(t *testing.T) {
	ahead := []string{register("a", 1), upload("a", 1, 2)}
	record := recorded(given("a", 1))
	for keep := range len(record) + 2 {
		d := diskWith(t, logOf(ahead...), record)
		d.Fuse(1)
		for range 2 { // it stays down
			if s, err := prekeys.Open(d, plenty()); s != nil || told(err) != "down" {
				t.Errorf("P10: Open where Replace fails: %v, %s", s, told(err))
			}
			expectBytes(t, "behind an Open that failed", d, logOf(ahead...), record)
		}
		d.Crash(keep)
		s := opened(t, d, plenty())
		expectDown(t, s, false)
		if keep < len(record) {
			expectServed(t, "P10", s, "4:0(1 gives 1)", fetch("a"))
			continue
		}
		expectServed(t, "P10", s, "4:0(1 gives 2)", fetch("a"))
	}
}

// TestServerSeesItsDiskOnlyByOperations: what needs no operation is answered over a disk that has gone down by another's hand.
func TestServerSeesItsDiskOnlyByOperations(t *testing.T) {
	failing := map[string]func(s *prekeys.Server){
		"upload":  func(s *prekeys.Server) { expectServed(t, "P12", s, "", upload("a", 9)) },
		"fetch":   func(s *prekeys.Server) { expectServed(t, "P12", s, "", fetch("a")) },
		"Compact": func(s *prekeys.Server) { expectCompact(t, s, "down") },
	}
	for name, fail := range failing {
		s, d := serverOf(t, plenty(), register("a", 1), upload("a", 1), register("b", 1))
		d.Fuse(1)
		expectTold(t, "the operation at which the disk goes down, ahead of "+name, d.Sync(), "down")
		expectDown(t, s, false)
		expectServed(t, "P12", s, "5:0(1) 4:0(1) 3:4 1:1", count("a"), fetch("b"), upload("a", 1), register("a", 2))
		expectDown(t, s, false)
		fail(s)
		expectDown(t, s, true)
		expectServed(t, "P12", s, "", count("a"))
	}
}

// TestDiskThatIsUpAgainInTime: a crash that the server has not met takes nothing from it.
func TestDiskThatIsUpAgainInTime(t *testing.T) {
	s, d := serverOf(t, plenty(), register("a", 1), upload("a", 1))
	d.Fuse(1)
	expectTold(t, "Sync", d.Sync(), "down")
	d.Crash(0)
	expectServed(t, "P12", s, "4:0(1 gives 1) 3:0", fetch("a"), upload("a", 2))
	expectDown(t, s, false)
	expectCompact(t, s, "fine")
	expectLog(t, "P13", d, register("a", 1), used("a", 1), upload("a", 2))
}

// TestCompactThatFailsLosesNothing lets the Replace of Compact fail: the log is as it was, with all that was answered.
func TestCompactThatFailsLosesNothing(t *testing.T) {
	ahead, all := changes()
	for _, c := range all {
		for _, keep := range []int{-1, 0, 1000} {
			s, d := serverOf(t, plenty(), ahead...)
			d.Fuse(3)
			expectServed(t, "P12", s, c.reply, c.asked)
			expectCompact(t, s, "down")
			expectDown(t, s, true)
			expectServed(t, "P13", s, "", count("a"))
			d.Crash(keep)
			expectLog(t, "P13", d, append(slices.Clone(ahead), c.record)...)
			expectBehind(t, opened(t, d, plenty()), c.behind)
		}
	}
}

// TestChangesBehindCompactOutliveCrashes: the new log is gone on with, and cut, as any other.
func TestChangesBehindCompactOutliveCrashes(t *testing.T) {
	anew := []string{register("a", 2), used("a", 1), upload("a", 2)}
	for _, c := range []struct {
		fuse           int
		answer, behind string
	}{
		{2, "", "4:0(2 gives 2) 3:4"}, {3, "", "4:0(2 gives 2) 3:4"}, {4, "4:0(2 gives 2)", "4:0(2) 3:4"},
	} {
		s, d := serverOf(t, plenty(), register("a", 1), upload("a", 1, 2), given("a", 1), rotate("a", 2))
		d.Fuse(c.fuse)
		expectCompact(t, s, "fine")
		expectLog(t, "P13", d, anew...)
		expectServed(t, "P13", s, c.answer, fetch("a"))
		expectDown(t, s, c.answer == "")
		d.Crash(12) // a byte less than the record
		expectServed(t, "P13", opened(t, d, plenty()), c.behind, fetch("a"), upload("a", 1))
	}
}
