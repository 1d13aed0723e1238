package prekeys_test

import (
	"strings"
	"testing"

	"prekeys/prekeys"
)

const longName = "éééééééééééééééé"

// TestRecordsOfAll has each kind of record in the log, to the byte.
func TestRecordsOfAll(t *testing.T) {
	s, d := serverOf(t, plenty())
	expectServed(t, "P9", s, "1:0", register("a", 65534))
	expectLog(t, "P9", d, register("a", 65534))
	expectServed(t, "P9", s, "2:0", rotate("a", 65535))
	expectServed(t, "P9", s, "1:0", register(longName, 0))
	expectServed(t, "P9", s, "3:0", upload(longName, 65535, 0, 7, 258, 4, 5, 6, 1, 8, 9))
	expectServed(t, "P9", s, "4:0(0 gives 65535)", fetch(longName))
	expectServed(t, "P9", s, "4:0(0 gives 0)", fetch(longName))
	expectLog(t, "P9", d, register("a", 65534), rotate("a", 65535), register(longName, 0),
		upload(longName, 65535, 0, 7, 258, 4, 5, 6, 1, 8, 9), given(longName, 65535), given(longName, 0))
}

// TestSumOfEveryByte has each byte somewhere in a body.
func TestSumOfEveryByte(t *testing.T) {
	s, d := serverOf(t, plenty())
	bodies := []string{register("a", 1)}
	for first := 0; first < 256; first += 8 {
		key := ""
		for b := first; b < first+8; b++ {
			key += string([]byte{byte(b)})
		}
		bodies = append(bodies, head(2, "a")+twoBytes(first+2)+key+prekeys.Seal("identity", key))
	}
	for _, body := range bodies {
		s.Round(chunk(body))
	}
	expectLog(t, "P9", d, bodies...)
}

func TestRegisterIsRefused(t *testing.T) {
	s, d := serverOf(t, plenty(), register("a", 5))
	expectServed(t, "P9", s, "1:1 1:1", register("a", 6), register("a", 5))
	expectServed(t, "P9", s, "1:1", unsealed(register("a", 6))) // known is told ahead of seal
	expectServed(t, "P9", s, "1:3", unsealed(register("b", 6)))
	other := head(1, "b") + "somebody" + signedPartOf(6) // sealed for another identity
	expectServed(t, "P9", s, "1:3 5:2", other, count("b"))
	expectLog(t, "P9", d, register("a", 5))
	expectServed(t, "P9", s, "4:0(5)", fetch("a"))
	expectServed(t, "P9", s, "1:0 5:0(0) 4:0(6)", register("b", 6), count("b"), fetch("b"))
}

func TestRotateIsRefused(t *testing.T) {
	s, d := serverOf(t, plenty(), register("a", 5))
	expectServed(t, "P9", s, "2:2", rotate("b", 6))
	expectServed(t, "P9", s, "2:2", unsealed(rotate("b", 6)))
	expectServed(t, "P9", s, "2:7 2:7 2:7", rotate("a", 0), rotate("a", 4), rotate("a", 5))
	expectServed(t, "P9", s, "2:7", unsealed(rotate("a", 5))) // old is told ahead of seal
	expectServed(t, "P9", s, "2:3", unsealed(rotate("a", 6)))
	expectServed(t, "P9", s, "2:3", head(2, "a")+twoBytes(6)+keyOf(6)+prekeys.Seal("somebody", keyOf(6)))
	expectLog(t, "P9", d, register("a", 5))
	expectServed(t, "P9", s, "4:0(5) 2:0 4:0(6)", fetch("a"), rotate("a", 6), fetch("a"))
	expectServed(t, "P9", s, "2:7 2:0 4:0(300)", rotate("a", 6), rotate("a", 300), fetch("a"))
	expectLog(t, "P9", d, register("a", 5), rotate("a", 6), rotate("a", 300))
}

func TestUploadIsRefused(t *testing.T) {
	c := plenty()
	c.Pool = 3
	s, d := serverOf(t, c, register("a", 1))
	expectServed(t, "P9", s, "3:2 3:2", upload("b", 1), upload("b", 1, 1, 2, 3))
	expectServed(t, "P9", s, "3:4 3:4", upload("a", 1, 1), upload("a", 2, 1, 2))
	expectServed(t, "P9", s, "3:4", upload("a", 1, 2, 3, 1)) // again is told ahead of full
	expectServed(t, "P9", s, "3:5", upload("a", 1, 2, 3, 4))
	expectServed(t, "P9", s, "5:0(0)", count("a"))
	expectLog(t, "P9", d, register("a", 1))
	expectServed(t, "P9", s, "3:0 3:5 3:0", upload("a", 1, 2), upload("a", 3, 4), upload("a", 3)) // what was refused is not taken
	expectServed(t, "P9", s, "3:4 3:4 3:5", upload("a", 3), upload("a", 4, 2), upload("a", 4))
	expectServed(t, "P9", s, "4:0(1 gives 1) 3:4 3:0", fetch("a"), upload("a", 1), upload("a", 4)) // taken for ever
	expectServed(t, "P9", s, "5:0(3)", count("a"))
	expectLog(t, "P9", d, register("a", 1), upload("a", 1, 2), upload("a", 3), given("a", 1), upload("a", 4))
}

func TestNamesHaveTheirOwnKeys(t *testing.T) {
	s, _ := serverOf(t, plenty(), register("a", 1), register("b", 2), register("à", 3))
	expectServed(t, "P9", s, "3:0 3:0", upload("a", 7), upload("b", 7, 8))
	expectServed(t, "P9", s, "5:0(1) 5:0(2) 5:0(0)", count("a"), count("b"), count("à"))
	expectServed(t, "P9", s, "4:0(1 gives 7) 4:0(1) 4:0(2 gives 7) 4:0(3)", fetch("a"), fetch("a"), fetch("b"), fetch("à"))
	expectServed(t, "P9", s, "2:0 4:0(9) 4:0(2 gives 8)", rotate("a", 9), fetch("a"), fetch("b"))
}

// TestRecordsAreDone opens logs of good records, and asks what they have done.
func TestRecordsAreDone(t *testing.T) {
	long := upload(longName, rising(10, 19)...)
	for _, c := range []struct {
		log    []string
		asked  []string
		answer string
	}{
		{[]string{}, []string{count("a"), fetch("a")}, "5:2 4:2"},
		{[]string{register("a", 5)}, []string{count("a"), fetch("a"), register("a", 6)}, "5:0(0) 4:0(5) 1:1"},
		{[]string{register("a", 5), rotate("a", 6), rotate("a", 9)}, []string{fetch("a"), rotate("a", 9)}, "4:0(9) 2:7"},
		{[]string{register("a", 5), upload("a", 3, 1), upload("a", 2)}, []string{count("a"), fetch("a"), fetch("a"), fetch("a")}, "5:0(3) 4:0(5 gives 3) 4:0(5 gives 1) 4:0(5 gives 2)"},
		{[]string{register("a", 5), upload("a", 3, 1), given("a", 3)}, []string{count("a"), upload("a", 3), fetch("a")}, "5:0(1) 3:4 4:0(5 gives 1)"},
		{[]string{register("a", 5), upload("a", 3), given("a", 3)}, []string{fetch("a"), upload("a", 3)}, "4:0(5) 3:4"},
		{[]string{register("a", 5), used("a", 3, 1), upload("a", 2)}, []string{count("a"), upload("a", 1), upload("a", 3), upload("a", 4), fetch("a")}, "5:0(1) 3:4 3:4 3:0 4:0(5 gives 2)"},
		{[]string{register("a", 5), used("a", rising(1, 10)...), used("a", 65535), used("a", 0)}, []string{upload("a", 10), upload("a", 65535), upload("a", 0), upload("a", 11)}, "3:4 3:4 3:4 3:0"},
		{[]string{register(longName, 5), used(longName, rising(0, 9)...), long}, []string{count(longName), upload(longName, 9), upload(longName, 19)}, "5:0(10) 3:4 3:4"},
		{[]string{register("b", 1), register("a", 5), upload("a", 1), upload("b", 1), given("b", 1)}, []string{count("a"), count("b")}, "5:0(1) 5:0(0)"},
	} {
		s, d := serverOf(t, plenty(), c.log...)
		expectLog(t, "P10", d, c.log...)
		expectServed(t, "P9", s, c.answer, c.asked...)
	}
}

// refusedRecords are whole records that a log must not have behind the ones of good.
func refusedRecords() (good, refused []string) {
	good = []string{register("a", 5), upload("a", 1, 2), used("a", 3), register("b", 1), upload("b", 4), given("b", 4)}
	refused = []string{
		register("a", 6), register("a", 5), unsealed(register("c", 1)),
		rotate("c", 6), rotate("a", 5), rotate("a", 4), unsealed(rotate("a", 6)),
		upload("c", 7), upload("a", 1), upload("a", 3), upload("a", 7, 7), upload("a", 7, 2), upload("b", 4),
		given("c", 1), given("a", 2), given("a", 3), given("a", 0), given("b", 4), given("b", 0),
		used("c", 7), used("a", 1), used("a", 3), used("a", 7, 7), used("a", 7, 8, 2), used("b", 4),
	}
	return good, refused
}

// noRecords are bodies that are not of a record.
func noRecords() []string {
	bodies := []string{
		fetch("a"), count("a"), head(0, "a"), head(8, "a") + twoBytes(1), head(9, "a"), head(255, "a") + "\x09", "\x81\x00", "\xff\x09",
		used("a"), used("a", rising(10, 20)...), used("a", 7) + "\x00", used("a", 7, 8)[:7], used("a", 7)[:3], head(7, "a"),
		head(7, "a") + "\x02" + twoBytes(7), head(7, "a") + "\x01" + twoBytes(7) + twoBytes(8), head(7, "a") + "\x00" + twoBytes(7),
		given("a", 1) + "\x00", given("a", 1) + twoBytes(2), head(6, "a"), head(6, "a") + "\x00", given("a", 1)[:2],
		upload("a"), upload("a", rising(10, 20)...), upload("a", 7) + "\x00", upload("a", 7)[:12],
		register("c", 1) + "\x00", register("c", 1)[:20], rotate("a", 6) + "\x00", rotate("a", 6)[:20], "\x06", "\x07", "\x01",
		head(3, "a") + "\x01" + twoBytes(7), // a used record that says upload
	}
	for _, name := range []string{"", "A", "a-", "÷", "\xff", strings.Repeat("a", 17)} {
		bodies = append(bodies, register(name, 1), given(name, 1), used(name, 7))
	}
	return bodies
}

// expectCut opens a disk with good records, something wrong, and good ones behind it: the first alone are there.
func expectCut(t *testing.T, good []string, wrong string) {
	t.Helper()
	behind := logOf(register("z", 1))
	for _, text := range []string{wrong, wrong + behind} {
		d := diskWith(t, logOf(good...)+text, "")
		s := opened(t, d, plenty())
		expectLog(t, "P10", d, good...)
		expectServed(t, "P10", s, "5:0(2) 5:0(0) 5:2 5:2", count("a"), count("b"), count("c"), count("z"))
		expectServed(t, "P10", s, "4:0(5 gives 1) 3:0 4:0(1)", fetch("a"), upload("a", 7, 8), fetch("b"))
		expectLog(t, "P10", d, append(good[:len(good):len(good)], given("a", 1), upload("a", 7, 8))...)
	}
}

func TestLogEndsAtWhatIsRefused(t *testing.T) {
	good, refused := refusedRecords()
	for _, body := range refused {
		expectCut(t, good, recorded(body))
	}
}

func TestLogEndsAtWhatIsNoRecord(t *testing.T) {
	good, _ := refusedRecords()
	for _, body := range noRecords() {
		expectCut(t, good, recorded(body))
	}
	for _, text := range []string{"\x00", "\x00\x00\x00", "\x00\x00\x00\x00", "\x00\x00\x00\x00\x00\x00\x00\x00", "\x00\x00\x00\xc9", "\xff\xff\xff\xff", strings.Repeat("\xff", 300), framed(rotate("a", 6))} {
		expectCut(t, good, text)
	}
}

// TestSumsAreLookedAt changes each bit of a record: of its length, its body, its sum.
func TestSumsAreLookedAt(t *testing.T) {
	good, _ := refusedRecords()
	for _, body := range []string{rotate("a", 6), given("a", 1), used("a", 9), register("c", 1), upload("a", 7)} {
		record := recorded(body)
		for i := range len(record) {
			for bit := range 8 {
				expectCut(t, good, record[:i]+string([]byte{record[i] ^ 1<<bit})+record[i+1:])
			}
		}
	}
}

// TestLogIsCutAnywhere opens a disk with the beginning of a log, of each length.
func TestLogIsCutAnywhere(t *testing.T) {
	good, _ := refusedRecords()
	log := logOf(good...)
	for n := range len(log) {
		whole := len(good)
		for len(logOf(good[:whole]...)) > n {
			whole--
		}
		d := diskWith(t, log[:n], "")
		s := opened(t, d, plenty())
		expectLog(t, "P10", d, good[:whole]...)
		counts := []string{"5:2 5:2", "5:0(0) 5:2", "5:0(2) 5:2", "5:0(2) 5:2", "5:0(2) 5:0(0)", "5:0(2) 5:0(1)"}
		expectServed(t, "P10", s, counts[whole], count("a"), count("b"))
	}
}

func TestFullIsNotLookedAtInALog(t *testing.T) {
	c := plenty()
	c.Pool, c.Low = 1, 30
	bodies := []string{register("a", 1)}
	for first := 0; first < 300; first += 10 {
		bodies = append(bodies, upload("a", rising(first, first+9)...))
	}
	s, d := serverOf(t, c, bodies...)
	expectLog(t, "P10", d, bodies...)
	expectServed(t, "P12", s, "5:0(44)", count("a")) // 300 modulo 256
	expectServed(t, "P9", s, "3:5 3:4", upload("a", 300), upload("a", 299))
	expectServed(t, "P12", s, "4:0(1 gives 0) 5:0(43)", fetch("a"), count("a"))
}
