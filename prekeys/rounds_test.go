package prekeys_test

import (
	"slices"
	"strings"
	"testing"

	"prekeys/prekeys"
)

// TestAnswersToTheByte has each form of a reply.
func TestAnswersToTheByte(t *testing.T) {
	s, _ := serverOf(t, plenty())
	seal := prekeys.Seal("identity", keyOf(258))
	fetched := "\x84\x00identity\x01\x02" + keyOf(258) + seal
	for _, c := range [][2]string{
		{count("a"), "\x85\x02"},
		{register("a", 258), "\x81\x00"},
		{count("a"), "\x85\x00\x00"},
		{register("a", 258), "\x81\x01"},
		{rotate("a", 258), "\x82\x07"},
		{upload("a", 65533, 1), "\x83\x00"},
		{count("a"), "\x85\x00\x02"},
		{fetch("a"), fetched + "\x01\xff\xfd" + keyOf(65533)},
		{fetch("a"), fetched + "\x01\x00\x01" + keyOf(1)},
		{fetch("a"), fetched + "\x00"},
		{head(6, "a") + twoBytes(1), "\xff\x09"},
	} {
		if got := s.Round(chunk(c[0])); len(got) != 1 || got[0] != framed(c[1]) {
			t.Errorf("P7: Round(%x) = %x, want %x", c[0], got, framed(c[1]))
		}
	}
}

func TestExampleOfARound(t *testing.T) {
	s, _ := serverOf(t, prekeys.Config{Pool: 1, Burst: 9, Shards: 1})
	got := s.Round(chunk(register("a", 1), count("a")))
	if want := "\x00\x00\x00\x02\x81\x00\x00\x00\x00\x03\x85\x00\x00"; len(got) != 1 || got[0] != want {
		t.Errorf("P11: example 5: %x, want %x", got, want)
	}
	expectServed(t, "P11", s, "3:5 3:0 3:4", upload("a", 7, 8), upload("a", 7), upload("a", 7))
	expectServed(t, "P11", s, "4:0(1 gives 7) 4:0(1) 3:4", fetch("a"), fetch("a"), upload("a", 7))
}

func TestOneAnswerForEachChunk(t *testing.T) {
	for n := range 20 {
		s, d := serverOf(t, plenty(), register("a", 1))
		want := slices.Repeat([]string{"5:0(0)"}, min(n, 8))
		want = append(want, slices.Repeat([]string{""}, max(n-8, 0))...)
		expectRound(t, "P11", s, slices.Repeat([]string{chunk(count("a"))}, n), want...)
		chunks := slices.Repeat([]string{""}, n)
		if n > 8 {
			chunks[8] = chunk(register("b", 1)) // the ninth is not looked at
		}
		expectRound(t, "P11", s, chunks, slices.Repeat([]string{""}, n)...)
		expectLog(t, "P11", d, register("a", 1))
		expectServed(t, "P11", s, "5:2", count("b"))
	}
}

func TestConnectionsAreServedFromTheFirstOn(t *testing.T) {
	s, d := serverOf(t, plenty())
	chunks := []string{
		chunk(count("a"), fetch("a")), chunk(register("a", 1), register("a", 2)), "", chunk(upload("a", 1, 2, 3)), chunk(fetch("a"), upload("a", 4)),
		chunk(fetch("a"), fetch("a")), chunk(rotate("a", 5), fetch("a")), chunk(fetch("a"), count("a")),
	}
	expectRound(t, "P11", s, chunks, "5:2 4:2", "1:0 1:1", "", "3:0", "4:0(1 gives 1) 3:0", "4:0(1 gives 2) 4:0(1 gives 3)", "2:0 4:0(5 gives 4)", "4:0(5) 5:0(0)")
	expectLog(t, "P11", d, register("a", 1), upload("a", 1, 2, 3), given("a", 1), upload("a", 4), given("a", 2), given("a", 3), rotate("a", 5), given("a", 4))
}

// TestSameEachTime plays rounds in which all connections ask for the same, over and over: how goroutines run must not show.
func TestSameEachTime(t *testing.T) {
	for range 200 {
		s, _ := serverOf(t, plenty(), register("a", 1), upload("a", rising(1, 10)...))
		chunks := slices.Repeat([]string{chunk(fetch("a"))}, 8)
		expectRound(t, "P11", s, chunks, "4:0(1 gives 1)", "4:0(1 gives 2)", "4:0(1 gives 3)", "4:0(1 gives 4)", "4:0(1 gives 5)", "4:0(1 gives 6)", "4:0(1 gives 7)", "4:0(1 gives 8)")
	}
}

func TestChunksAreCutAnywhere(t *testing.T) {
	text := chunk(register("a", 1), upload("a", 1, 2), fetch("a"), count("a"), fetch("b"))
	const want = "1:0 3:0 4:0(1 gives 1) 5:0(1) 4:2"
	for n := range len(text) + 1 {
		s, _ := serverOf(t, plenty())
		answer := s.Round(text[:n])[0] + s.Round(text[n:])[0]
		if got := inShort(t, answer); got != want {
			t.Errorf("P11: cut at %d: %s, want %s", n, got, want)
		}
	}
}

// TestByteByByte lets the same come on all connections, one byte a round, with empty chunks and rounds between.
func TestByteByByte(t *testing.T) {
	s, _ := serverOf(t, plenty(), register("a", 1))
	text := chunk(count("a"), upload("b", 1)) + chunk(fetch("a"))
	var answers [8]string
	for i := range len(text) {
		for place, answer := range s.Round(slices.Repeat([]string{text[i : i+1]}, 8)...) {
			answers[place] += answer
		}
		for _, answer := range s.Round("", "", "") {
			if answer != "" {
				t.Errorf("P11: %x is answered to nothing", answer)
			}
		}
		s.Round()
	}
	for place, answer := range answers {
		if got := inShort(t, answer); got != "5:0(0) 3:2 4:0(1)" {
			t.Errorf("P11: connection %d, byte by byte: %s", place, got)
		}
	}
}

func TestAnswerComesWithTheLastByte(t *testing.T) {
	s, _ := serverOf(t, plenty(), register("a", 1))
	text := chunk(count("a"))
	last := len(text) - 1
	expectRound(t, "P11", s, []string{"", text[:last]}, "", "")
	expectRound(t, "P11", s, []string{text[:last], text[last:] + text[:last]}, "", "5:0(0)")
	expectRound(t, "P11", s, []string{text[last:] + text, text[last:]}, "5:0(0) 5:0(0)", "5:0(0)")
}

// wrongChunks are the beginnings of what is no request; each shows with its last byte.
func wrongChunks() []string {
	texts := []string{"\x00\x00\x00\x00", "\x00\x00\x00\xc9", "\x00\x00\x01\x00", "\x01\x00\x00\x03", "\x80\x00\x00\x03", "\xff\xff\xff\xff"}
	for _, body := range []string{given("a", 1), used("a", 1), upload("a"), upload("a", rising(1, 11)...), count("A"), count(""), count("a") + "\x00", "\x05", "\x81\x00", "\xff\x09", head(0, "a"), strings.Repeat("x", 200)} {
		texts = append(texts, framed(body))
	}
	return texts
}

func TestConnectionIsClosed(t *testing.T) {
	good := chunk(count("a"))
	for _, wrong := range wrongChunks() {
		for place := range 8 {
			s, d := serverOf(t, plenty(), register("a", 1))
			chunks := slices.Repeat([]string{good}, 8)
			answers := slices.Repeat([]string{"5:0(0)"}, 8)
			chunks[place] = good + wrong[:len(wrong)-1]
			expectRound(t, "P11", s, chunks, answers...)
			chunks[place] = wrong[len(wrong)-1:] + good + chunk(register("b", 1)) + "\x00\x00\x00\x00"
			answers[place] = "255:9"
			expectRound(t, "P11", s, chunks, answers...)
			for _, more := range []string{good, "", wrong, "\x00\x00\x00\x00", chunk(register("b", 1))} {
				chunks[place], answers[place] = more, ""
				expectRound(t, "P11", s, chunks, answers...)
			}
			s.Tick()
			expectRound(t, "P11", s, chunks, answers...)
			expectLog(t, "P11", d, register("a", 1))
			expectDown(t, s, false)
		}
	}
}

func TestWrongFrameBehindGoodOnes(t *testing.T) {
	s, d := serverOf(t, plenty())
	for i, wrong := range wrongChunks()[:8] {
		name := string(rune('a' + i))
		chunks := append(slices.Repeat([]string{""}, i), chunk(register(name, 1), count(name))+wrong+chunk(upload(name, 1)))
		answers := append(slices.Repeat([]string{""}, i), "1:0 5:0(0) 255:9")
		expectRound(t, "P11", s, chunks, answers...)
	}
	expectLog(t, "P11", d, register("a", 1), register("b", 1), register("c", 1), register("d", 1), register("e", 1), register("f", 1), register("g", 1), register("h", 1))
}

func TestLengthIsLookedAtAsSoonAsItShows(t *testing.T) {
	s, _ := serverOf(t, plenty(), register("a", 1))
	expectRound(t, "P11", s, []string{"", "\x00\x00\x00"}, "", "")
	expectRound(t, "P11", s, []string{chunk(count("a")), "\xc9"}, "5:0(0)", "255:9") // example 9
	expectRound(t, "P11", s, []string{chunk(count("a")), chunk(count("a"))}, "5:0(0)", "")
	expectRound(t, "P11", s, []string{"\x00\x00\x00\xc8" + strings.Repeat("x", 199)}, "")
	expectRound(t, "P11", s, []string{"x"}, "255:9")
}
