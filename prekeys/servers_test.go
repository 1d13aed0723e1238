package prekeys_test

import (
	"errors"
	"runtime"
	"slices"
	"strings"
	"sync"
	"testing"
	"time"

	"prekeys/prekeys"
)

// TestServersTakeAnything lets spoilt frames come on all connections, and opens disks with spoilt logs.
func TestServersTakeAnything(t *testing.T) {
	good := []string{register("a", 1), upload("a", 1, 2), fetch("a"), rotate("a", 2), count("a")}
	for _, text := range spoilt(chunk(good...)) {
		s, _ := serverOf(t, plenty())
		told := 0 // by Requests: as many replies there must be
		for _, err := range prekeys.Requests(text) {
			if !errors.Is(err, prekeys.ErrShort) {
				told++
			}
		}
		for place, answer := range s.Round(text, text, "", text) {
			want := told
			if place == 2 {
				want = 0
			}
			if replies, err := prekeys.Replies(answer); len(replies) != want || err != nil {
				t.Errorf("P11: connection %d is answered %+v, %v to %x", place, replies, err, text)
			}
		}
	}
	for _, text := range spoilt(logOf(register("a", 1), upload("a", 1), given("a", 1), used("a", 3))) {
		d := diskWith(t, text[:len(text)/2], text[len(text)/2:])
		s := opened(t, d, plenty())
		safe, written := d.Bytes()
		if !strings.HasPrefix(text, safe) || written != "" {
			t.Errorf("P10: of the disk's %x Open has made %x, only written %x", text, safe, written)
		}
		s.Round(chunk(good...))
	}
}

func TestNoGoroutineIsLeft(t *testing.T) {
	s, d := serverOf(t, plenty(), register("a", 1))
	before := runtime.NumGoroutine()
	for i := range 200 {
		s.Round(slices.Repeat([]string{chunk(count("a"), fetch("a"))}, i%12)...)
		s.Round("\x00", chunk(upload("a", i)), strings.Repeat("\xff", i%6))
		s.Tick()
		if i == 100 {
			d.Fuse(1)
		}
	}
	expectDown(t, s, true)
	for range 100 { // a goroutine that has told its end may be seen still for a moment
		if runtime.NumGoroutine() <= before {
			return
		}
		time.Sleep(time.Millisecond)
	}
	t.Errorf("P2: %d goroutines, %d before", runtime.NumGoroutine(), before)
}

func TestChunksAreOnlyRead(t *testing.T) {
	s, _ := serverOf(t, plenty(), register("a", 1))
	text := chunk(count("a"))
	room := []string{text + text[:3], text[:3], "behind"}
	before := slices.Clone(room)
	first := s.Round(room[:2]...)
	if !slices.Equal(room, before) {
		t.Errorf("P2: Round has changed its chunks: %q", room)
	}
	room[0], room[1] = "other", "other"
	expectRound(t, "P2", s, []string{text[3:], text[3:]}, "5:0(0)", "5:0(0)")
	if inShort(t, first[0]) != "5:0(0)" || first[1] != "" {
		t.Errorf("P2: an answer has become %q", first)
	}
}

func TestAnswersAreTheCallers(t *testing.T) {
	c := plenty()
	c.Low = 30
	s, _ := serverOf(t, c, register("a", 1), upload("a", rising(1, 10)...), register("b", 1), upload("b", rising(1, 10)...))
	for range 3 {
		answers := s.Round(chunk(fetch("a"), fetch("a")), chunk(count("b")))
		notices := s.Notices()
		before := slices.Concat(answers, notices)
		s.Round(chunk(fetch("b"), fetch("b")), chunk(count("a")))
		if !slices.Equal(slices.Concat(answers, notices), before) {
			t.Errorf("P2: lists that were handed out have become %q, %q", answers, notices)
		}
		spoilTexts(answers)
		spoilTexts(notices)
		expectNotices(t, s, "b", "b")
	}
	expectServed(t, "P2", s, "5:0(4) 5:0(4)", count("a"), count("b"))
}

// spoilTexts writes all over a list and its spare room.
func spoilTexts(texts []string) {
	texts = texts[:cap(texts)]
	for i := range texts {
		texts[i] = "spoilt"
	}
}

func TestServersAreApart(t *testing.T) {
	c := plenty()
	c.Burst, c.Low = 1, 9
	one, oneDisk := serverOf(t, c, register("a", 1), upload("a", 1))
	other, otherDisk := serverOf(t, c, register("b", 1), upload("b", 1))
	expectRound(t, "P2", one, []string{chunk(fetch("a")) + "\x00", "\xff\xff\xff\xff"}, "4:0(1 gives 1)", "255:9")
	oneDisk.Fuse(1)
	expectRound(t, "P2", one, []string{"", "", chunk(register("b", 1))}, "", "", "")
	expectDown(t, one, true)
	expectDown(t, other, false)
	expectNotices(t, other)
	expectRound(t, "P2", other, []string{chunk(fetch("b"), count("a")), chunk(register("c", 1))}, "4:0(1 gives 1) 5:2", "1:0")
	expectNotices(t, one, "a")
	expectLog(t, "P2", oneDisk, register("a", 1), upload("a", 1), given("a", 1))
	expectLog(t, "P2", otherDisk, register("b", 1), upload("b", 1), given("b", 1), register("c", 1))
}

// TestManyAskAtOnce lets rounds of one server come at once: no key may be given twice, none may be lost.
func TestManyAskAtOnce(t *testing.T) {
	bodies := []string{register("a", 1)}
	for first := 0; first < 800; first += 10 {
		bodies = append(bodies, upload("a", rising(first, first+9)...))
	}
	s, d := serverOf(t, plenty(), bodies...)
	var wait sync.WaitGroup
	var got [8][]string
	for place := range got {
		wait.Go(func() {
			chunks := slices.Repeat([]string{""}, place+1)
			chunks[place] = chunk(fetch("a"), count("a"))
			for range 100 {
				got[place] = append(got[place], s.Round(chunks...)[place])
				s.Tick()
				s.Notices()
				if err := s.Compact(); err != nil || s.Down() {
					t.Error("P13: Compact fails without a fuse")
				}
			}
		})
	}
	wait.Wait()
	counts := map[int]int{}
	for _, answers := range got {
		for _, answer := range answers {
			replies, err := prekeys.Replies(answer)
			if err != nil || len(replies) != 2 || !replies[0].One {
				t.Fatalf("P12: a fetch is answered %+v, %v", replies, err)
			}
			counts[replies[0].OneID]++
		}
	}
	if len(counts) != 800 {
		t.Errorf("P12: %d of 800 keys were given", len(counts))
	}
	expectServed(t, "P12", opened(t, d, plenty()), "4:0(1) 5:0(0)", fetch("a"), count("a"))
}
