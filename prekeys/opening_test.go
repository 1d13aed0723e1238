package prekeys_test

import (
	"fmt"
	"math"
	"slices"
	"testing"

	"prekeys/prekeys"
)

// limits are the least and the greatest number of a config's field.
type limits struct {
	name        string
	least, most int
	field       func(c *prekeys.Config) *int
}

func allLimits() []limits {
	return []limits{
		{"Pool", 1, 30, func(c *prekeys.Config) *int { return &c.Pool }},
		{"Low", 0, 30, func(c *prekeys.Config) *int { return &c.Low }},
		{"Burst", 1, 100, func(c *prekeys.Config) *int { return &c.Burst }},
		{"Refill", 0, 100, func(c *prekeys.Config) *int { return &c.Refill }},
		{"Shards", 1, 8, func(c *prekeys.Config) *int { return &c.Shards }},
	}
}

func TestConfigs(t *testing.T) {
	for _, l := range allLimits() {
		for _, number := range []int{l.least, l.least + 1, l.most - 1, l.most} {
			c := plenty()
			*l.field(&c) = number
			opened(t, prekeys.NewDisk(), c)
		}
		for _, number := range []int{l.least - 1, l.most + 1, math.MinInt, math.MaxInt, -l.most, 1 << 32} {
			c := plenty()
			*l.field(&c) = number
			d := diskWith(t, "no log", "nor this")
			s, err := prekeys.Open(d, c)
			if s != nil || told(err) != "config" {
				t.Errorf("P10: Open with %s %d: %v, %s, want config", l.name, number, s, told(err))
			}
			expectBytes(t, "Open with a wrong config", d, "no log", "nor this")
		}
	}
}

func TestWrongConfigIsToldAheadOfDown(t *testing.T) {
	d := diskWith(t, "no log", "")
	d.Fuse(1)
	if s, err := prekeys.Open(d, prekeys.Config{}); s != nil || told(err) != "config" {
		t.Errorf("P10: Open of a disk with a fuse, with a wrong config: %v, %s", s, told(err))
	}
	expectTold(t, "the first operation behind a refused Open", d.Sync(), "down")
	if s, err := prekeys.Open(d, prekeys.Config{}); s != nil || told(err) != "config" {
		t.Errorf("P10: Open of a disk that is down, with a wrong config: %v, %s", s, told(err))
	}
}

// TestOpenReplacesOnlyWhatItMust lights a fuse to see how many operations Open makes.
func TestOpenReplacesOnlyWhatItMust(t *testing.T) {
	log := logOf(register("a", 1), upload("a", 1))
	for _, c := range []struct {
		safe, written string
		operations    int
		left          string
	}{
		{"", "", 0, ""}, {log, "", 0, log}, {"", log, 1, log}, {log[:20], log[20:], 1, log},
		{log, "\x00", 1, log}, {log + "\x00", "", 1, log}, {log[:20], "", 1, ""}, {"", "\x00", 1, ""},
		{log, logOf(given("a", 1))[:9], 1, log}, {log + "\xff\xff\xff\xff", logOf(given("a", 1)), 1, log},
	} {
		d := diskWith(t, c.safe, c.written)
		d.Fuse(c.operations + 1)
		opened(t, d, plenty())
		expectBytes(t, "behind Open", d, c.left, "")
		expectTold(t, fmt.Sprintf("the operation behind Open of %x, %x", c.safe, c.written), d.Sync(), "down")
	}
}

func TestOpenReadsWhatIsOnlyWritten(t *testing.T) {
	bodies := []string{register("a", 1), upload("a", 1, 2), given("a", 1)}
	log := logOf(bodies...)
	for n := range len(log) + 1 {
		d := diskWith(t, log[:n], log[n:])
		s := opened(t, d, plenty())
		expectLog(t, "P10", d, bodies...)
		expectServed(t, "P10", s, "5:0(1) 3:4", count("a"), upload("a", 1))
	}
}

func TestOpenOfADiskThatIsDown(t *testing.T) {
	log := logOf(register("a", 1), upload("a", 1))
	for _, texts := range [][2]string{{log, ""}, {"", ""}} {
		d := diskWith(t, texts[0], texts[1])
		d.Fuse(1)
		d.Sync()
		expectDown(t, opened(t, d, plenty()), false) // nothing is to be written
	}
	for _, texts := range [][2]string{{log, logOf(given("a", 1))}, {log + "\x00", ""}, {"", "\x00"}, {log[:9], ""}, {"", log}} {
		d := diskWith(t, texts[0], texts[1])
		d.Fuse(1)
		s, err := prekeys.Open(d, plenty())
		if s != nil || told(err) != "down" {
			t.Errorf("P10: Open where Replace fails: %v, %s", s, told(err))
		}
		expectBytes(t, "behind an Open that failed", d, texts[0], texts[1])
	}
}

// TestNewServerBeginsAnew leaves bytes, closes and empties connections, and opens another server over the disk.
func TestNewServerBeginsAnew(t *testing.T) {
	c := plenty()
	c.Burst, c.Low = 2, 30
	first, d := serverOf(t, c, register("a", 1), upload("a", 1, 2, 3))
	expectRound(t, "P10", first, []string{"\x00\x00", chunk(fetch("a"), fetch("a")), "\xff\xff\xff\xff"}, "", "4:0(1 gives 1) 4:0(1 gives 2)", "255:9")
	second := opened(t, d, c)
	one := chunk(fetch("a"), fetch("a"), fetch("a"))
	expectRound(t, "P10", second, slices.Repeat([]string{one}, 8), "4:0(1 gives 3) 4:0(1) 4:6", "4:0(1) 4:0(1) 4:6", "4:0(1) 4:0(1) 4:6", "4:0(1) 4:0(1) 4:6", "4:0(1) 4:0(1) 4:6", "4:0(1) 4:0(1) 4:6", "4:0(1) 4:0(1) 4:6", "4:0(1) 4:0(1) 4:6")
	expectNotices(t, first, "a", "a")
	expectNotices(t, second, "a")
}

// TestShardsShowNowhere plays the same with each number of shards.
func TestShardsShowNowhere(t *testing.T) {
	names := []string{"a", "b", "c", "é", "ab", "0", longName, "zz9", "ÿ", "a0123456789"}
	var answers []string
	var logs []string
	for shards := 1; shards <= 8; shards++ {
		c := plenty()
		c.Shards, c.Low = shards, 3
		s, d := serverOf(t, c)
		answer := ""
		for i, name := range names {
			answer += s.Round(chunk(register(name, i), upload(name, i, i+1, i+2), fetch(name)))[0]
		}
		answer += fmt.Sprint(s.Notices(), s.Compact())
		log, _ := d.Bytes()
		again := opened(t, d, c)
		for _, name := range names {
			answer += again.Round(chunk(fetch(name), count(name)))[0]
		}
		answers, logs = append(answers, answer), append(logs, log)
	}
	if len(slices.Compact(answers)) != 1 || len(slices.Compact(logs)) != 1 {
		t.Error("P10: it shows over how many maps the names are spread")
	}
}
