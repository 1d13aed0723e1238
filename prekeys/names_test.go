package prekeys_test

import (
	"strings"
	"testing"
	"unicode/utf8"

	"prekeys/prekeys"
)

const nameLetters = "abcdefghijklmnopqrstuvwxyz0123456789àáâãäåæçèéêëìíîïðñòóôõöøùúûüýþÿ"

func expectName(t *testing.T, name, want string) {
	t.Helper()
	if got := told(prekeys.Valid(name)); got != want {
		t.Errorf("P3: Valid(%q): %s, want %s", name, got, want)
	}
}

func TestValidExamples(t *testing.T) {
	for _, c := range []struct{ name, want string }{
		{"bob", "fine"}, {"é1", "fine"}, {"0", "fine"}, {"z9a0", "fine"},
		{"", "name at 0"}, {"Bob", "name at 0"}, {"a-b", "name at 1"},
		{"aaaaaaaaaaaaaaaaa", "name at 16"},
		{"e\u0301", "name at 1"}, {"bob ", "name at 3"}, {" bob", "name at 0"}, {"bob\x00", "name at 3"},
		{"é÷é", "name at 1"}, {"éÉ", "name at 1"}, {"ßa", "name at 0"}, {"aā", "name at 1"}, {"\ufeffa", "name at 0"},
	} {
		expectName(t, c.name, c.want)
	}
}

func TestValidLooksAtEveryRune(t *testing.T) {
	for r := rune(0); r <= utf8.MaxRune; r++ {
		if !utf8.ValidRune(r) {
			continue
		}
		want := "name at 0"
		if strings.ContainsRune(nameLetters, r) {
			want = "fine"
		}
		expectName(t, string(r), want)
	}
}

func TestValidRefusesBrokenUTF8(t *testing.T) {
	for _, broken := range []string{"\xff", "\xc3", "\xa9", "\xe9", "\xc1\xa1", "\xe0\x83\xa9", "\xed\xa0\x80", "\xf4\x90\x80\x80", "\ufffd"} {
		expectName(t, broken, "name at 0")
		expectName(t, "aé"+broken, "name at 2")
		expectName(t, "aé"+broken+"b", "name at 2")
	}
}

func TestValidCountsLettersNotBytes(t *testing.T) {
	for _, letter := range []string{"a", "7", "é", "ÿ"} {
		for n := 1; n <= 16; n++ {
			expectName(t, strings.Repeat(letter, n), "fine")
		}
		for _, n := range []int{17, 18, 40, 5000} {
			expectName(t, strings.Repeat(letter, n), "name at 16")
		}
		for _, behind := range []string{"-", "\xff", "A", "÷"} {
			expectName(t, strings.Repeat(letter, 9)+behind, "name at 9")
			expectName(t, strings.Repeat(letter, 15)+behind, "name at 15")
			expectName(t, strings.Repeat(letter, 16)+behind, "name at 16")
			expectName(t, strings.Repeat(letter, 17)+behind, "name at 16")
		}
	}
	expectName(t, "a-"+strings.Repeat("a", 30), "name at 1")
	expectName(t, "a-b-c", "name at 1")
}
