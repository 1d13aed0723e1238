package prekeys_test

import (
	"encoding/hex"
	"hash/fnv"
	"strconv"
	"strings"
	"testing"

	"prekeys/prekeys"
)

func expectSeal(t *testing.T, identity, key, want string) {
	t.Helper()
	if got := hex.EncodeToString([]byte(prekeys.Seal(identity, key))); got != want {
		t.Errorf("P4: Seal(%q, %q) = %s, want %s", identity, key, got, want)
	}
}

func TestSealExamples(t *testing.T) {
	expectSeal(t, "", "", "cbf29ce484222325")
	expectSeal(t, "identity", "thekey00", "d317ff61b8e146ad")
	expectSeal(t, "identi", "tythekey00", "d317ff61b8e146ad")
	expectSeal(t, "", "identitythekey00", "d317ff61b8e146ad")
	expectSeal(t, "a", "", "af63dc4c8601ec8c")
}

func TestSealIsFNV(t *testing.T) {
	texts := []string{"", "\x00", "\xff\xfe", "é", "short", "identity", strings.Repeat("long ", 99)}
	for i := range 2000 { // among so many, some seals begin or end with bytes of 0
		texts = append(texts, strconv.Itoa(i))
	}
	for i, identity := range texts {
		key := texts[(i*7+3)%len(texts)]
		sum := fnv.New64a()
		sum.Write([]byte(identity + key))
		expectSeal(t, identity, key, hex.EncodeToString(sum.Sum(nil)))
	}
}

func TestSealHangsOnTheOrder(t *testing.T) {
	if prekeys.Seal("identity", "thekey00") == prekeys.Seal("thekey00", "identity") {
		t.Error("P4: the identity comes ahead of the key")
	}
}
