package prekeys_test

import (
	"encoding/hex"
	"math"
	"reflect"
	"slices"
	"strconv"
	"strings"
	"testing"

	"prekeys/prekeys"
)

type written struct {
	request prekeys.Request
	frame   string
}

func manyKeys(n int) []prekeys.OneTime {
	var keys []prekeys.OneTime
	for i := range n {
		keys = append(keys, prekeys.OneTime{ID: 256 + i, Key: "onetime" + strconv.Itoa(i%10)})
	}
	return keys
}

// uploadBody lays down as many keys as it is given, and says how many there are as it is told to.
func uploadBody(name string, says byte, keys []prekeys.OneTime) string {
	body := "\x03" + string([]byte{byte(len(name))}) + name + string([]byte{says})
	for _, one := range keys {
		body += string([]byte{byte(one.ID >> 8), byte(one.ID)}) + one.Key
	}
	return body
}

func wholeRequests() []written {
	long := strings.Repeat("é", 16)
	return []written{
		{prekeys.Request{Kind: 5, Name: "a"}, "\x00\x00\x00\x03\x05\x01a"},
		{prekeys.Request{Kind: 4, Name: "é1"}, "\x00\x00\x00\x05\x04\x03\xc3\xa91"},
		{prekeys.Request{Kind: 4, Name: long}, "\x00\x00\x00\x22\x04\x20" + long},
		{prekeys.Request{Kind: 1, Name: "bob", Identity: "identity", ID: 65535, Key: "thekey00", Seal: "sealseal"},
			"\x00\x00\x00\x1f\x01\x03bobidentity\xff\xffthekey00sealseal"},
		{prekeys.Request{Kind: 1, Name: long, Identity: "\x00\x01\x02\x03\xfc\xfd\xfe\xff", Key: "\xff\xff\xff\xff\xff\xff\xff\xff", Seal: "\x00\x00\x00\x00\x00\x00\x00\x00"},
			"\x00\x00\x00\x3c\x01\x20" + long + "\x00\x01\x02\x03\xfc\xfd\xfe\xff\x00\x00\xff\xff\xff\xff\xff\xff\xff\xff\x00\x00\x00\x00\x00\x00\x00\x00"},
		{prekeys.Request{Kind: 2, Name: "a", ID: 258, Key: "thekey00", Seal: "sealseal"},
			"\x00\x00\x00\x15\x02\x01a\x01\x02thekey00sealseal"},
		{prekeys.Request{Kind: 3, Name: "b", Keys: []prekeys.OneTime{{ID: 7, Key: "onetime0"}}},
			"\x00\x00\x00\x0e\x03\x01b\x01\x00\x07onetime0"},
		{prekeys.Request{Kind: 3, Name: "b", Keys: []prekeys.OneTime{{ID: 65535, Key: "onetime0"}, {ID: 0, Key: "onetime1"}, {ID: 0, Key: "onetime1"}}},
			"\x00\x00\x00\x22\x03\x01b\x03\xff\xffonetime0\x00\x00onetime1\x00\x00onetime1"},
		{prekeys.Request{Kind: 3, Name: long, Keys: manyKeys(10)}, framed(uploadBody(long, 10, manyKeys(10)))},
	}
}

func TestEncodeTellsFrames(t *testing.T) {
	for _, c := range wholeRequests() {
		got, err := prekeys.Encode(c.request)
		if got != c.frame || err != nil {
			t.Errorf("P5: Encode(%+v) = %x, %v, want %x", c.request, got, err, c.frame)
		}
	}
}

func TestEncodeLooksAtNoOtherFields(t *testing.T) {
	wrong := prekeys.Request{Name: "a", Identity: "x", Key: "y", Seal: "z", ID: -7, Keys: manyKeys(11)}
	fetch, count, rotate, upload := wrong, wrong, wrong, wrong
	fetch.Kind, count.Kind, rotate.Kind, upload.Kind = 4, 5, 2, 3
	rotate.ID, rotate.Key, rotate.Seal = 1, "thekey00", "sealseal"
	upload.Keys = manyKeys(1)
	for _, c := range []written{
		{fetch, framed("\x04\x01a")}, {count, framed("\x05\x01a")},
		{rotate, framed("\x02\x01a\x00\x01thekey00sealseal")}, {upload, framed(uploadBody("a", 1, manyKeys(1)))},
	} {
		got, err := prekeys.Encode(c.request)
		if got != c.frame || err != nil {
			t.Errorf("P5: Encode(%+v) = %x, %v, want %x", c.request, got, err, c.frame)
		}
	}
}

func expectRefused(t *testing.T, r prekeys.Request, want string) {
	t.Helper()
	got, err := prekeys.Encode(r)
	if told(err) != want || got != "" {
		t.Errorf("P5: Encode(%+v) = %x, %s, want %s", r, got, told(err), want)
	}
}

func TestEncodeRefusesKindsAndNames(t *testing.T) {
	for _, kind := range []int{0, -1, 6, 7, 8, 129, 255, 256, 257, -251, 1<<32 + 5, math.MaxInt, math.MinInt} {
		expectRefused(t, prekeys.Request{Kind: kind, Name: "a"}, "kind")
		expectRefused(t, prekeys.Request{Kind: kind, Name: "A", ID: -1}, "kind")
	}
	for kind := 1; kind <= 5; kind++ { // a wrong name is told ahead of all that these lack besides
		for name, want := range map[string]string{"": "name at 0", "aB": "name at 1", "éé\xff": "name at 2", strings.Repeat("é", 17): "name at 16", strings.Repeat("a", 300): "name at 16"} {
			expectRefused(t, prekeys.Request{Kind: kind, Name: name, ID: -1}, want)
		}
	}
}

func TestEncodeRefusesSignedKeys(t *testing.T) {
	good := prekeys.Request{Kind: 1, Name: "a", Identity: "identity", ID: 1, Key: "thekey00", Seal: "sealseal"}
	for _, wrong := range []string{"", "seven77", "nine99999", "éééé1", strings.Repeat("x", 264)} {
		for kind, first := range map[int]int{1: 1, 2: 0} {
			key, seal, both := good, good, good
			key.Kind, seal.Kind, both.Kind = kind, kind, kind
			key.Key, seal.Seal = wrong, wrong
			both.Key, both.Seal, both.ID = wrong, wrong, -1
			expectRefused(t, key, "key at "+strconv.Itoa(first))
			expectRefused(t, seal, "key at "+strconv.Itoa(first+1))
			expectRefused(t, both, "key at "+strconv.Itoa(first))
		}
		identity := good
		identity.Identity, identity.Seal = wrong, wrong
		expectRefused(t, identity, "key at 0")
	}
	for _, id := range []int{-1, 65536, 65537, 1 << 32, math.MaxInt, math.MinInt} {
		for kind := 1; kind <= 2; kind++ {
			wrong := good
			wrong.Kind, wrong.ID = kind, id
			expectRefused(t, wrong, "id at 0")
		}
	}
}

func TestEncodeRefusesUploads(t *testing.T) {
	upload := func(keys ...prekeys.OneTime) prekeys.Request {
		return prekeys.Request{Kind: 3, Name: "a", Keys: keys}
	}
	expectRefused(t, upload(), "count")
	expectRefused(t, upload([]prekeys.OneTime{}...), "count")
	for _, n := range []int{11, 12, 255, 256, 257, 266, 1000} {
		expectRefused(t, upload(manyKeys(n)...), "count")
	}
	for _, n := range []int{1, 2, 10, 11, 300} {
		for _, at := range []int{0, n / 2, n - 1} {
			for _, wrong := range []string{"", "seven77", "nine99999"} {
				keys := manyKeys(n)
				keys[at].Key = wrong
				keys[0].ID = -1 // told only where every key has eight bytes
				expectRefused(t, upload(keys...), "key at "+strconv.Itoa(at))
			}
			for _, wrong := range []int{-1, 65536, math.MaxInt, math.MinInt} {
				keys := manyKeys(n)
				keys[at].ID, keys[n-1].ID = wrong, wrong
				expectRefused(t, upload(keys...), "id at "+strconv.Itoa(at))
			}
		}
	}
}

// goOver tells all that Requests tells of a text: the requests, and how it ended.
func goOver(t *testing.T, text string) ([]prekeys.Request, string) {
	t.Helper()
	var requests []prekeys.Request
	end := "fine"
	for r, err := range prekeys.Requests(text) {
		if end != "fine" {
			t.Fatalf("P6: Requests(%x) goes on behind an error", text)
		}
		if err == nil {
			requests = append(requests, r)
			continue
		}
		end = told(err)
		if !reflect.DeepEqual(r, prekeys.Request{}) {
			t.Errorf("P6: Requests(%x): %+v beside %v", text, r, err)
		}
	}
	return requests, end
}

func expectRequests(t *testing.T, text string, want []prekeys.Request, wantEnd string) {
	t.Helper()
	got, end := goOver(t, text)
	same := slices.EqualFunc(got, want, func(a, b prekeys.Request) bool { return reflect.DeepEqual(a, b) })
	if !same || end != wantEnd {
		t.Errorf("P6: Requests(%x): %+v, %s, want %+v, %s", text, got, end, want, wantEnd)
	}
}

func TestRequestsTellsWhatWasEncoded(t *testing.T) {
	text := ""
	var requests []prekeys.Request
	expectRequests(t, text, requests, "fine")
	for _, c := range wholeRequests() {
		expectRequests(t, c.frame, []prekeys.Request{c.request}, "fine")
		text += c.frame
		requests = append(requests, c.request)
		expectRequests(t, text, requests, "fine")
	}
}

func TestRequestsTellsShort(t *testing.T) {
	for _, c := range wholeRequests() {
		for n := 1; n < len(c.frame); n++ {
			expectRequests(t, c.frame[:n], nil, "short")
			expectRequests(t, c.frame+c.frame[:n], []prekeys.Request{c.request}, "short")
		}
	}
	expectRequests(t, "\x00\x00\x00\x03\x05\x01a\x00", []prekeys.Request{{Kind: 5, Name: "a"}}, "short")
	expectRequests(t, "\xff\xff\xff", nil, "short")
	expectRequests(t, "\x00\x00\x00\x03\x09\x09", nil, "short") // a wrong body that is not whole
	expectRequests(t, "\x00\x00\x00\xc8", nil, "short")
	expectRequests(t, "\x00\x00\x00\xc8"+strings.Repeat("x", 199), nil, "short")
}

func TestRequestsRefusesLengths(t *testing.T) {
	for _, length := range []string{"00000000", "000000c9", "00000100", "00000103", "00010003", "01000003", "7fffffff", "80000000", "80000003", "ffffffff"} {
		four, _ := hex.DecodeString(length)
		for _, behind := range []string{"", "\x05", "\x05\x01a", strings.Repeat("\x05\x01a", 200)} {
			expectRequests(t, string(four)+behind, nil, "frame")
			expectRequests(t, framed("\x05\x01a")+string(four)+behind, []prekeys.Request{{Kind: 5, Name: "a"}}, "frame")
		}
	}
	expectRequests(t, framed(strings.Repeat("x", 200)), nil, "frame")
}

func wrongBodies() []string {
	bodies := []string{"\x05", "\x05\x01", "\x05\x00", "\x05\x02a", "\x05\x01ab", "\x04\x01a\x00", "\x05\xffa", "\x04\x01\xc3\xa9"}
	for _, kind := range []byte{0, 6, 7, 8, 64, 128, 129, 132, 133, 255} {
		bodies = append(bodies, string([]byte{kind})+"\x01a", string([]byte{kind}))
	}
	for _, name := range []string{"", "A", "a-", "÷", "a\xff", "\xc3", strings.Repeat("a", 17), strings.Repeat("é", 17)} {
		named := string([]byte{byte(len(name))}) + name
		bodies = append(bodies, "\x01"+named+"identity\x00\x01thekey00sealseal", "\x02"+named+"\x00\x01thekey00sealseal", uploadBody(name, 1, manyKeys(1)), "\x04"+named, "\x05"+named)
	}
	for _, c := range [][2]int{{0, 0}, {0, 1}, {1, 0}, {1, 2}, {2, 1}, {10, 9}, {9, 10}, {10, 11}, {11, 10}, {11, 11}, {12, 12}, {19, 19}, {255, 1}, {255, 10}} {
		bodies = append(bodies, uploadBody("a", byte(c[0]), manyKeys(c[1])))
	}
	for _, c := range wholeRequests() {
		body := c.frame[4:]
		bodies = append(bodies, body+"\x00", body+body)
		for n := 1; n < len(body); n++ {
			bodies = append(bodies, body[:n])
		}
	}
	return bodies
}

func TestRequestsRefusesBodies(t *testing.T) {
	first := prekeys.Request{Kind: 5, Name: "b"}
	for _, body := range wrongBodies() {
		expectRequests(t, framed(body), nil, "frame")
		expectRequests(t, framed("\x05\x01b")+framed(body)+framed("\x05\x01b"), []prekeys.Request{first}, "frame")
	}
}

func TestRequestsStopsWhenToldTo(t *testing.T) {
	text := ""
	for _, c := range wholeRequests() {
		text += c.frame
	}
	most := len(wholeRequests())
	for behind, all := range map[string]int{"": most, "\x00": most + 1, "\x00\x00\x00\x00": most + 1} {
		for wanted := 1; wanted <= all+1; wanted++ {
			calls := 0
			prekeys.Requests(text + behind)(func(prekeys.Request, error) bool {
				calls++
				return calls != wanted // an answer of true behind a false must not be asked for
			})
			if calls != min(wanted, all) {
				t.Errorf("P6: of %d, %d were wanted, %d told", all, wanted, calls)
			}
		}
	}
}
