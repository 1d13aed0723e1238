package prekeys_test

import (
	"encoding/binary"
	"reflect"
	"slices"
	"testing"

	"prekeys/prekeys"
)

// spoilt tells texts that are nearly frames: each byte in turn is another one, is missing, or is there twice.
func spoilt(text string) []string {
	var texts []string
	for i := range len(text) {
		for b := range 256 {
			texts = append(texts, text[:i]+string([]byte{byte(b)})+text[i+1:])
		}
		texts = append(texts, text[:i], text[:i]+text[i+1:], text[:i+1]+text[i:])
	}
	return texts
}

// endOf tells how P6 ends at a text whose first frame is none.
func endOf(left string) string {
	if left == "" {
		return "fine"
	}
	if len(left) < 4 {
		return "short"
	}
	length := binary.BigEndian.Uint32([]byte(left))
	if length >= 1 && length <= 200 && len(left)-4 < int(length) {
		return "short"
	}
	return "frame"
}

func TestNothingPanics(t *testing.T) {
	for _, c := range wholeRequests() {
		for _, text := range spoilt(c.frame) {
			left := text
			requests, end := goOver(t, text)
			for _, r := range requests {
				frame, err := prekeys.Encode(r)
				if err != nil || len(frame) > len(left) || left[:len(frame)] != frame {
					t.Fatalf("P6: Requests(%x) tells %+v, which is not what stands there", text, r)
				}
				left = left[len(frame):]
			}
			if end != endOf(left) {
				t.Errorf("P6: Requests(%x) ends with %s, want %s", text, end, endOf(left))
			}
			prekeys.Valid(text)
			prekeys.Seal(text, left)
		}
	}
	for _, c := range wholeReplies() {
		for _, text := range spoilt(framed(c.body)) {
			replies, err := prekeys.Replies(text)
			if err != nil && len(replies) > 0 {
				t.Errorf("P1: Replies(%x) tells %+v beside %v", text, replies, err)
			}
		}
	}
	prekeys.Requests(framed("\x05\x01a"))(nil)
}

func TestEncodeOnlyReads(t *testing.T) {
	room := append(manyKeys(3), prekeys.OneTime{ID: 1, Key: "behind"})
	before := slices.Clone(room)
	request := prekeys.Request{Kind: 3, Name: "a", Keys: room[:3]}
	first, _ := prekeys.Encode(request)
	if !slices.Equal(room, before) {
		t.Errorf("P2: Encode has changed its argument: %+v", room)
	}
	room[0] = prekeys.OneTime{ID: 9, Key: "anotherk"}
	if again, _ := prekeys.Encode(prekeys.Request{Kind: 3, Name: "a", Keys: before[:3]}); again != first {
		t.Error("P2: Encode has kept its argument")
	}
}

// spoilKeys writes all over a list and its spare room.
func spoilKeys(keys []prekeys.OneTime) {
	keys = keys[:cap(keys)]
	for i := range keys {
		keys[i] = prekeys.OneTime{ID: -1, Key: "spoilt"}
	}
}

func TestListsAreTheCallers(t *testing.T) {
	upload := framed(uploadBody("a", 3, manyKeys(3)))
	seq := prekeys.Requests(upload + upload + upload)
	for range 2 { // what is told can be gone over again, from the beginning
		var requests []prekeys.Request
		for r, err := range seq {
			if err != nil || !slices.Equal(r.Keys, manyKeys(3)) {
				t.Errorf("P2: %+v, %v is told behind a list that was written over", r, err)
			}
			for _, other := range requests {
				spoilKeys(other.Keys)
			}
			if !slices.Equal(r.Keys, manyKeys(3)) {
				t.Error("P2: two lists share their memory")
			}
			requests = append(requests, r)
			spoilKeys(r.Keys)
		}
		if len(requests) != 3 {
			t.Errorf("P6: %d requests of three", len(requests))
		}
	}
}

func TestRepliesAreTheCallers(t *testing.T) {
	text := framed("\x81\x00") + framed("\x85\x00\x07") + framed("\x84\x02")
	want := []prekeys.Reply{{Kind: 1}, {Kind: 5, Count: 7}, {Kind: 4, Code: 2}}
	first, _ := prekeys.Replies(text)
	second, _ := prekeys.Replies(text)
	first = first[:cap(first)]
	for i := range first {
		first[i] = prekeys.Reply{Kind: -1}
	}
	third, _ := prekeys.Replies(text)
	if !slices.Equal(second, want) || !slices.Equal(third, want) {
		t.Errorf("P2: lists share their memory: %+v, %+v", second, third)
	}
}

func TestRequestsCanBeNested(t *testing.T) {
	text := framed("\x05\x01a") + framed("\x04\x01b")
	want := []prekeys.Request{{Kind: 5, Name: "a"}, {Kind: 4, Name: "b"}}
	seq := prekeys.Requests(text)
	outer := 0
	for r := range seq {
		if !reflect.DeepEqual(r, want[outer]) {
			t.Errorf("P6: %+v, want %+v", r, want[outer])
		}
		inner := 0
		for range seq {
			inner++
		}
		if inner != 2 {
			t.Errorf("P6: gone over inside itself: %d told of two", inner)
		}
		outer++
	}
	if outer != 2 {
		t.Errorf("P6: %d told of two", outer)
	}
}
