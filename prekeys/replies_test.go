package prekeys_test

import (
	"slices"
	"strings"
	"testing"

	"prekeys/prekeys"
)

const signedPart = "identity\x01\x02thekey00sealseal"

func expectReplies(t *testing.T, text string, want []prekeys.Reply, wantEnd string) {
	t.Helper()
	got, err := prekeys.Replies(text)
	if !slices.Equal(got, want) || told(err) != wantEnd {
		t.Errorf("P7: Replies(%x) = %+v, %s, want %+v, %s", text, got, told(err), want, wantEnd)
	}
}

type answered struct {
	reply prekeys.Reply
	body  string
}

func wholeReplies() []answered {
	return []answered{
		{prekeys.Reply{Kind: 1}, "\x81\x00"},
		{prekeys.Reply{Kind: 2, Code: 7}, "\x82\x07"},
		{prekeys.Reply{Kind: 255, Code: 9}, "\xff\x09"},
		{prekeys.Reply{Kind: 4, Code: 6}, "\x84\x06"},
		{prekeys.Reply{Kind: 4, Identity: "identity", ID: 258, Key: "thekey00", Seal: "sealseal"}, "\x84\x00" + signedPart + "\x00"},
		{prekeys.Reply{Kind: 4, Identity: "identity", ID: 258, Key: "thekey00", Seal: "sealseal", One: true, OneID: 65533, OneKey: "onetime0"}, "\x84\x00" + signedPart + "\x01\xff\xfdonetime0"},
		{prekeys.Reply{Kind: 4, Identity: "\x00\x00\x00\x00\x00\x00\x00\x00", Key: "\xff\xff\xff\xff\xff\xff\xff\xff", Seal: "\x01\x01\x01\x01\x01\x01\x01\x01", One: true, OneKey: "\x00\x00\x00\x00\x00\x00\x00\x00"},
			"\x84\x00\x00\x00\x00\x00\x00\x00\x00\x00\x00\x00\xff\xff\xff\xff\xff\xff\xff\xff\x01\x01\x01\x01\x01\x01\x01\x01\x01\x00\x00\x00\x00\x00\x00\x00\x00\x00\x00"},
		{prekeys.Reply{Kind: 5}, "\x85\x00\x00"},
		{prekeys.Reply{Kind: 5, Count: 255}, "\x85\x00\xff"},
		{prekeys.Reply{Kind: 5, Code: 2}, "\x85\x02"},
	}
}

func TestRepliesTellsReplies(t *testing.T) {
	text := ""
	var replies []prekeys.Reply
	expectReplies(t, text, replies, "fine")
	for _, c := range wholeReplies() {
		expectReplies(t, framed(c.body), []prekeys.Reply{c.reply}, "fine")
		text += framed(c.body)
		replies = append(replies, c.reply)
		expectReplies(t, text, replies, "fine")
	}
}

func TestRepliesKnowsKindsAndCodes(t *testing.T) {
	for mark := range 256 {
		for code := range 256 {
			kind := mark - 128
			asks := code == 0 && (kind == 4 || kind == 5) // these tell more than two bytes
			text := framed(string([]byte{byte(mark), byte(code)}))
			switch {
			case mark == 255 && code == 9:
				expectReplies(t, text, []prekeys.Reply{{Kind: 255, Code: 9}}, "fine")
			case kind >= 1 && kind <= 5 && code <= 7 && !asks:
				expectReplies(t, text, []prekeys.Reply{{Kind: kind, Code: code}}, "fine")
			default:
				expectReplies(t, text, nil, "frame at 0")
			}
		}
	}
}

func TestRepliesTellsHowManyAreAhead(t *testing.T) {
	ahead := ""
	for _, place := range []string{"0", "1", "2", "3"} {
		for n := 1; n < 6; n++ {
			expectReplies(t, ahead+framed("\x81\x00")[:n], nil, "short at "+place)
		}
		expectReplies(t, ahead+"\x00\x00\x00\xc8"+strings.Repeat("x", 199), nil, "short at "+place)
		for _, length := range []string{"\x00\x00\x00\x00", "\x00\x00\x00\xc9", "\x00\x00\x01\x02", "\x80\x00\x00\x02", "\xff\xff\xff\xff"} {
			expectReplies(t, ahead+length, nil, "frame at "+place)
			expectReplies(t, ahead+length+"\x81\x00", nil, "frame at "+place)
		}
		expectReplies(t, ahead+framed("\x81\x08")+framed("\x81\x00"), nil, "frame at "+place)
		expectReplies(t, ahead+framed(strings.Repeat("x", 200)), nil, "frame at "+place)
		ahead += framed("\x83\x05")
	}
}

func TestRepliesRefusesBodies(t *testing.T) {
	bodies := []string{"\x81", "\xff", "\x84", "\x05\x00\x00", "\x04\x00" + signedPart + "\x00", "\x84\x01" + signedPart + "\x00", "\x85\x02\x00", "\x84\x00\x07"}
	for _, c := range wholeReplies() {
		bodies = append(bodies, c.body+"\x00", c.body+c.body)
		for n := 3; n < len(c.body); n++ {
			bodies = append(bodies, c.body[:n])
		}
	}
	for given := range 256 {
		flag := string([]byte{byte(given)})
		if given != 0 {
			bodies = append(bodies, "\x84\x00"+signedPart+flag)
		}
		if given != 1 {
			bodies = append(bodies, "\x84\x00"+signedPart+flag+"\x00\x07onetime0")
		}
	}
	for _, body := range bodies {
		expectReplies(t, framed(body), nil, "frame at 0")
		expectReplies(t, framed("\xff\x09")+framed(body), nil, "frame at 1")
	}
}
