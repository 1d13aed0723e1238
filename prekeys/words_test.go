package prekeys_test

import (
	"encoding/binary"
	"errors"
	"strconv"
	"testing"

	"prekeys/prekeys"
)

type reason struct {
	name string
	err  error
}

func reasons() []reason {
	return []reason{
		{"config", prekeys.ErrConfig}, {"name", prekeys.ErrName}, {"key", prekeys.ErrKey},
		{"id", prekeys.ErrID}, {"count", prekeys.ErrCount}, {"kind", prekeys.ErrKind},
		{"short", prekeys.ErrShort}, {"frame", prekeys.ErrFrame}, {"down", prekeys.ErrDown},
	}
}

// told names every reason that an error is or wraps, and the place that is told with it.
func told(err error) string {
	if err == nil {
		return "fine"
	}
	text := ""
	for _, r := range reasons() {
		if errors.Is(err, r.err) {
			text += r.name
		}
	}
	if err.Error() == "" {
		text += " without a text"
	}
	var fault *prekeys.Fault
	if errors.As(err, &fault) {
		text += " at " + strconv.Itoa(fault.At)
	}
	return text
}

// framed lays a length ahead of a body; tests work frames out by themselves, not by what they test.
func framed(body string) string {
	return string(binary.BigEndian.AppendUint32(nil, uint32(len(body)))) + body
}

func TestReasonsAreApart(t *testing.T) {
	for _, r := range reasons() {
		if got := told(r.err); got != r.name {
			t.Errorf("reason %s is told as %q", r.name, got)
		}
		fault := &prekeys.Fault{At: 7, Err: r.err}
		if got, want := told(fault), r.name+" at 7"; got != want {
			t.Errorf("a Fault of it is told as %q, want %q", got, want)
		}
		if fault.Unwrap() != r.err {
			t.Errorf("Unwrap of a Fault of %s: %v", r.name, fault.Unwrap())
		}
	}
}

func TestEmptyFaultHasText(t *testing.T) {
	fault := &prekeys.Fault{}
	if fault.Error() == "" || fault.Unwrap() != nil {
		t.Errorf("an empty Fault: text %q, wraps %v", fault.Error(), fault.Unwrap())
	}
}
