package prekeys

import "strings"

// How many bytes the parts of a frame have.
const (
	lengthSize = 4
	idSize     = 2
	keySize    = 8
	sealSize   = 8
	maxBody    = 200
)

func appendNumber(to []byte, number uint64, size int) []byte {
	for i := size - 1; i >= 0; i-- {
		to = append(to, byte(number>>(8*i)))
	}
	return to
}

func appendSignedKey(to []byte, id int, key, seal string) []byte {
	to = appendNumber(to, uint64(id), idSize)
	to = append(to, key...)
	return append(to, seal...)
}

func appendOneTime(to []byte, id int, key string) []byte {
	to = appendNumber(to, uint64(id), idSize)
	return append(to, key...)
}

func frame(body []byte) string {
	length := appendNumber(nil, uint64(len(body)), lengthSize)
	return string(append(length, body...))
}

// stop is what a reading panics with. It has a type of its own so that no other panic is taken for it.
type stop struct {
	why error
}

// reader takes fields off the front of a text. Where it can't go on it panics, so that those who read field by field need not ask after each one; readFrame catches it.
type reader struct {
	rest  string
	early error // why it stops if the text ends too early: a body's end is not the end of what has come
}

func (r *reader) take(size int) string {
	if size > len(r.rest) {
		panic(stop{r.early})
	}
	piece := r.rest[:size]
	r.rest = r.rest[size:]
	return piece
}

// text hands out a copy, since a piece would keep the whole text that came in.
func (r *reader) text(size int) string { return strings.Clone(r.take(size)) }

func (r *reader) number(size int) int {
	number := 0
	for _, b := range []byte(r.take(size)) {
		number = number<<8 | int(b)
	}
	return number
}

func (r *reader) signedKey() (id int, key, seal string) {
	id = r.number(idSize)
	key = r.text(keySize)
	seal = r.text(sealSize)
	return id, key, seal
}

func (r *reader) oneTime() OneTime {
	id := r.number(idSize)
	return OneTime{ID: id, Key: r.text(keySize)}
}

// must stops the reading of what is whole, but is not what it should be.
func must(holds bool) {
	if !holds {
		panic(stop{ErrFrame})
	}
}

// body looks at the length ahead of taking what it says: a wrong one is told as soon as it is there (P6).
func (r *reader) body() *reader {
	length := r.number(lengthSize)
	must(length >= 1 && length <= maxBody)
	return &reader{rest: r.take(length), early: ErrFrame}
}

// readFrame reads the first frame of a text, its body by read: what that tells, and the text behind the frame.
func readFrame[T any](text string, read func(body *reader) T) (told T, behind string, err error) {
	defer func() {
		switch caught := recover().(type) {
		case nil:
		case stop:
			err = caught.why
		default:
			panic(caught) // not the reading's own: it must not pass for a wrong frame
		}
	}()
	whole := &reader{rest: text, early: ErrShort}
	body := whole.body()
	found := read(body)
	must(body.rest == "")
	return found, whole.rest, nil
}

// frames goes on after an error no more: where the next frame would begin is not known then.
func frames[T any](text string, read func(body *reader) T) func(yield func(T, error) bool) {
	return func(yield func(T, error) bool) {
		if yield == nil { // nobody to tell it to, and no panic either (P1)
			return
		}
		for rest := text; rest != ""; {
			told, behind, err := readFrame(rest, read)
			if !yield(told, err) || err != nil {
				return
			}
			rest = behind
		}
	}
}
