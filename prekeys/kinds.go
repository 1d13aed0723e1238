package prekeys

// The kinds of requests; given and used are of records alone.
const (
	kindRegister = iota + 1
	kindRotate
	kindUpload
	kindFetch
	kindCount
	kindGiven
	kindUsed
)

// The codes of replies.
const (
	codeFine = iota
	codeKnown
	codeNone
	codeSeal
	codeAgain
	codeFull
	codeSlow
	codeOld
)

// The reply to what is no frame: a kind and a code that no other reply has (P7).
const (
	kindNoFrame = 255
	codeNoFrame = 9
)

func isKind(kind int) bool { return kind >= kindRegister && kind <= kindCount }

// isRecord leaves out what changes nothing by itself: of a fetch the log has what it gives (P9).
func isRecord(kind int) bool {
	switch kind {
	case kindRegister, kindRotate, kindUpload, kindGiven, kindUsed:
		return true
	}
	return false
}

func isCode(code int) bool { return code >= codeFine && code <= codeOld }
