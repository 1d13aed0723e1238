package prekeys

// The kinds of requests.
const (
	kindRegister = iota + 1
	kindRotate
	kindUpload
	kindFetch
	kindCount
)

// The codes of replies.
const (
	codeFine = iota
	codeKnown
	codeNone
	codeSeal
	codeAgain
	codeFull
	codeSlow
	codeOld
)

// The reply to what is no frame: a kind and a code that no other reply has (P7).
const (
	kindNoFrame = 255
	codeNoFrame = 9
)

func isKind(kind int) bool { return kind >= kindRegister && kind <= kindCount }

func isCode(code int) bool { return code >= codeFine && code <= codeOld }
