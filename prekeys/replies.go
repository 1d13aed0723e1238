package prekeys

// replyMark is added to the kind of the request that a reply answers (P7).
const replyMark = 128

// replyBody lays the mark over the kind bit by bit: the kind of the reply to what is no frame has it already.
func replyBody(r Reply) []byte {
	body := []byte{byte(replyMark | r.Kind), byte(r.Code)}
	if r.Code != codeFine { // a refusal tells nothing more
		return body
	}
	switch r.Kind {
	case kindFetch:
		return appendFetched(body, r)
	case kindCount:
		return append(body, byte(r.Count))
	}
	return body
}

func appendFetched(body []byte, r Reply) []byte {
	body = append(body, r.Identity...)
	body = appendSignedKey(body, r.ID, r.Key, r.Seal)
	if !r.One {
		return append(body, 0)
	}
	body = append(body, 1)
	return appendOneTime(body, r.OneID, r.OneKey)
}

func readReply(body *reader) Reply {
	mark := body.number(1)
	code := body.number(1)
	if mark == kindNoFrame && code == codeNoFrame {
		return Reply{Kind: kindNoFrame, Code: codeNoFrame}
	}
	r := Reply{Kind: mark - replyMark, Code: code}
	must(isKind(r.Kind) && isCode(r.Code))
	if r.Code != codeFine { // a refusal tells nothing more
		return r
	}
	switch r.Kind {
	case kindFetch:
		return readFetched(body, r)
	case kindCount:
		r.Count = body.number(1)
	}
	return r
}

func readFetched(body *reader, r Reply) Reply {
	r.Identity = body.text(keySize)
	r.ID, r.Key, r.Seal = body.signedKey()
	given := body.number(1)
	must(given <= 1)
	if given == 1 {
		one := body.oneTime()
		r.One, r.OneID, r.OneKey = true, one.ID, one.Key
	}
	return r
}
