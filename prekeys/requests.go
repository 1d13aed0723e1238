package prekeys

// What an upload may have (P5); how many ids a record of used ones has is the same (P9).
const (
	maxKeys = 10
	maxID   = 65535
)

// checkRequest keeps to P5's order: a key's fault is told ahead of an id's, and both ahead of how many keys there are.
func checkRequest(r Request) error {
	if !isKind(r.Kind) {
		return ErrKind
	}
	if err := Valid(r.Name); err != nil {
		return err
	}
	for i, text := range textsOfEight(r) {
		if len(text) != keySize {
			return &Fault{At: i, Err: ErrKey}
		}
	}
	for i, id := range idsOf(r) {
		if id < 0 || id > maxID {
			return &Fault{At: i, Err: ErrID}
		}
	}
	if r.Kind == kindUpload && !mayUpload(len(r.Keys)) {
		return ErrCount
	}
	return nil
}

func mayUpload(keys int) bool { return keys >= 1 && keys <= maxKeys }

// textsOfEight tells what must have eight bytes, in the order by which a Fault counts.
func textsOfEight(r Request) []string {
	var texts []string
	switch r.Kind {
	case kindRegister:
		texts = append(texts, r.Identity)
		fallthrough
	case kindRotate:
		texts = append(texts, r.Key, r.Seal)
	case kindUpload:
		for _, one := range r.Keys {
			texts = append(texts, one.Key)
		}
	}
	return texts
}

// idsOf tells what must be an id, in the order by which a Fault counts.
func idsOf(r Request) []int {
	var ids []int
	switch r.Kind {
	case kindRegister, kindRotate:
		ids = append(ids, r.ID)
	case kindUpload:
		for _, one := range r.Keys {
			ids = append(ids, one.ID)
		}
	}
	return ids
}

// requestBody takes a request that checkRequest has let pass: its numbers fit into their bytes.
func requestBody(r Request) []byte {
	body := []byte{byte(r.Kind), byte(len(r.Name))}
	body = append(body, r.Name...)
	switch r.Kind {
	case kindRegister:
		body = append(body, r.Identity...)
		fallthrough
	case kindRotate:
		body = appendSignedKey(body, r.ID, r.Key, r.Seal)
	case kindUpload:
		body = append(body, byte(len(r.Keys)))
		for _, one := range r.Keys {
			body = appendOneTime(body, one.ID, one.Key)
		}
	}
	return body
}

func readRequest(body *reader) Request {
	r := readHead(body, isKind)
	readFields(body, &r)
	return r
}

// readHead reads what all bodies begin with, of requests and of records.
func readHead(body *reader, mayBe func(kind int) bool) Request {
	r := Request{Kind: body.number(1)}
	must(mayBe(r.Kind))
	r.Name = body.text(body.number(1))
	must(Valid(r.Name) == nil)
	return r
}

func readFields(body *reader, r *Request) {
	switch r.Kind {
	case kindRegister:
		r.Identity = body.text(keySize)
		fallthrough
	case kindRotate:
		r.ID, r.Key, r.Seal = body.signedKey()
	case kindUpload:
		r.Keys = readKeys(body)
	}
}

func readKeys(body *reader) []OneTime {
	var keys []OneTime
	for range readCount(body) {
		keys = append(keys, body.oneTime())
	}
	return keys
}

func readCount(body *reader) int {
	count := body.number(1)
	must(mayUpload(count))
	return count
}
