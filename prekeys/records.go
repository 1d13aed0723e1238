package prekeys

// record is what the log has of a change: of register, rotate and upload the request itself, of given an ID, of used its ids (P9).
type record struct {
	Request
	ids []int
}

func givenRecord(name string, id int) record {
	return record{Request: Request{Kind: kindGiven, Name: name, ID: id}}
}

func usedRecord(name string, ids []int) record {
	return record{Request: Request{Kind: kindUsed, Name: name}, ids: ids}
}

func recordText(r record) string {
	text := frame(recordBody(r))
	return text + sumOf(text[lengthSize:])
}

func recordBody(r record) []byte {
	body := requestBody(r.Request)
	switch r.Kind {
	case kindGiven:
		body = appendNumber(body, uint64(r.ID), idSize)
	case kindUsed:
		body = append(body, byte(len(r.ids)))
		for _, id := range r.ids {
			body = appendNumber(body, uint64(id), idSize)
		}
	}
	return body
}

// firstRecord reads the first record of a log: what it is, and the log behind it.
func firstRecord(log string) (record, string, error) {
	r, behind, err := readFrame(log, readRecord)
	if err != nil {
		return record{}, "", err
	}
	body := log[lengthSize : len(log)-len(behind)]
	if len(behind) < sumSize || behind[:sumSize] != sumOf(body) {
		return record{}, "", ErrFrame
	}
	return r, behind[sumSize:], nil
}

func readRecord(body *reader) record {
	r := record{Request: readHead(body, isRecord)}
	switch r.Kind {
	case kindGiven:
		r.ID = body.number(idSize)
	case kindUsed:
		r.ids = readIDs(body)
	default:
		readFields(body, &r.Request)
	}
	return r
}

func readIDs(body *reader) []int {
	var ids []int
	for range readCount(body) {
		ids = append(ids, body.number(idSize))
	}
	return ids
}
