package header

import (
	"bailiwick/api"
	"bailiwick/rlp"
)

// How a transaction went, as a number.
const (
	failed = 0
	well   = 1
)

// Receipt is r's bytes.
func Receipt(r api.Receipt) ([]byte, api.Errno) {
	switch {
	case r.Type < 0 || r.Type > 2:
		return nil, api.ErrArg
	case tooMuch(r.Logs):
		return nil, api.ErrLong
	}
	b, e := rlp.Encode(receipt(r))
	if e != api.OK {
		return nil, e
	}
	if r.Type == 0 {
		return b, api.OK
	}
	return append([]byte{byte(r.Type)}, b...), api.OK
}

// tooMuch tells whether there are too many logs, or one has too many topics, or bytes.
func tooMuch(logs []api.Log) bool {
	if len(logs) > api.MaxLogs {
		return true
	}
	for _, l := range logs {
		if len(l.Topics) > api.MaxTopics || len(l.Data) > api.MaxData {
			return true
		}
	}
	return false
}

// receipt is the list of what r tells, but for its type.
func receipt(r api.Receipt) api.Item {
	how, bloom := uint64(failed), Bloom(r.Logs)
	if r.Well {
		how = well
	}
	logs := make([]api.Item, len(r.Logs))
	for i := range r.Logs {
		logs[i] = log(&r.Logs[i])
	}
	return list(small(how), small(r.Gas), text(bloom[:]), list(logs...))
}

// log is the list of what l tells.
func log(l *api.Log) api.Item {
	topics := make([]api.Item, len(l.Topics))
	for i := range topics {
		topics[i] = text(l.Topics[i][:])
	}
	return list(text(l.Address[:]), list(topics...), text(l.Data))
}
