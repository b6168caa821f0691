package note

import "satchel/api"

// span is how many there may be of a thing.
type span struct{ least, most int }

func (s span) holds(n int) bool { return n >= s.least && n <= s.most }

// shape is a kind's name, and how many numbers, IDs and bytes its notes have.
type shape struct {
	name                string
	numbers, ids, bytes span
}

// isNone tells whether it is that of a kind that there is not.
func (s *shape) isNone() bool { return s.name == "" }

// shapeOf tells a kind's shape; where there is no such kind, one without a name, of which there may be nothing: that of 0, which no kind has.
func shapeOf(kind int) *shape {
	one, two := span{1, 1}, span{2, 2}
	batch, chunk := span{1, api.MaxBatch}, span{1, api.MaxChunk}
	shapes := [...]shape{
		api.NoteBegin:   {name: "begin", numbers: span{3, 3}},
		api.NotePart:    {name: "part", numbers: one, bytes: span{1, api.MaxPiece}},
		api.NoteQuery:   {name: "query", ids: batch},
		api.NoteGive:    {name: "give", ids: one, bytes: chunk},
		api.NoteCommit:  {name: "commit"},
		api.NoteAbort:   {name: "abort"},
		api.NoteList:    {name: "list"},
		api.NoteRestore: {name: "restore", numbers: one},
		api.NoteMore:    {name: "more", numbers: one},
		api.NoteFetch:   {name: "fetch", ids: batch},
		api.NoteVerify:  {name: "verify", numbers: one},
		api.NoteForget:  {name: "forget", numbers: one},
		api.NotePrune:   {name: "prune"},
		api.NoteUsage:   {name: "usage"},
		api.NotePing:    {name: "ping", numbers: one},
		api.NoteReady:   {name: "ready", numbers: one},
		api.NoteHave:    {name: "have", numbers: batch},
		api.NoteTook:    {name: "took", ids: one},
		api.NoteDone:    {name: "done", numbers: one},
		api.NoteFail:    {name: "fail", numbers: two},
		api.NoteSnaps:   {name: "snaps", numbers: span{0, 2 * api.MaxSnaps}}, // two of each snapshot
		api.NotePiece:   {name: "piece", numbers: two, bytes: span{0, api.MaxPiece}},
		api.NoteChunk:   {name: "chunk", ids: one, bytes: chunk},
		api.NoteCount:   {name: "count", numbers: two},
	}
	if kind < 0 || kind >= len(shapes) {
		kind = 0
	}
	return &shapes[kind]
}
