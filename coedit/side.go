package coedit

import (
	"coedit/frame"
	"coedit/link"
	"coedit/text"
)

// wire is a link that carries frames.
type wire = link.Link[frame.Bytes]

// side is an end of the two links between a client and the server.
type side struct {
	out, in     *wire
	mine, other int // frames sent and frames taken
	// What comes in has yet to be turned past the changes in the row: the other end may have sent it without knowing of them.
	row []text.Edit
}

// newSide makes a client's end, and the links of which it is one.
func newSide(room int) side {
	return side{out: link.New[frame.Bytes](room), in: link.New[frame.Bytes](room)}
}

// send puts a change into the link out; false: that is full, and nothing has changed.
func (e *side) send(x text.Edit, cursor int) bool {
	f := frame.Frame{Change: x.Told(), Mine: e.mine, Other: e.other, Cursor: cursor}
	if !e.out.Put(frame.Write(f)) {
		return false
	}
	e.row = append(e.row, x)
	e.mine++
	return true
}
