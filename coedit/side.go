package coedit

import (
	"coedit/frame"
	"coedit/link"
	"coedit/text"
)

// wire is a link that carries frames.
type wire = link.Link[frame.Bytes]

// side is an end of the two links between a client and the server.
type side struct {
	out, in     *wire
	mine, other int // frames sent and frames taken
	// What comes in has yet to be turned past the changes in the row: the other end may have sent it without knowing of them.
	row []text.Edit
}

// newSide makes a client's end, and the links of which it is one.
func newSide(room int) side {
	return side{out: link.New[frame.Bytes](room), in: link.New[frame.Bytes](room)}
}

// opposite makes the server's end of the links of which this one is a client's.
func (e *side) opposite() *side {
	return &side{out: e.in, in: e.out}
}

// send puts a change into the link out; false: that is full, and nothing has changed.
func (e *side) send(x text.Edit, cursor int) bool {
	f := frame.Frame{Change: x.Told(), Mine: e.mine, Other: e.other, Cursor: cursor}
	if !e.out.Put(frame.Write(f)) {
		return false
	}
	e.row = append(e.row, x)
	e.mine++
	return true
}

// take takes the frame at the head of the link in: what its change and its cursor have become. With an error (the link is empty) nothing has changed.
func (e *side) take() (text.Edit, int, error) {
	b, ok := e.in.Take()
	if !ok {
		return nil, 0, ErrEmpty
	}
	f := frame.Read(b)
	x, cursor, row := meet(f, e.unknown(f.Other))
	e.row = row
	e.other++
	return x, cursor, nil
}

// fault tells what would be wrong with a frame, if this end took it for such a text; nothing is done.
func (e *side) fault(f frame.Frame, elems []text.Elem) error {
	if f.Mine != e.other {
		return ErrOrder
	}
	if f.Other > e.mine || f.Other < e.known() {
		return ErrAck
	}
	x, cursor, _ := meet(f, e.unknown(f.Other))
	if !x.Fits(len(elems)) || cursor > len(x.Apply(elems)) {
		return ErrRange
	}
	return nil
}

// known gives how many frames the other end has taken, as far as this one knows: the row's changes are the last that were sent.
func (e *side) known() int { return e.mine - len(e.row) }

// unknown gives what is left of the row, if the other end has taken so many frames.
func (e *side) unknown(taken int) []text.Edit {
	return e.row[min(max(taken-e.known(), 0), len(e.row)):]
}

// meet turns what comes in and a row past each other: the change, the frame's cursor and the row as they are then. The given row stays as it is.
func meet(f frame.Frame, row []text.Edit) (text.Edit, int, []text.Edit) {
	x, cursor := text.Of(f.Change), f.Cursor
	var turned []text.Edit
	for _, r := range row {
		behind := r.Past(x)
		x = x.Past(r)
		// The frame's cursor stands in a text that has its change already: r as turned is of that text.
		cursor = text.TurnIndex(cursor, behind)
		turned = append(turned, behind)
	}
	return x, cursor, turned
}
