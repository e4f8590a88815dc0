package coedit

import (
	"coedit/frame"
	"coedit/text"
)

// server is the one by which all changes go: a goroutine with a text of its own.
type server struct {
	worker
	ends    []*side // towards the clients, by their numbers
	elems   []text.Elem
	log     []text.Edit
	cursors map[int]int
}

// receive takes a frame from the link up of client c, and sends on what has become of its change. With an error nothing has changed.
func (v *server) receive(c int) error {
	end := v.ends[c]
	// An empty link is told ahead of a full one: take will find it.
	if end.in.Waiting() > 0 && v.blocked(c) {
		return ErrFull
	}
	x, cursor, err := end.take()
	if err != nil {
		return err
	}
	v.elems = x.Apply(v.elems)
	v.log = append(v.log, x)
	v.turnCursors(c, x)
	v.cursors[c] = cursor
	v.pass(c, x)
	return nil
}

// blocked tells whether a change of client c can't be sent to all others.
func (v *server) blocked(c int) bool {
	for k, end := range v.ends {
		if k != c && end.out.Full() {
			return true
		}
	}
	return false
}

// turnCursors turns the cursors of all but client c past a change; that of c comes with the change.
func (v *server) turnCursors(c int, x text.Edit) {
	for k, cursor := range v.cursors {
		if k != c {
			v.cursors[k] = text.TurnIndex(cursor, x)
		}
	}
}

// pass sends a change of client c to all others.
func (v *server) pass(c int, x text.Edit) {
	for k, end := range v.ends {
		if k != c {
			end.send(x, v.cursors[c])
		}
	}
}

// check tells what would be wrong with a frame that came up from client c; nothing is done.
func (v *server) check(c int, f frame.Frame) error {
	if err := v.ends[c].fault(f, v.elems); err != nil {
		return err
	}
	if f.Change.Kind == text.KindInsert && f.Change.E.Number != v.inserts(c)+1 {
		return ErrRange
	}
	return nil
}

// inserts counts the inserts of client c that have been taken. All of them stand in the log: no turning makes nothing of an insert.
func (v *server) inserts(c int) int {
	n := 0
	for _, x := range v.log {
		if i, ok := x.(text.Insert); ok && i.E.Client == c {
			n++
		}
	}
	return n
}
