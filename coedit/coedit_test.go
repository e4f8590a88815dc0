package coedit_test

import (
	"encoding/hex"
	"errors"
	"slices"
	"strings"
	"testing"

	"coedit/coedit"
	"coedit/plain"
)

func begin(t *testing.T, clients, room int) *coedit.Session {
	t.Helper()
	s, err := coedit.New(clients, room)
	if err != nil {
		t.Fatalf("New(%d, %d): %v", clients, room, err)
	}
	t.Cleanup(s.Stop)
	return s
}

func must(t *testing.T, errs ...error) {
	t.Helper()
	if err := errors.Join(errs...); err != nil {
		t.Fatal(err)
	}
}

func wrong(t *testing.T, err, want error, call string, client int) {
	t.Helper()
	c, ok := err.(*coedit.CallError)
	if !ok || c.Err != want || c.Unwrap() != want || !errors.Is(err, want) || c.Call != call || c.Client != client {
		t.Errorf("%s of client %d: %#v, want %v", call, client, err, want)
	}
}

func unhex(t *testing.T, text string) string {
	t.Helper()
	b, err := hex.DecodeString(strings.ReplaceAll(text, " ", ""))
	must(t, err)
	return string(b)
}

// seen is all that a session tells.
type seen struct {
	texts, heads string
	elems        []coedit.Elem
	numbers      []int
	log          []coedit.Change
}

func look(s *coedit.Session) seen {
	var v seen
	for c := -2; c <= 6; c++ {
		v.texts += s.Text(c) + "\n"
		v.heads += hex.EncodeToString(s.Head(c, true)) + "\n" + hex.EncodeToString(s.Head(c, false)) + "\n"
		l, _ := plain.Elems(s, c, 0)
		v.elems = append(v.elems, l...)
		up, down := s.Waiting(c)
		v.numbers = append(v.numbers, up, down, s.Cursor(c), len(l))
	}
	v.numbers = append(v.numbers, plain.Cursors(s, 6)...)
	v.log = s.Log()
	return v
}

func same(a, b seen) bool {
	return a.texts == b.texts && a.heads == b.heads && slices.Equal(a.elems, b.elems) && slices.Equal(a.numbers, b.numbers) && slices.Equal(a.log, b.log)
}

// P2

func TestNewShapes(t *testing.T) {
	for clients := -2; clients <= 9; clients++ {
		for room := -2; room <= 19; room++ {
			s, err := coedit.New(clients, room)
			if clients >= 1 && clients <= 6 && room >= 1 && room <= 16 {
				if s == nil || err != nil {
					t.Fatalf("New(%d, %d): %v", clients, room, err)
				}
				s.Stop()
			} else if s != nil || err != coedit.ErrShape {
				t.Errorf("New(%d, %d): %v, %v", clients, room, s, err)
			}
		}
	}
	const most = int(^uint(0) >> 1)
	for _, n := range []int{most, -most - 1} {
		for _, c := range [][2]int{{n, 1}, {1, n}, {n, n}} {
			if s, err := coedit.New(c[0], c[1]); s != nil || err != coedit.ErrShape {
				t.Errorf("New(%d, %d): %v, %v", c[0], c[1], s, err)
			}
		}
	}
}

func TestNewIsEmpty(t *testing.T) {
	for clients := 1; clients <= 6; clients++ {
		s := begin(t, clients, 1)
		for c := -1; c < clients; c++ {
			up, down := s.Waiting(c)
			if s.Text(c) != "" || up != 0 || down != 0 || s.Head(c, true) != nil || s.Head(c, false) != nil {
				t.Errorf("of %d clients client %d begins with %q, %d, %d", clients, c, s.Text(c), up, down)
			}
			if c >= 0 && s.Cursor(c) != 0 {
				t.Errorf("of %d clients client %d begins at %d", clients, c, s.Cursor(c))
			}
		}
		if got := plain.Cursors(s, clients); !slices.Equal(got, make([]int, clients)) {
			t.Errorf("the table of %d clients: %v", clients, got)
		}
		if l := s.Log(); len(l) != 0 {
			t.Errorf("the log: %v", l)
		}
	}
}

// P3

func TestWriting(t *testing.T) {
	s := begin(t, 2, 16)
	for i, c := range []struct {
		kind, at int
		r        rune
		text     string
		cursor   int
	}{
		{1, 0, 'b', "b", 1},
		{1, 0, 'a', "ab", 2},
		{1, 2, 'd', "abd", 3},
		{3, 2, 0, "abd", 2},
		{1, 2, 'c', "abcd", 3},
		{1, 4, 0, "abcd\x00", 3},
		{2, 3, 0, "abc\x00", 3},
		{2, 2, 0, "ab\x00", 2},
		{3, 0, 0, "ab\x00", 0},
		{2, 0, 0, "b\x00", 0},
		{3, 2, 0, "b\x00", 2},
		{2, 1, 0, "b", 1},
		{2, 0, 0, "", 0},
		{3, 0, 0, "", 0},
		{1, 0, 0xd7ff, "\ud7ff", 1},
		{1, 0, 0xe000, "\ue000\ud7ff", 2},
	} {
		if n := plain.Do(s, c.kind, 1, c.at, int(c.r)); n != 0 {
			t.Fatalf("call %d: error %d", i, n)
		}
		if s.Text(1) != c.text || s.Cursor(1) != c.cursor {
			t.Fatalf("call %d: %q, cursor %d, want %q, %d", i, s.Text(1), s.Cursor(1), c.text, c.cursor)
		}
		if up, down := s.Waiting(1); up != i+1 || down != 0 {
			t.Fatalf("call %d: %d and %d frames", i, up, down)
		}
	}
	if s.Text(0) != "" || s.Text(-1) != "" || s.Cursor(0) != 0 || !slices.Equal(plain.Cursors(s, 2), []int{0, 0}) {
		t.Errorf("a client's writing is seen elsewhere, undelivered")
	}
}

func TestEveryRune(t *testing.T) {
	s := begin(t, 1, 16)
	for _, r := range []rune{0, 0x7f, 0x80, 0x7ff, 0x800, 0xd7ff, 0xe000, 0xfffd, 0xffff, 0x10000, 0x10ffff} {
		must(t, s.Insert(0, 0, r))
		if got := s.Text(0); !strings.HasPrefix(got, string(r)) {
			t.Errorf("%x: the text is %x", r, got)
		}
	}
	before := look(s)
	for _, r := range []rune{-1, -0x80000000, 0xd800, 0xdbff, 0xdc00, 0xdfff, 0x110000, 0x7fffffff} {
		wrong(t, s.Insert(0, 0, r), coedit.ErrRune, "Insert", 0)
	}
	if !same(before, look(s)) {
		t.Errorf("a refused rune has changed something")
	}
}

// The first fault in the promise's order is the one that is told.
func TestOrderOfErrors(t *testing.T) {
	s := begin(t, 3, 2)
	must(t, s.Insert(2, 0, 'a'), s.Insert(2, 1, 'b'))
	before := look(s)
	for _, c := range []int{-1, 3, 1 << 40, -1 << 40} {
		wrong(t, s.Insert(c, -1, -1), coedit.ErrClient, "Insert", c)
		wrong(t, s.Delete(c, -1), coedit.ErrClient, "Delete", c)
		wrong(t, s.Move(c, -1), coedit.ErrClient, "Move", c)
	}
	wrong(t, s.Insert(2, -1, 0xd800), coedit.ErrRune, "Insert", 2)
	for _, at := range []int{-1, 3, 1 << 40, -1 << 40} {
		wrong(t, s.Insert(2, at, 'x'), coedit.ErrRange, "Insert", 2)
		wrong(t, s.Delete(2, at), coedit.ErrRange, "Delete", 2)
		wrong(t, s.Move(2, at), coedit.ErrRange, "Move", 2)
	}
	wrong(t, s.Delete(2, 2), coedit.ErrRange, "Delete", 2)
	wrong(t, s.Delete(1, 0), coedit.ErrRange, "Delete", 1)
	wrong(t, s.Insert(2, 2, 'x'), coedit.ErrFull, "Insert", 2)
	wrong(t, s.Delete(2, 1), coedit.ErrFull, "Delete", 2)
	wrong(t, s.Move(2, 2), coedit.ErrFull, "Move", 2)
	if !same(before, look(s)) {
		t.Errorf("with an error something has changed")
	}
	s.Stop()
	for _, c := range []int{0, 2, -1, 3} {
		wrong(t, s.Insert(c, -1, -1), coedit.ErrStopped, "Insert", c)
		wrong(t, s.Delete(c, -1), coedit.ErrStopped, "Delete", c)
		wrong(t, s.Move(c, -1), coedit.ErrStopped, "Move", c)
	}
	if !same(before, look(s)) {
		t.Errorf("a call behind Stop has changed something")
	}
}

func TestFullLinks(t *testing.T) {
	for room := 1; room <= 16; room++ {
		s := begin(t, 2, room)
		for range room {
			must(t, s.Move(0, 0))
		}
		wrong(t, s.Move(0, 0), coedit.ErrFull, "Move", 0)
		if up, down := s.Waiting(0); up != room || down != 0 {
			t.Errorf("room %d: %d and %d frames", room, up, down)
		}
		must(t, s.Move(1, 0))
	}
}

// An insert that was refused is not counted: the next one has its number.
func TestNumbersOfElements(t *testing.T) {
	s := begin(t, 2, 8)
	must(t, s.Insert(1, 0, 'a'), s.Delete(1, 0), s.Move(1, 0))
	wrong(t, s.Insert(1, 5, 'x'), coedit.ErrRange, "Insert", 1)
	must(t, s.Insert(1, 0, 'b'), s.Insert(1, 0, 'b'), s.Insert(0, 0, 'c'))
	l, _ := plain.Elems(s, 1, 0)
	if want := []coedit.Elem{{R: 'b', Client: 1, Number: 3}, {R: 'b', Client: 1, Number: 2}}; !slices.Equal(l, want) {
		t.Errorf("%v, want %v", l, want)
	}
	l, _ = plain.Elems(s, 0, 0)
	if want := []coedit.Elem{{R: 'c', Client: 0, Number: 1}}; !slices.Equal(l, want) {
		t.Errorf("%v, want %v", l, want)
	}
}

// P7

func TestTextOfWhom(t *testing.T) {
	s := begin(t, 2, 4)
	must(t, s.Insert(0, 0, 0x4e16), s.Insert(0, 1, 0xe9), s.Insert(1, 0, 'z'))
	for c, want := range map[int]string{-1 << 40: "", -2: "", -1: "", 0: "\u4e16\u00e9", 1: "z", 2: "", 1 << 40: ""} {
		if got, fits := plain.Text(s, c); got != want || !fits {
			t.Errorf("Text(%d) = %q, want %q", c, got, want)
		}
	}
	for c, want := range map[int]int{-1 << 40: -1, -2: -1, -1: -1, 0: 2, 1: 1, 2: -1, 1 << 40: -1} {
		if got := s.Cursor(c); got != want {
			t.Errorf("Cursor(%d) = %d, want %d", c, got, want)
		}
	}
}

func TestElemsLeftEarly(t *testing.T) {
	s := begin(t, 1, 8)
	for i, r := range "abcde" {
		must(t, s.Insert(0, i, r))
	}
	for n := 1; n <= 5; n++ {
		l, right := plain.Elems(s, 0, n)
		if len(l) != n || !right || l[n-1] != (coedit.Elem{R: rune('a' + n - 1), Number: n}) {
			t.Errorf("left behind %d: %v", n, l)
		}
	}
	for _, c := range []int{-2, -1, 1} {
		for range s.Elems(c) {
			t.Errorf("client %d has elements", c)
		}
	}
}

func TestElemsAreOfTheLoopsBeginning(t *testing.T) {
	s := begin(t, 1, 16)
	all := s.Elems(0)
	must(t, s.Insert(0, 0, 'a'), s.Insert(0, 1, 'b'), s.Insert(0, 2, 'c'))
	var told string
	for i, e := range all {
		told += string(e.R)
		if i == 0 {
			must(t, s.Delete(0, 1), s.Insert(0, 0, 'x'), s.Insert(0, 3, 'y'))
		}
	}
	if told != "abc" || s.Text(0) != "xacy" {
		t.Errorf("the loop told %q, the text is %q", told, s.Text(0))
	}
	told = ""
	for _, e := range all {
		told += string(e.R)
	}
	if told != "xacy" {
		t.Errorf("the next loop told %q", told)
	}
}

func TestElemsBody(t *testing.T) {
	s := begin(t, 1, 4)
	must(t, s.Insert(0, 0, 'a'), s.Insert(0, 1, 'b'))
	func() {
		defer func() {
			if got := recover(); got != "the body" {
				t.Errorf("the body's panic came out as %v", got)
			}
		}()
		for range s.Elems(0) {
			panic("the body")
		}
	}()
	must(t, s.Insert(0, 2, 'c'))
	s.Elems(0)(nil)
	var told string
	for _, e := range s.Elems(0) {
		told += string(e.R)
		s.Stop()
	}
	if told != "abc" {
		t.Errorf("with a Stop inside the loop told %q", told)
	}
}

// P8

func TestHeads(t *testing.T) {
	s := begin(t, 3, 4)
	must(t, s.Insert(0, 0, 'a'), s.Insert(1, 0, 'b'), s.Insert(1, 1, 0x4e16), s.Move(1, 0))
	for c, want := range map[int]string{
		0: "4a01 00 0001 0000 0000 0000 000061 0001 2a",
		1: "4a01 01 0001 0000 0000 0000 000062 0001 28",
	} {
		// Twice: plain.Head writes into the bytes that it was given.
		for range 2 {
			if got := plain.Head(s, c, true); got != unhex(t, want) {
				t.Errorf("the head of client %d is %x, want %s", c, got, want)
			}
		}
	}
	for _, c := range []int{-1, 2, 3, 1 << 40} {
		if b := s.Head(c, true); b != nil {
			t.Errorf("the head of client %d is %x", c, b)
		}
	}
	for c := -1; c <= 3; c++ {
		if b := s.Head(c, false); b != nil {
			t.Errorf("the head down of client %d is %x", c, b)
		}
	}
	for c, want := range map[int][2]int{-1 << 40: {}, -1: {}, 0: {1, 0}, 1: {3, 0}, 2: {}, 3: {}, 1 << 40: {}} {
		if up, down := s.Waiting(c); up != want[0] || down != want[1] {
			t.Errorf("Waiting(%d) = %d, %d, want %v", c, up, down, want)
		}
	}
}

func TestHeadOfMove(t *testing.T) {
	s := begin(t, 5, 1)
	must(t, s.Move(4, 0))
	if got, want := plain.Head(s, 4, true), unhex(t, "4a03 04 0000 0000 0000 0000 000000 0000 4d"); got != want {
		t.Errorf("the head is %x, want %x", got, want)
	}
}
