package coedit_test

import (
	"encoding/hex"
	"slices"
	"testing"

	"coedit/coedit"
	"coedit/plain"
)

// model is a session written once more, from the document's words and by the plainest means: no goroutines, no channels, changes as they are told. What the program answers is held against it.
type model struct {
	room, calls    int
	texts          [][]coedit.Elem // of the clients; behind them the server's
	cursors, table []int
	inserts, came  []int // of each client: how many it has made, how many the server has taken
	up, down       [][]modelFrame
	below, above   []modelEnd // the clients' ends, and the server's
	log            []coedit.Change
}

type modelFrame struct {
	x                   coedit.Change
	mine, other, cursor int
}

type modelEnd struct {
	mine, other int
	told        int          // the greatest other that was taken
	row         []modelFrame // what was sent, its change as turned since
}

func newModel(clients, room int) *model {
	return &model{
		room: room, texts: make([][]coedit.Elem, clients+1), cursors: make([]int, clients), table: make([]int, clients), inserts: make([]int, clients), came: make([]int, clients),
		up: make([][]modelFrame, clients), down: make([][]modelFrame, clients), below: make([]modelEnd, clients), above: make([]modelEnd, clients),
	}
}

func modelTurn(a, b coedit.Change) coedit.Change {
	i, j, p, q := a.At, b.At, a.Client, b.Client
	switch {
	case a.Kind == 3 || b.Kind == 3:
	case a.Kind == 1 && b.Kind == 1:
		if !(i < j || i == j && p < q) {
			a.At = i + 1
		}
	case a.Kind == 1 && b.Kind == 2:
		if !(i <= j) {
			a.At = i - 1
		}
	case a.Kind == 2 && b.Kind == 1:
		if !(i < j) {
			a.At = i + 1
		}
	case i == j:
		a = coedit.Change{Kind: 3, Client: p}
	case !(i < j):
		a.At = i - 1
	}
	return a
}

func modelIndex(k int, b coedit.Change) int {
	switch {
	case b.Kind == 1 && b.At <= k:
		return k + 1
	case b.Kind == 2 && b.At < k:
		return k - 1
	}
	return k
}

func (m *model) apply(who int, x coedit.Change) {
	l := slices.Clone(m.texts[who])
	switch x.Kind {
	case 1:
		l = slices.Insert(l, x.At, x.E)
	case 2:
		l = slices.Delete(l, x.At, x.At+1)
	}
	m.texts[who] = l
}

func (e *modelEnd) send(link *[]modelFrame, x coedit.Change, cursor int) {
	f := modelFrame{x, e.mine, e.other, cursor}
	*link = append(*link, f)
	e.row = append(e.row, f)
	e.mine++
}

func (e *modelEnd) take(link *[]modelFrame) (coedit.Change, int) {
	f := (*link)[0]
	*link = slices.Delete(*link, 0, 1)
	e.row = slices.DeleteFunc(e.row, func(r modelFrame) bool { return r.mine < f.other })
	for i, r := range e.row {
		f.x, e.row[i].x = modelTurn(f.x, r.x), modelTurn(r.x, f.x)
		f.cursor = modelIndex(f.cursor, e.row[i].x)
	}
	e.other++
	e.told = max(e.told, f.other)
	return f.x, f.cursor
}

// check is plain.Check of a client that there is.
func (m *model) check(c int, up bool, b string) int {
	f, ok := modelRead(b)
	if !ok || f.x.Client >= len(m.cursors) || up && f.x.Client != c || !up && f.x.Client == c {
		return codeFrame
	}
	e, length := m.below[c], len(m.texts[c])
	if up {
		e, length = m.above[c], len(m.texts[len(m.texts)-1])
	}
	if f.mine != e.other {
		return codeOrder
	}
	if f.other > e.mine || f.other < e.told {
		return codeAck
	}
	if f.x.Kind == 1 && (f.x.E.Number == 0 || up && f.x.E.Number != m.came[c]+1) {
		return codeRange
	}
	e.row = slices.Clone(e.row)
	x, cursor := e.take(&[]modelFrame{f})
	switch {
	case x.Kind == 1 && x.At > length, x.Kind == 2 && x.At >= length:
		return codeRange
	case x.Kind == 1:
		length++
	case x.Kind == 2:
		length--
	}
	if cursor > length {
		return codeRange
	}
	return 0
}

// modelRead reads a frame; false: it is none.
func modelRead(b string) (modelFrame, bool) {
	if len(b) != 17 {
		return modelFrame{}, false
	}
	all := byte(0)
	for i := range len(b) {
		all ^= b[i]
	}
	two := func(i int) int { return int(b[i])*256 + int(b[i+1]) }
	number, at, r := two(3), two(9), int(b[11])*65536+two(12)
	f := modelFrame{coedit.Change{Kind: int(b[1]), At: at, Client: int(b[2])}, two(5), two(7), two(14)}
	right := all == 0 && b[0] == 0x4a
	switch b[1] {
	case 1:
		f.x.E = coedit.Elem{R: rune(r), Client: int(b[2]), Number: number}
		return f, right && (r < 0xd800 || r > 0xdfff && r < 0x110000)
	case 2:
		return f, right && number == 0 && r == 0
	case 3:
		return f, right && number == 0 && r == 0 && at == 0
	}
	return f, false
}

// The numbers by which package plain tells errors.
const (
	codeClient = 2
	codeRune   = 3
	codeRange  = 4
	codeFull   = 5
	codeMany   = 6
	codeEmpty  = 7
	codeFrame  = 8
	codeOrder  = 9
	codeAck    = 10
)

// do is plain.Do.
func (m *model) do(k, c, at, r int) int {
	switch {
	case c < 0 || c >= len(m.cursors):
		return codeClient
	case k == 4:
		return m.deliverUp(c)
	case k == 5:
		return m.deliverDown(c)
	}
	return m.write(k, c, at, rune(r))
}

func (m *model) write(k, c, at int, r rune) int {
	last := len(m.texts[c])
	if k == 2 {
		last--
	}
	switch {
	case k == 1 && (r < 0 || r > 0x10ffff || r >= 0xd800 && r <= 0xdfff):
		return codeRune
	case at < 0 || at > last:
		return codeRange
	case m.calls == 2000:
		return codeMany
	case len(m.up[c]) == m.room:
		return codeFull
	}
	m.calls++
	x := coedit.Change{Kind: k, At: at, Client: c}
	switch k {
	case 1:
		m.inserts[c]++
		x.E = coedit.Elem{R: r, Client: c, Number: m.inserts[c]}
	case 3:
		x.At = 0
		m.cursors[c] = at
	}
	m.apply(c, x)
	m.cursors[c] = modelIndex(m.cursors[c], x)
	m.below[c].send(&m.up[c], x, m.cursors[c])
	return 0
}

func (m *model) deliverUp(c int) int {
	if len(m.up[c]) == 0 {
		return codeEmpty
	}
	for k, l := range m.down {
		if k != c && len(l) == m.room {
			return codeFull
		}
	}
	x, cursor := m.above[c].take(&m.up[c])
	m.apply(len(m.texts)-1, x)
	if x.Kind == 1 {
		m.came[c]++
	}
	m.log = append(m.log, x)
	for k := range m.table {
		m.table[k] = modelIndex(m.table[k], x)
	}
	m.table[c] = cursor
	for k := range m.down {
		if k != c {
			m.above[k].send(&m.down[k], x, cursor)
		}
	}
	return 0
}

func (m *model) deliverDown(c int) int {
	if len(m.down[c]) == 0 {
		return codeEmpty
	}
	x, _ := m.below[c].take(&m.down[c])
	m.apply(c, x)
	m.cursors[c] = modelIndex(m.cursors[c], x)
	return 0
}

func modelHead(link []modelFrame) string {
	if len(link) == 0 {
		return ""
	}
	f := link[0]
	var b []byte
	put := func(n ...int) {
		for _, n := range n {
			b = append(b, byte(n>>8), byte(n))
		}
	}
	b = append(b, 0x4a, byte(f.x.Kind), byte(f.x.Client))
	put(f.x.E.Number, f.mine, f.other, f.x.At)
	b = append(b, byte(f.x.E.R>>16))
	put(int(f.x.E.R)&0xffff, f.cursor)
	all := byte(0)
	for _, x := range b {
		all ^= x
	}
	return hex.EncodeToString(append(b, all))
}

// look is what a session tells that is as the model is.
func (m *model) look() seen {
	var v seen
	n := len(m.cursors)
	for c := -2; c <= 6; c++ {
		var l []coedit.Elem
		up, down, cursor, heads := 0, 0, -1, "\n\n"
		if c >= 0 && c < n {
			l = m.texts[c]
			up, down, cursor = len(m.up[c]), len(m.down[c]), m.cursors[c]
			heads = modelHead(m.up[c]) + "\n" + modelHead(m.down[c]) + "\n"
		} else if c == -1 {
			l = m.texts[n]
		}
		for _, e := range l {
			v.texts += string(e.R)
		}
		v.texts += "\n"
		v.heads += heads
		v.elems = append(v.elems, l...)
		v.numbers = append(v.numbers, up, down, cursor, len(l))
	}
	for c := range 6 {
		if c < n {
			v.numbers = append(v.numbers, m.table[c])
		} else {
			v.numbers = append(v.numbers, -1)
		}
	}
	v.log = m.log
	return v
}

// bytesOf is a frame as it would stand in a link.
func bytesOf(f modelFrame) string {
	b, _ := hex.DecodeString(modelHead([]modelFrame{f}))
	return string(b)
}

// dice throws the same row of numbers every time.
type dice uint32

func (d *dice) under(n int) int {
	*d = *d*1664525 + 1013904223
	return int(*d>>8) % n
}

// P3, P4, P5, P7, P8: after every call, right or wrong, the session is as the document says.
func TestSessionIsAsTheModel(t *testing.T) {
	d := dice(3)
	for round := range 120 {
		clients, room := 1+round%6, 1+d.under(16)
		s, m := begin(t, clients, room), newModel(clients, room)
		// Some sessions write more than they deliver: their links fill, and much crosses.
		kinds := [][]int{{1, 1, 2, 3, 4, 5}, {1, 1, 1, 2, 2, 3, 4, 5}, {1, 2, 4, 4, 4, 5, 5, 5}, {1, 1, 2, 3, 4, 4, 4}}[d.under(4)]
		for i := range 200 {
			k, c := kinds[d.under(len(kinds))], d.under(clients)
			at, r := d.under(len(m.texts[c])+1), 'a'+d.under(26)
			switch d.under(40) {
			case 0:
				c = []int{-1, clients, 1 << 40}[d.under(3)]
			case 1:
				at = []int{-1, at + 2 + len(m.texts[c]), 1 << 40}[d.under(3)]
			case 2:
				r = []int{-1, 0xd800, 0xdfff, 0x110000, 0x10ffff, 0}[d.under(6)]
			}
			got, want := plain.Do(s, k, c, at, r), m.do(k, c, at, r)
			if got != want {
				t.Fatalf("round %d, call %d (%d, client %d, %d, %x) answered %d, want %d", round, i, k, c, at, r, got, want)
			}
			if got, want := look(s), m.look(); !same(got, want) {
				t.Fatalf("round %d, behind call %d (%d, client %d, %d, %x):\n%+v\nwant\n%+v", round, i, k, c, at, r, got, want)
			}
		}
		s.Stop()
		if !same(look(s), m.look()) {
			t.Fatalf("round %d: behind Stop it is another", round)
		}
	}
}
