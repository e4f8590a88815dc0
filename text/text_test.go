package text_test

import (
	"slices"
	"testing"

	"coedit/text"
)

func elem(r rune) text.Elem { return text.Elem{R: r, Client: 1, Number: int(r)} }

func row(runes string) []text.Elem {
	var l []text.Elem
	for _, r := range runes {
		l = append(l, elem(r))
	}
	return l
}

func TestApply(t *testing.T) {
	for _, c := range []struct {
		edit       text.Edit
		from, want string
	}{
		{text.Insert{At: 0, E: elem('x')}, "", "x"},
		{text.Insert{At: 0, E: elem('x')}, "ab", "xab"},
		{text.Insert{At: 1, E: elem('x')}, "ab", "axb"},
		{text.Insert{At: 2, E: elem('x')}, "ab", "abx"},
		{text.Insert{At: 3, E: elem('x')}, "ab", "ab"},
		{text.Insert{At: -1, E: elem('x')}, "ab", "ab"},
		{text.Delete{At: 0}, "abc", "bc"},
		{text.Delete{At: 1}, "abc", "ac"},
		{text.Delete{At: 2}, "abc", "ab"},
		{text.Delete{At: 3}, "abc", "abc"},
		{text.Delete{At: -1}, "abc", "abc"},
		{text.Delete{At: 0}, "", ""},
		{text.Nothing{}, "abc", "abc"},
	} {
		from := row(c.from)
		got := c.edit.Apply(from)
		if !slices.Equal(got, row(c.want)) {
			t.Errorf("%#v of %q: %v", c.edit, c.from, got)
		}
		if !slices.Equal(from, row(c.from)) {
			t.Errorf("%#v of %q changed the row it was given", c.edit, c.from)
		}
	}
}

func TestFits(t *testing.T) {
	const most = int(^uint(0) >> 1)
	for _, at := range []int{-most - 1, -1, 0, 1, 2, 3, 4, most} {
		for length := range 4 {
			if got, want := (text.Insert{At: at}).Fits(length), 0 <= at && at <= length; got != want {
				t.Errorf("an insert at %d fits a text of %d: %v", at, length, got)
			}
			if got, want := (text.Delete{At: at}).Fits(length), 0 <= at && at < length; got != want {
				t.Errorf("a delete at %d fits a text of %d: %v", at, length, got)
			}
			if !(text.Nothing{}).Fits(length) {
				t.Errorf("nothing does not fit a text of %d", length)
			}
		}
	}
}

// A row with room behind its end must not be written into: another change of the same row would show through.
func TestApplyTwiceToOneRow(t *testing.T) {
	from := slices.Grow(row("ab"), 10)
	a := text.Insert{At: 2, E: elem('x')}.Apply(from)
	b := text.Insert{At: 2, E: elem('y')}.Apply(from)
	if !slices.Equal(a, row("abx")) || !slices.Equal(b, row("aby")) {
		t.Errorf("%v, %v", a, b)
	}
}

func TestTold(t *testing.T) {
	for _, c := range []struct {
		edit text.Edit
		want text.Change
	}{
		{text.Insert{At: 4, E: elem('x')}, text.Change{Kind: 1, At: 4, E: elem('x'), Client: 1}},
		{text.Delete{At: 4, By: 2}, text.Change{Kind: 2, At: 4, Client: 2}},
		{text.Nothing{By: 3}, text.Change{Kind: 3, Client: 3}},
	} {
		if got := c.edit.Told(); got != c.want {
			t.Errorf("%#v is told as %v", c.edit, got)
		}
	}
}

func TestOf(t *testing.T) {
	for _, x := range []text.Edit{text.Insert{At: 4, E: elem('x')}, text.Delete{At: 4, By: 2}, text.Nothing{By: 3}} {
		if got := text.Of(x.Told()); got != x {
			t.Errorf("%#v came back as %#v", x, got)
		}
	}
	for _, kind := range []int{0, 4, -1} {
		if got := text.Of(text.Change{Kind: kind, At: 1, Client: 2}); got != (text.Nothing{By: 2}) {
			t.Errorf("of kind %d: %#v", kind, got)
		}
	}
}

// The document's rules of turning, each on both sides of its edge.
func TestPast(t *testing.T) {
	insert := func(at, client int) text.Edit {
		return text.Insert{At: at, E: text.Elem{R: 'x', Client: client, Number: 1}}
	}
	remove := func(at, client int) text.Edit { return text.Delete{At: at, By: client} }
	for _, c := range []struct{ a, b, want text.Edit }{
		{insert(3, 1), insert(4, 0), insert(3, 1)},
		{insert(3, 1), insert(3, 0), insert(4, 1)},
		{insert(3, 1), insert(3, 1), insert(4, 1)},
		{insert(3, 1), insert(3, 2), insert(3, 1)},
		{insert(3, 1), insert(2, 2), insert(4, 1)},
		{insert(3, 1), remove(4, 0), insert(3, 1)},
		{insert(3, 1), remove(3, 0), insert(3, 1)},
		{insert(3, 1), remove(2, 2), insert(2, 1)},
		{remove(3, 1), insert(4, 0), remove(3, 1)},
		{remove(3, 1), insert(3, 2), remove(4, 1)},
		{remove(3, 1), insert(2, 2), remove(4, 1)},
		{remove(3, 1), remove(4, 0), remove(3, 1)},
		{remove(3, 1), remove(3, 0), text.Nothing{By: 1}},
		{remove(3, 1), remove(3, 2), text.Nothing{By: 1}},
		{remove(3, 1), remove(2, 2), remove(2, 1)},
		{insert(3, 1), text.Nothing{By: 0}, insert(3, 1)},
		{remove(3, 1), text.Nothing{By: 0}, remove(3, 1)},
		{text.Nothing{By: 1}, insert(0, 0), text.Nothing{By: 1}},
		{text.Nothing{By: 1}, remove(0, 0), text.Nothing{By: 1}},
		{text.Nothing{By: 1}, text.Nothing{By: 0}, text.Nothing{By: 1}},
	} {
		if got := c.a.Past(c.b); got != c.want {
			t.Errorf("%#v past %#v is %#v, want %#v", c.a, c.b, got, c.want)
		}
	}
}

// edits gives every change that a client can make of a row.
func edits(row []text.Elem, client int) []text.Edit {
	l := []text.Edit{text.Nothing{By: client}}
	for i := range len(row) + 1 {
		l = append(l, text.Insert{At: i, E: text.Elem{R: 'x', Client: client, Number: 9}})
	}
	for i := range row {
		l = append(l, text.Delete{At: i, By: client})
	}
	return l
}

// Whichever of two changes comes first, the other one turned past it makes the same text.
func TestBothWays(t *testing.T) {
	for _, runes := range []string{"", "a", "ab", "abcd"} {
		from := row(runes)
		for _, a := range edits(from, 2) {
			for _, b := range append(edits(from, 1), edits(from, 3)...) {
				one, two := b.Past(a).Apply(a.Apply(from)), a.Past(b).Apply(b.Apply(from))
				if !slices.Equal(one, two) {
					t.Errorf("%q: %#v and %#v: %v, %v", runes, a, b, one, two)
				}
			}
		}
	}
}

func TestTurnIndex(t *testing.T) {
	for _, c := range []struct {
		k    int
		past text.Edit
		want int
	}{
		{3, text.Insert{At: 2}, 4},
		{3, text.Insert{At: 3}, 4},
		{3, text.Insert{At: 4}, 3},
		{0, text.Insert{At: 0}, 1},
		{3, text.Delete{At: 2}, 2},
		{3, text.Delete{At: 3}, 3},
		{3, text.Delete{At: 4}, 3},
		{0, text.Delete{At: 0}, 0},
		{3, text.Nothing{}, 3},
		{0, text.Nothing{}, 0},
	} {
		if got := text.TurnIndex(c.k, c.past); got != c.want {
			t.Errorf("%d past %#v is %d, want %d", c.k, c.past, got, c.want)
		}
	}
}
