package text_test

import (
	"slices"
	"testing"

	"coedit/text"
)

func elem(r rune) text.Elem { return text.Elem{R: r, Client: 1, Number: int(r)} }

func row(runes string) []text.Elem {
	var l []text.Elem
	for _, r := range runes {
		l = append(l, elem(r))
	}
	return l
}

func TestApply(t *testing.T) {
	for _, c := range []struct {
		edit       text.Edit
		from, want string
	}{
		{text.Insert{At: 0, E: elem('x')}, "", "x"},
		{text.Insert{At: 0, E: elem('x')}, "ab", "xab"},
		{text.Insert{At: 1, E: elem('x')}, "ab", "axb"},
		{text.Insert{At: 2, E: elem('x')}, "ab", "abx"},
		{text.Insert{At: 3, E: elem('x')}, "ab", "ab"},
		{text.Insert{At: -1, E: elem('x')}, "ab", "ab"},
		{text.Delete{At: 0}, "abc", "bc"},
		{text.Delete{At: 1}, "abc", "ac"},
		{text.Delete{At: 2}, "abc", "ab"},
		{text.Delete{At: 3}, "abc", "abc"},
		{text.Delete{At: -1}, "abc", "abc"},
		{text.Delete{At: 0}, "", ""},
		{text.Nothing{}, "abc", "abc"},
	} {
		from := row(c.from)
		got := c.edit.Apply(from)
		if !slices.Equal(got, row(c.want)) {
			t.Errorf("%#v of %q: %v", c.edit, c.from, got)
		}
		if !slices.Equal(from, row(c.from)) {
			t.Errorf("%#v of %q changed the row it was given", c.edit, c.from)
		}
	}
}

// A row with room behind its end must not be written into: another change of the same row would show through.
func TestApplyTwiceToOneRow(t *testing.T) {
	from := slices.Grow(row("ab"), 10)
	a := text.Insert{At: 2, E: elem('x')}.Apply(from)
	b := text.Insert{At: 2, E: elem('y')}.Apply(from)
	if !slices.Equal(a, row("abx")) || !slices.Equal(b, row("aby")) {
		t.Errorf("%v, %v", a, b)
	}
}

func TestTold(t *testing.T) {
	for _, c := range []struct {
		edit text.Edit
		want text.Change
	}{
		{text.Insert{At: 4, E: elem('x')}, text.Change{Kind: 1, At: 4, E: elem('x'), Client: 1}},
		{text.Delete{At: 4, By: 2}, text.Change{Kind: 2, At: 4, Client: 2}},
		{text.Nothing{By: 3}, text.Change{Kind: 3, Client: 3}},
	} {
		if got := c.edit.Told(); got != c.want {
			t.Errorf("%#v is told as %v", c.edit, got)
		}
	}
}

func TestTurnIndex(t *testing.T) {
	for _, c := range []struct {
		k    int
		past text.Edit
		want int
	}{
		{3, text.Insert{At: 2}, 4},
		{3, text.Insert{At: 3}, 4},
		{3, text.Insert{At: 4}, 3},
		{0, text.Insert{At: 0}, 1},
		{3, text.Delete{At: 2}, 2},
		{3, text.Delete{At: 3}, 3},
		{3, text.Delete{At: 4}, 3},
		{0, text.Delete{At: 0}, 0},
		{3, text.Nothing{}, 3},
		{0, text.Nothing{}, 0},
	} {
		if got := text.TurnIndex(c.k, c.past); got != c.want {
			t.Errorf("%d past %#v is %d, want %d", c.k, c.past, got, c.want)
		}
	}
}
