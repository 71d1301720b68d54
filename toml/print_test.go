package toml_test

import (
	"sort"
	"strings"
	"testing"

	"pantry/api"
	"pantry/toml"
)

// M2: the one form.
func TestPrint(t *testing.T) {
	for _, c := range []struct{ text, want string }{
		{"", ""},
		{"# x\n", ""},
		{"b=[1,\"x\"]\n[a.c]\nd=true", "b = [1, \"x\"]\n\n[a]\n\n[a.c]\nd = true\n"},
		{"[a]", "[a]\n"},
		{"a=[ ]", "a = []\n"},
		{"a=[[],[1,[true,false]],]", "a = [[], [1, [true, false]]]\n"},
		{"a=+5\nb=-5\nc=-0\nd=-999999999999999999", "a = 5\nb = -5\nc = 0\nd = -999999999999999999\n"},
		{"b=1\nB=2\n_=3\n-=4\n9=5\nab=6\n\"\"=7\n\"a b\"=8\na=9", "\"\" = 7\n- = 4\n9 = 5\nB = 2\n_ = 3\na = 9\n\"a b\" = 8\nab = 6\nb = 1\n"},
		{"\"\u00e9\"=1\nz=2\n\"{\"=3", "z = 2\n\"{\" = 3\n\"\u00e9\" = 1\n"},
		{"\"a.b\"=1\n[\"a.c\".\"\".d]", "\"a.b\" = 1\n\n[\"a.c\"]\n\n[\"a.c\".\"\"]\n\n[\"a.c\".\"\".d]\n"},
		{"\"a\\tb\"=1\n\"ab\" = \"\\u0061\"", "\"a\\tb\" = 1\nab = \"a\"\n"},
		{`s="\b\t\n\f\r\"\\\u0000\u0007\u000b\u000E\u001f\u007f\u0080/\u00e9"`, `s = "\b\t\n\f\r\"\\\u0000\u0007\u000B\u000E\u001F\u007F` + "\u0080/\u00e9\"\n"},
		{"s=\"\t\"", "s = \"\\t\"\n"},
		{"[z]\n[y]\n[z.x]\n[y.w]\na=1", "[y]\n\n[y.w]\na = 1\n\n[z]\n\n[z.x]\n"},
		{"[[p]]\nx=2\n[[o]]\n[[p]]\nx=1\n[p.q]\n[[p.r]]\n[[p.r]]\n[[p]]", "[[o]]\n\n[[p]]\nx = 2\n\n[[p]]\nx = 1\n\n[p.q]\n\n[[p.r]]\n\n[[p.r]]\n\n[[p]]\n"},
		{"[a.b]\nc=1\n[a]\nd=1", "[a]\nd = 1\n\n[a.b]\nc = 1\n"},
		{"[a]\nc=1\n[a-b]\nc=2\n[a.b]\nc=3", "[a]\nc = 1\n\n[a.b]\nc = 3\n\n[a-b]\nc = 2\n"},
		{"[[a.b.c]]\n[a.b.c.d]\n[[a.b.c]]", "[a]\n\n[a.b]\n\n[[a.b.c]]\n\n[a.b.c.d]\n\n[[a.b.c]]\n"},
	} {
		got, e, at := toml.Print(c.text)
		if got != c.want || e != api.OK || at != 0 {
			t.Errorf("Print(%q) = %q, %d, %d, want %q", c.text, got, e, at, c.want)
		}
		if again, e, at := toml.Print(got); again != got || e != api.OK || at != 0 {
			t.Errorf("Print(%q) = %q, %d, %d, want the same", got, again, e, at)
		}
	}
}

// M2: every byte of a string that may stand there goes through unharmed.
func TestPrintAllBytes(t *testing.T) {
	var in, out strings.Builder
	for c := range 128 {
		hex := "0123456789ABCDEF"[c>>4:][:1] + "0123456789ABCDEF"[c&15:][:1]
		in.WriteString(`\u00` + hex)
		short := map[int]string{8: `\b`, 9: `\t`, 10: `\n`, 12: `\f`, 13: `\r`, '"': `\"`, '\\': `\\`}
		switch s, ok := short[c]; {
		case ok:
			out.WriteString(s)
		case c < 32 || c == 127:
			out.WriteString(`\u00` + hex)
		default:
			out.WriteByte(byte(c))
		}
	}
	want := "a = \"" + out.String() + "\"\n"
	if got, e, at := toml.Print("a = \"" + in.String() + "\""); got != want || e != api.OK || at != 0 {
		t.Errorf("Print = %q, %d, %d, want %q", got, e, at, want)
	}
}

// A header may lead as deep as a text is long; so may many lie side by side.
func TestPrintDeepAndWide(t *testing.T) {
	text := "[" + strings.Repeat("a.", 4000) + "a]\n"
	got, e, at := toml.Print(text)
	if e != api.OK || at != 0 || strings.Count(got, "\n") != 2*4001-1 || !strings.HasSuffix(got, "\n\n"+text) {
		t.Errorf("Print of a deep header = %d bytes, %d, %d", len(got), e, at)
	}
	if nodes, e, _ := toml.Parse("[" + strings.Repeat("a.", 49998) + "a]\n"); e != api.OK || len(nodes) != 50000 {
		t.Errorf("Parse of the deepest header = %d nodes, %d", len(nodes), e)
	}
	wide := strings.Repeat("[[a]]\n", 16666)
	if got, e, at := toml.Print(wide); got != strings.ReplaceAll(wide, "]]\n[", "]]\n\n[") || e != api.OK || at != 0 {
		t.Errorf("Print of many tables = %d bytes, %d, %d", len(got), e, at)
	}
}

// table is the meaning of a text once more, by names and without numbers.
type table struct {
	kids  map[string]any // *table, []*table, or a value's text
	ended bool
}

func newTable() *table { return &table{kids: map[string]any{}} }

// model reads lines of plain headers and pairs; it tells the tree's form, or
// the line and the key at fault.
func model(lines []string) (string, int, int) {
	top := newTable()
	hand := top
	for i, line := range lines {
		if k, v, ok := strings.Cut(line, " = "); ok {
			if _, there := hand.kids[k]; there {
				return "", i, 0
			}
			hand.kids[k] = v
			continue
		}
		double := strings.HasPrefix(line, "[[")
		keys := strings.Split(strings.Trim(line, "[]"), ".")
		at := top
		for j, k := range keys {
			kid, there := at.kids[k]
			last := j == len(keys)-1
			switch x := kid.(type) {
			case *table:
				if last && (double || x.ended) {
					return "", i, j
				}
				at = x
			case []*table:
				if last && !double {
					return "", i, j
				}
				if last {
					x = append(x, newTable())
					at.kids[k] = x
				}
				at = x[len(x)-1]
			default:
				if there {
					return "", i, j
				}
				fresh := newTable()
				at.kids[k] = fresh
				if last && double {
					at.kids[k] = []*table{fresh}
				}
				at = fresh
			}
			at.ended = at.ended || last
		}
		hand = at
	}
	return strings.TrimPrefix(top.form(nil), "\n"), -1, 0
}

func (t *table) form(path []string) string {
	var keys []string
	for k := range t.kids {
		keys = append(keys, k)
	}
	sort.Strings(keys)
	pairs, tables := "", ""
	for _, k := range keys {
		way := append(append([]string{}, path...), k)
		name := strings.Join(way, ".")
		switch x := t.kids[k].(type) {
		case string:
			pairs += k + " = " + x + "\n"
		case *table:
			tables += "\n[" + name + "]\n" + x.form(way)
		case []*table:
			for _, one := range x {
				tables += "\n[[" + name + "]]\n" + one.form(way)
			}
		}
	}
	return pairs + tables
}

// M1, M2: every row of some lines, against the model.
func TestTablesAllShort(t *testing.T) {
	lines := []string{"[a]", "[[a]]", "[a.b]", "[[a.b]]", "[a.b.c]", "[b]", "[[b.a]]", "a = 1", "b = []", "c = [1, 2]"}
	var walk func(row []string, left int)
	walk = func(row []string, left int) {
		text := strings.Join(row, "\n")
		want, line, key := model(row)
		wantE, wantAt := api.OK, 0
		if line >= 0 {
			wantE = api.ErrTwice
			wantAt = len(strings.Join(append(row[:line:line], ""), "\n")) + len(row[line]) - len(strings.TrimLeft(row[line], "["))
			wantAt += 2 * key // all keys are of one byte
		}
		got, e, at := toml.Print(text)
		if got != want || e != wantE || at != wantAt {
			t.Errorf("Print(%q) = %q, %d, %d, want %q, %d, %d", text, got, e, at, want, wantE, wantAt)
		}
		if line < 0 && left > 0 {
			for _, l := range lines {
				walk(append(row[:len(row):len(row)], l), left-1)
			}
		}
	}
	walk(nil, 5)
}
