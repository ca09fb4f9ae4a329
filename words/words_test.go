package words

import (
	"math/rand/v2"
	"regexp"
	"slices"
	"strconv"
	"strings"
	"testing"

	"bags/api"
)

const keywordList = "select distinct from where group by having as union intersect except all any and or not exists in is null count sum min max"

// thrown does the work and tells the fault it threw: nil if none. Any other panic is a mistake, and passes.
func thrown(work func()) (f *api.Fault) {
	defer func() {
		if met := recover(); met != nil {
			f = met.(*api.Fault)
		}
	}()
	work()
	return nil
}

func told(w Word) string {
	if w.Kind == Literal {
		return w.Value.Written()
	}
	return strconv.Itoa(int(w.Kind)) + w.Spelt
}

func TestReadWords(t *testing.T) {
	for _, c := range []struct {
		query string
		want  []string // 1 ahead of keywords and signs, 2 ahead of names
	}{
		{"", nil},
		{" \t\n", nil},
		{"-- select", nil},
		{"--\n--", nil},
		{"select a_1 _b Z9", []string{"1select", "2a_1", "2_b", "2Z9"}},
		{"Select selects select1 _select", []string{"2Select", "2selects", "2select1", "2_select"}},
		{"table row int text", []string{"2table", "2row", "2int", "2text"}},
		{"0 007 9223372036854775807 00009223372036854775807", []string{"0", "7", "9223372036854775807", "9223372036854775807"}},
		{"12ab 1_ 3.4", []string{"12", "2ab", "1", "2_", "3", "1.", "4"}},
		{"'' 'a b' 'it''s' '''' ''''''", []string{"''", "'a b'", "'it''s'", "''''", "''''''"}},
		{"'a'b'c'", []string{"'a'", "2b", "'c'"}},
		{"'--' '\t#\x00\xff\r'", []string{"'--'", "'\t#\x00\xff\r'"}},
		{"(),.*+-/%=<><<=>>=", []string{"1(", "1)", "1,", "1.", "1*", "1+", "1-", "1/", "1%", "1=", "1<>", "1<", "1<=", "1>", "1>="}},
		{"<<>>==<", []string{"1<", "1<>", "1>=", "1=", "1<"}},
		{"a-b - -c---d\n-e", []string{"2a", "1-", "2b", "1-", "1-", "2c", "1-", "2e"}},
		{"a--\nb--'#\nc", []string{"2a", "2b", "2c"}},
	} {
		var got []string
		for _, w := range Read(c.query) {
			got = append(got, told(w))
		}
		if !slices.Equal(got, c.want) {
			t.Errorf("P3: Read(%q) = %q, want %q", c.query, got, c.want)
		}
	}
}

func TestReadKeywords(t *testing.T) {
	list := strings.Fields(keywordList)
	got := Read(keywordList)
	for i, word := range list {
		if got[i] != (Word{Kind: Fixed, Spelt: word}) {
			t.Errorf("P3: %s is read as %v", word, got[i])
		}
	}
	if len(Keywords()) != len(list) || len(list) != 24 {
		t.Errorf("P3: %d keywords, of %d", len(Keywords()), len(list))
	}
}

func TestReadFaults(t *testing.T) {
	for _, c := range []struct {
		query string
		at    int // -1: none
	}{
		{strings.Repeat(" ", 400), -1},
		{strings.Repeat(" ", 401), 400},
		{"#" + strings.Repeat(" ", 400), 400},
		{"--" + strings.Repeat("x", 398), -1},
		{"'" + strings.Repeat("x", 398) + "'", -1},
		{strings.Repeat("0", 400), -1},
		{"#", 0},
		{"a\n\t;", 3},
		{"a \r b", 2},
		{"a\vb", 1},
		{"\"a\"", 0},
		{"a!=b", 1},
		{"a \u00e9", 2},
		{"\u00a0a", 0},
		{"a\x00", 1},
		{"9223372036854775808", 0},
		{"1 00009223372036854775808x", 2},
		{"99999999999999999999999999999999", 0},
		{"9223372036854775808 #", 0},
		{"# 9223372036854775808", 0},
		{"'", 0},
		{"a 'b", 2},
		{"a 'b\nc'", 2},
		{"a '''", 2},
		{"a 'b''", 2},
		{"a 'b'''", -1},
		{"a ''''' #", 2},
		{"a 'b -- '' #", 2},
	} {
		f := thrown(func() { Read(c.query) })
		if (f == nil) != (c.at < 0) || f != nil && *f != (api.Fault{Kind: api.ErrLex, At: c.at}) {
			t.Errorf("P3: Read(%q) throws %v, want ErrLex at %d", c.query, f, c.at)
		}
	}
}

// byPattern reads words in another way, to hold Read against: the words as they are written, and where the first fault lies (-1: nowhere).
func byPattern(query string) ([]string, int) {
	between := regexp.MustCompile(`^(?:[ \t\n]|--[^\n]*)*`)
	word := regexp.MustCompile(`^(?:[A-Za-z_][A-Za-z0-9_]*|[0-9]+|'(?:[^'\n]|'')*'|<>|<=|>=|[(),.*+\-/%=<>])`)
	var list []string
	at := len(between.FindString(query))
	for at < len(query) {
		w := word.FindString(query[at:])
		_, err := strconv.ParseInt(w, 10, 64)
		number := w != "" && w[0] >= '0' && w[0] <= '9'
		open := strings.HasPrefix(w, "'") && strings.HasPrefix(query[at+len(w):], "'")
		if w == "" || number && err != nil || open {
			return list, at
		}
		list = append(list, w)
		at += len(w)
		at += len(between.FindString(query[at:]))
	}
	return list, -1
}

func TestReadAsPatternsDo(t *testing.T) {
	random := rand.New(rand.NewPCG(3, 1))
	pieces := []string{"a", "_", "Z", "0", "9", "select", "or", "'", "''", "' '", "\n", " ", "\t", "-", "--", "<", ">", "=", "(", ")", ",", ".", "*", "+", "/", "%", "9223372036854775807", "9223372036854775808", "#", "\r", "\xff", "\x00"}
	for range 30000 {
		query := ""
		for range random.IntN(9) {
			query += pieces[random.IntN(len(pieces))]
		}
		want, at := byPattern(query)
		var got []Word
		f := thrown(func() { got = Read(query) })
		if (f == nil) != (at < 0) || f != nil && *f != (api.Fault{Kind: api.ErrLex, At: at}) {
			t.Fatalf("P3: Read(%q) throws %v, want ErrLex at %d", query, f, at)
		}
		if f == nil && !sameWords(got, want) {
			t.Fatalf("P3: Read(%q) = %v, want %q", query, got, want)
		}
	}
}

func sameWords(got []Word, want []string) bool {
	return slices.EqualFunc(got, want, func(g Word, w string) bool {
		keyword := strings.Contains(" "+keywordList+" ", " "+w+" ")
		switch {
		case w[0] == '\'':
			return g.Kind == Literal && g.Value == api.Text(strings.ReplaceAll(w[1:len(w)-1], "''", "'"))
		case w[0] >= '0' && w[0] <= '9':
			n, _ := strconv.ParseInt(w, 10, 64)
			return g.Kind == Literal && g.Value == api.Int(n)
		case regexp.MustCompile(`^\w`).MatchString(w) && !keyword:
			return g == Word{Kind: Name, Spelt: w}
		}
		return g == Word{Kind: Fixed, Spelt: w}
	})
}
