package tables

import (
	"fmt"
	"maps"
	"math/rand/v2"
	"regexp"
	"slices"
	"strconv"
	"strings"
	"testing"

	"bags/api"
)

// thrown does the work and tells the fault it threw: nil if none. Any other panic is a mistake, and passes.
func thrown(work func()) (f *api.Fault) {
	defer func() {
		if met := recover(); met != nil {
			f = met.(*api.Fault)
		}
	}()
	work()
	return nil
}

// told writes tables one a line, sorted by name.
func told(list map[string]*Table) string {
	var b strings.Builder
	for _, name := range slices.Sorted(maps.Keys(list)) {
		t := list[name]
		fmt.Fprint(&b, name, t.Columns)
		for _, row := range t.Rows {
			for i, v := range row {
				fmt.Fprint(&b, []string{" | ", ","}[min(i, 1)], v.Written())
			}
		}
		b.WriteString("\n")
	}
	return b.String()
}

func TestRead(t *testing.T) {
	for _, c := range []struct{ data, want string }{
		{"", ""},
		{"\n   \n\n ", ""},
		{"table t a int", "t[{a 1}]\n"},
		{"table t a int b text c int\n", "t[{a 1} {b 2} {c 1}]\n"},
		{"  table   t  a   int  \n\n   \n  row   5  ", "t[{a 1}] | 5\n"},
		{"table t a int\nrow 1\nrow 1\nrow null", "t[{a 1}] | 1 | 1 | null\n"},
		{"table t a int\nrow 007\nrow -0\nrow -007\nrow 000000000000000000000000000001", "t[{a 1}] | 7 | 0 | -7 | 1\n"},
		{"table t a int\nrow 9223372036854775807\nrow -9223372036854775808", "t[{a 1}] | 9223372036854775807 | -9223372036854775808\n"},
		{"table t a text b text\nrow '' ' a  b '\nrow 'it''s' ''''\nrow null 'null'", "t[{a 2} {b 2}] | '',' a  b ' | 'it''s','''' | null,'null'\n"},
		{"table t a text\nrow '\t\r\x00\xff#-- '", "t[{a 2}] | '\t\r\x00\xff#-- '\n"},
		{"table t a int b text\nrow 1 'x'\ntable u a int\nrow 2\ntable T c text", "T[{c 2}]\nt[{a 1} {b 2}] | 1,'x'\nu[{a 1}] | 2\n"},
		{"table table row int text text\nrow 1 'x'", "table[{row 1} {text 2}] | 1,'x'\n"},
		{"table Select nulls int", "Select[{nulls 1}]\n"},
	} {
		if got := told(Read(c.data)); got != c.want {
			t.Errorf("P2: Read(%q) = %q, want %q", c.data, got, c.want)
		}
	}
}

func TestReadPlaces(t *testing.T) {
	got := Read("table t a int b text c int")["t"].Places
	if !maps.Equal(got, map[string]int{"a": 0, "b": 1, "c": 2}) {
		t.Errorf("P2: the columns a, b, c stand at %v", got)
	}
}

// The bounds, in another form than Read has them.
const (
	word   = `[A-Za-z_][A-Za-z0-9_]*`
	number = `-?[0-9]+`
	quoted = `'(?:[^']|'')*'`
)

// byPattern tells the first line that is wrong, in another way than Read: -1 if none is.
func byPattern(data string) int {
	table := regexp.MustCompile(`^ *table +(` + word + `)((?: +` + word + ` +(?:int|text)){1,6}) *$`)
	row := regexp.MustCompile(`^ *row((?: +(?:null|` + number + `|` + quoted + `))+) *$`)
	rows, types, names := 0, []string(nil), " "
	for i, line := range strings.Split(data, "\n") {
		if m := table.FindStringSubmatch(line); m != nil {
			fields := strings.Fields(m[2])
			if strings.Contains(names, " "+m[1]+" ") || isKeyword(m[1]) || strings.Count(names, " ") == 9 || !columnsRight(fields) {
				return i + 1
			}
			names += m[1] + " "
			rows, types = 0, nil
			for j := 1; j < len(fields); j += 2 {
				types = append(types, fields[j])
			}
			continue
		}
		if m := row.FindStringSubmatch(line); m != nil && valuesRight(m[1], types) && rows < 12 {
			rows++
			continue
		}
		if strings.Trim(line, " ") != "" {
			return i + 1
		}
	}
	return -1
}

func isKeyword(s string) bool {
	return strings.Contains(" select distinct from where group by having as union intersect except all any and or not exists in is null count sum min max ", " "+s+" ")
}

func columnsRight(fields []string) bool {
	seen := " "
	for i := 0; i < len(fields); i += 2 {
		if isKeyword(fields[i]) || strings.Contains(seen, " "+fields[i]+" ") {
			return false
		}
		seen += fields[i] + " "
	}
	return true
}

func valuesRight(list string, types []string) bool {
	values := regexp.MustCompile(`null|`+number+`|`+quoted).FindAllString(list, -1)
	for i, v := range values {
		_, err := strconv.ParseInt(v, 10, 64)
		if i >= len(types) || v != "null" && (v[0] == '\'') != (types[i] == "text") || types[i] == "int" && v != "null" && err != nil {
			return false
		}
	}
	return len(values) == len(types)
}

func TestReadAsPatternsDo(t *testing.T) {
	random := rand.New(rand.NewPCG(2, 1))
	starts := []string{
		"table town id int name text\nrow 1 'Oslo'\nrow 2 'Ro''me'\n\nrow 3 null\ntable none x int",
		"table t a int\n" + strings.Repeat("row 1\n", 12) + "table u b text\nrow 'x y'",
		"table a a int\ntable b a int\ntable c a int\ntable d a int\ntable e a int\ntable f a int\ntable g a int\ntable h a int\nrow 7",
		"table t a int b int c int d int e int f text\nrow 1 -2 03 null 5 ''",
	}
	pieces := []string{"'", "''", " ", "\n", "row ", "table ", " int", " text", "null", "-", "+", "0", "9223372036854775807", "9223372036854775808", "a", "x int ", "_", "max", "\t", "\r", "\xff", "row 1\n"}
	wrong := 0
	for range 20000 {
		data := starts[random.IntN(len(starts))]
		for range 1 + random.IntN(3) {
			at, end := random.IntN(len(data)+1), random.IntN(8)
			end = min(len(data), at+end*random.IntN(2))
			data = data[:at] + pieces[random.IntN(len(pieces))] + data[end:]
		}
		want := byPattern(data)
		f := thrown(func() { Read(data) })
		if (f == nil) != (want < 0) || f != nil && *f != (api.Fault{Kind: api.ErrData, At: want}) {
			t.Fatalf("P2: Read(%q) throws %v, want line %d", data, f, want)
		}
		wrong += min(want, 0)
	}
	if wrong == 0 || wrong == -20000 {
		t.Errorf("the inputs are all of one kind: %d are right", -wrong)
	}
}
