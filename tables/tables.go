// Package tables reads tables that are written as a text of lines (P2).
package tables

import (
	"slices"
	"strconv"
	"strings"

	"bags/api"
	"bags/fault"
	"bags/words"
)

// Type says what a column's values are, but for null.
type Type int

const (
	Int  Type = 1
	Text Type = 2
)

// Column is a column of a table.
type Column struct {
	Name string
	Type Type
}

// Table is a table: each row has a value for each column.
type Table struct {
	Columns []Column
	Places  map[string]int // where in Columns a name stands
	Rows    [][]api.Value
}

// reader is what is known of the lines read so far.
type reader struct {
	line     int
	tables   map[string]*Table
	last     *Table // the one that rows go to
	keywords map[string]words.Kind
}

// Read reads tables, by their names.
func Read(data string) map[string]*Table {
	if len(data) > api.MaxData {
		fault.Throw(api.ErrData, 0)
	}
	r := &reader{tables: map[string]*Table{}, keywords: words.Keywords()}
	// Names and texts are pieces of the text that is read: the caller's must not be kept for their sake.
	for line := range strings.SplitSeq(strings.Clone(data), "\n") {
		r.line++
		r.read(line)
	}
	return r.tables
}

// must throws the line's fault unless what is asked of the line holds.
func (r *reader) must(holds bool) {
	if !holds {
		fault.Throw(api.ErrData, r.line)
	}
}

func (r *reader) read(line string) {
	fields := r.fields(line)
	if len(fields) == 0 {
		return
	}
	switch fields[0] {
	case "table":
		r.table(fields[1:])
	case "row":
		r.row(fields[1:])
	default:
		r.must(false)
	}
}

// fields takes a line apart at its blanks, but for those within a text.
func (r *reader) fields(line string) []string {
	var list []string
	for rest := strings.TrimLeft(line, " "); rest != ""; {
		end := r.fieldEnd(rest)
		list = append(list, rest[:end])
		rest = strings.TrimLeft(rest[end:], " ")
	}
	return list
}

func (r *reader) fieldEnd(rest string) int {
	if rest[0] != '\'' {
		plain, _, _ := strings.Cut(rest, " ")
		return len(plain)
	}
	_, end := words.Quoted(rest)
	r.must(end > 0 && (end == len(rest) || rest[end] == ' '))
	return end
}

func (r *reader) table(fields []string) {
	r.must(len(fields) >= 3 && len(fields)%2 == 1 && len(fields) <= 1+2*api.MaxColumns)
	_, there := r.tables[fields[0]]
	r.must(r.isName(fields[0]) && !there && len(r.tables) < api.MaxTables)
	t := &Table{Places: map[string]int{}}
	for pair := range slices.Chunk(fields[1:], 2) {
		c := r.column(pair[0], pair[1])
		t.Places[c.Name] = len(t.Columns)
		t.Columns = append(t.Columns, c)
	}
	r.must(len(t.Places) == len(t.Columns)) // else two of them have one name
	r.tables[fields[0]] = t
	r.last = t
}

func (r *reader) column(name, kind string) Column {
	types := map[string]Type{"int": Int, "text": Text}
	t, ok := types[kind]
	r.must(ok && r.isName(name))
	return Column{Name: name, Type: t}
}

func (r *reader) isName(s string) bool {
	_, keyword := r.keywords[s]
	return !keyword && s != "" && words.NameBytes(s) == len(s)
}

func (r *reader) row(fields []string) {
	t := r.last
	r.must(t != nil && len(fields) == len(t.Columns) && len(t.Rows) < api.MaxRows)
	row := make([]api.Value, len(fields))
	for i, field := range fields {
		row[i] = r.value(field, t.Columns[i].Type)
	}
	t.Rows = append(t.Rows, row)
}

func (r *reader) value(field string, of Type) api.Value {
	if field == "null" {
		return api.Null{}
	}
	if of == Int {
		return r.number(field)
	}
	r.must(field[0] == '\'')
	said, _ := words.Quoted(field)
	return api.Text(said)
}

func (r *reader) number(field string) api.Value {
	digits := strings.TrimPrefix(field, "-")
	n, err := strconv.ParseInt(field, 10, 64)
	r.must(err == nil && words.Digits(digits) == len(digits)) // ParseInt takes a + too
	return api.Int(n)
}
