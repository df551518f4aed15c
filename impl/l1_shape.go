// Package impl: the gate of a fleet: rights, bounds, links and ends.
package impl

import "slices"

// Limits of shapes.
const (
	GateMaxName   = 16
	GateMaxValue  = 40
	GateMaxFields = 6
	GateMaxShapes = 6
	GateMaxWords  = 6
	GateMaxNumber = 1000000
)

// Kinds of fields.
const (
	GateNumber = 1
	GateWord   = 2
	GateText   = 3
	GateLink   = 4
)

// Roles of links.
const (
	GateHolds = 1
	GateLeans = 2
	GateOwned = 3
)

// maxDigits bounds a decimal, so that no text of digits runs over an int.
const maxDigits = 7

// GateField is a field of a shape.
type GateField struct {
	Name    string
	Kind    int
	Least   int
	Most    int
	Words   []string
	To      string
	Role    int
	Must    bool
	Fixed   bool
	Default string
	Weighs  string
}

// GateShape is the fields of a kind.
type GateShape struct {
	Kind   string
	Fields []GateField
}

// fieldKind is the row of the table of kinds that a field stands in.
type fieldKind interface {
	// fits looks at a value that is set.
	fits(value string) bool
	// bare says that the field has nothing that its row does not use.
	bare() bool
	// sound says that what its row uses is as it must be, in a list of shapes.
	sound(list []GateShape) bool
}

type (
	numberField GateField
	wordField   GateField
	textField   GateField
	linkField   GateField
)

// kindTable has the constructor of each kind of field, by its number.
type kindTable map[int]func(f GateField) fieldKind

func fieldKinds() kindTable {
	return kindTable{
		GateNumber: func(f GateField) fieldKind { return numberField(f) },
		GateWord:   func(f GateField) fieldKind { return wordField(f) },
		GateText:   func(f GateField) fieldKind { return textField(f) },
		GateLink:   func(f GateField) fieldKind { return linkField(f) },
	}
}

// GateFits says whether a value fits a field.
func GateFits(f GateField, value string) bool {
	return fieldKinds().fits(f, value)
}

// GateShapesOk says whether shapes are ok.
func GateShapesOk(list []GateShape) bool {
	if len(list) > GateMaxShapes {
		return false
	}
	kinds := fieldKinds()
	for i, s := range list {
		if !isName(s.Kind) || i > 0 && list[i-1].Kind >= s.Kind {
			return false
		}
		if !kinds.fieldsOk(list, s.Fields) {
			return false
		}
	}
	return true
}

func (t kindTable) fits(f GateField, value string) bool {
	construct, known := t[f.Kind]
	return known && value != "" && construct(f).fits(value)
}

func (t kindTable) fieldsOk(list []GateShape, fields []GateField) bool {
	if len(fields) > GateMaxFields {
		return false
	}
	for i, f := range fields {
		if !isName(f.Name) || fieldPlace(fields, f.Name) != i || !t.fieldOk(list, f) {
			return false
		}
	}
	return true
}

func (t kindTable) fieldOk(list []GateShape, f GateField) bool {
	construct, known := t[f.Kind]
	if !known {
		return false
	}
	kind := construct(f)
	return kind.bare() && kind.sound(list) && (f.Default == "" || kind.fits(f.Default))
}

func (f numberField) fits(value string) bool {
	number, ok := decimalOf(value)
	return ok && f.Least <= number && number <= f.Most
}

func (f numberField) bare() bool {
	return len(f.Words) == 0 && f.To == "" && f.Role == 0
}

func (f numberField) sound(list []GateShape) bool {
	return isRange(f.Least, f.Most, 0, GateMaxNumber) && (f.Weighs == "" || isName(f.Weighs))
}

func (f wordField) fits(value string) bool {
	return slices.Contains(f.Words, value)
}

func (f wordField) bare() bool {
	return f.Least == 0 && f.Most == 0 && f.To == "" && f.Role == 0 && f.Weighs == ""
}

func (f wordField) sound(list []GateShape) bool {
	return len(f.Words) > 0 && len(f.Words) <= GateMaxWords && areAscendingNames(f.Words)
}

func (f textField) fits(value string) bool {
	if len(value) < f.Least || len(value) > f.Most {
		return false
	}
	for i := range len(value) {
		if value[i] < 33 || value[i] > 126 {
			return false
		}
	}
	return true
}

func (f textField) bare() bool {
	return len(f.Words) == 0 && f.To == "" && f.Role == 0 && f.Weighs == ""
}

func (f textField) sound(list []GateShape) bool {
	return isRange(f.Least, f.Most, 1, GateMaxValue)
}

func (f linkField) fits(value string) bool {
	return isName(value)
}

func (f linkField) bare() bool {
	return f.Least == 0 && f.Most == 0 && len(f.Words) == 0 && f.Weighs == ""
}

func (f linkField) sound(list []GateShape) bool {
	if _, found := shapeOf(list, f.To); !found || f.Default != "" {
		return false
	}
	switch f.Role {
	case GateHolds, GateOwned:
		return true
	case GateLeans:
		// A leaning link is emptied when what it names goes, so it may not be one that must be set.
		return !f.Must
	}
	return false
}

// shapeOf is the first shape of a kind.
func shapeOf(list []GateShape, kind string) (GateShape, bool) {
	for _, s := range list {
		if s.Kind == kind {
			return s, true
		}
	}
	return GateShape{}, false
}

// fieldPlace is the place of the first field of a name, below 0 if there is none.
func fieldPlace(fields []GateField, name string) int {
	return slices.IndexFunc(fields, func(f GateField) bool { return f.Name == name })
}

func isName(text string) bool {
	return text != "" && len(text) <= GateMaxName && isNameBytes(text)
}

func isNameBytes(text string) bool {
	for i := range len(text) {
		c := text[i]
		if !isDigit(c) && c != '-' && (c < 'a' || c > 'z') {
			return false
		}
	}
	return true
}

func isDigit(c byte) bool {
	return '0' <= c && c <= '9'
}

// decimalOf is the number of a decimal, and whether the text is one.
func decimalOf(text string) (int, bool) {
	if text == "" || len(text) > maxDigits || text[0] == '0' && len(text) > 1 {
		return 0, false
	}
	number := 0
	for i := range len(text) {
		if !isDigit(text[i]) {
			return 0, false
		}
		number = number*10 + int(text[i]-'0')
	}
	return number, true
}

func isRange(least, most, low, high int) bool {
	return low <= least && least <= most && most <= high
}

func areAscendingNames(list []string) bool {
	for i, text := range list {
		if !isName(text) || i > 0 && list[i-1] >= text {
			return false
		}
	}
	return true
}
