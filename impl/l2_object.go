package impl

import (
	"errors"
	"strconv"
)

// Limits of objects.
const (
	GateMaxHolds   = 3
	GateMaxVersion = 1000000
)

// Codes of what is wrong with an object.
const (
	faultWhole = 1
	faultUnset = 2
	faultUnfit = 3
	faultFixed = 4
)

// GateObject is a thing that stands in the book.
type GateObject struct {
	Kind    string
	Name    string
	Team    string
	Values  []string
	Ending  bool
	Holds   []string
	Version int
}

// objectFault is what is wrong with an object: a code, and the place of a field.
type objectFault struct {
	code  int
	place int
}

func (f objectFault) Error() string {
	return "code " + strconv.Itoa(f.code) + " at field " + strconv.Itoa(f.place)
}

// objectCheck looks at an object whose shapes are ok.
type objectCheck func(shapes []GateShape, o GateObject) error

// turnCheck looks at two objects that are each without fault.
type turnCheck func(shape GateShape, old GateObject, o GateObject) error

// GateFill fills the values that are not set.
func GateFill(shapes []GateShape, o GateObject) GateObject {
	shape, found := shapeOf(shapes, o.Kind)
	if !found || !GateShapesOk(shapes) || len(o.Values) != len(shape.Fields) {
		return copyObject(o)
	}
	return filled(shape, o)
}

// GateCheck is what is wrong with an object: a code, and the place of a field.
func GateCheck(shapes []GateShape, o GateObject) (int, int) {
	if !GateShapesOk(shapes) {
		return faultWhole, 0
	}
	return toldBy(objectError(shapes, o))
}

// GateTurned says whether an object may become another one.
func GateTurned(shapes []GateShape, old GateObject, o GateObject) (int, int) {
	if !GateShapesOk(shapes) {
		return faultWhole, 0
	}
	return toldBy(turnError(shapes, old, o))
}

// filled is the object with what is not set filled; it has the values of the shape.
func filled(shape GateShape, o GateObject) GateObject {
	out := copyObject(o)
	for i, f := range shape.Fields {
		if out.Values[i] == "" {
			out.Values[i] = f.Default
		}
	}
	return out
}

// toldBy is the code and the place that an error keeps.
func toldBy(err error) (int, int) {
	var fault objectFault
	if errors.As(err, &fault) {
		return fault.code, fault.place
	}
	return 0, 0
}

// objectError is the first fault of an object whose shapes are ok.
func objectError(shapes []GateShape, o GateObject) error {
	for _, check := range []objectCheck{checkNames, checkHolds, checkVersion, checkCount, checkValues} {
		if err := check(shapes, o); err != nil {
			return err
		}
	}
	return nil
}

// turnError is the first fault of turning an object into another one, by shapes that are ok.
func turnError(shapes []GateShape, old GateObject, o GateObject) error {
	// Whatever is wrong with one of the two alone is told as one code, without its place.
	if objectError(shapes, old) != nil || objectError(shapes, o) != nil {
		return objectFault{code: faultWhole}
	}
	shape, _ := shapeOf(shapes, old.Kind)
	for _, check := range []turnCheck{checkSame, checkFixed} {
		if err := check(shape, old, o); err != nil {
			return err
		}
	}
	return nil
}

func checkNames(shapes []GateShape, o GateObject) error {
	return wholeUnless(isName(o.Name) && isName(o.Team))
}

func checkHolds(shapes []GateShape, o GateObject) error {
	return wholeUnless(len(o.Holds) <= GateMaxHolds && areAscendingNames(o.Holds))
}

func checkVersion(shapes []GateShape, o GateObject) error {
	return wholeUnless(0 <= o.Version && o.Version <= GateMaxVersion)
}

func checkCount(shapes []GateShape, o GateObject) error {
	shape, found := shapeOf(shapes, o.Kind)
	return wholeUnless(found && len(o.Values) == len(shape.Fields))
}

// checkValues relies on checkCount ahead of it.
func checkValues(shapes []GateShape, o GateObject) error {
	kinds := fieldKinds()
	shape, _ := shapeOf(shapes, o.Kind)
	for i, f := range shape.Fields {
		set := o.Values[i] != ""
		if !set && f.Must {
			return objectFault{code: faultUnset, place: i}
		}
		if set && !kinds.fits(f, o.Values[i]) {
			return objectFault{code: faultUnfit, place: i}
		}
	}
	return nil
}

func checkSame(shape GateShape, old GateObject, o GateObject) error {
	return wholeUnless(old.Kind == o.Kind && old.Name == o.Name && old.Team == o.Team)
}

// checkFixed relies on checkSame ahead of it: both have the values of one shape.
func checkFixed(shape GateShape, old GateObject, o GateObject) error {
	for i, f := range shape.Fields {
		if f.Fixed && old.Values[i] != "" && old.Values[i] != o.Values[i] {
			return objectFault{code: faultFixed, place: i}
		}
	}
	return nil
}

func wholeUnless(ok bool) error {
	if ok {
		return nil
	}
	return objectFault{code: faultWhole}
}

// copyObject is the object in memory of its own.
func copyObject(o GateObject) GateObject {
	o.Values = copyTexts(o.Values)
	o.Holds = copyTexts(o.Holds)
	return o
}

func copyTexts(list []string) []string {
	return append([]string(nil), list...)
}
