package tests

import (
	"bytes"
	"go/ast"
	"go/format"
	"go/parser"
	"go/token"
	"os"
	"path/filepath"
	"strconv"
	"strings"
	"testing"
)

// mayImport is what the language page lets the program import.
const mayImport = " bytes cmp container/heap errors iter maps math math/big math/bits slices sort strconv strings sync sync/atomic unicode unicode/utf8 "

// mostLines is the length that the language page gives a function.
const mostLines = 60

func TestLanguage(t *testing.T) {
	paths, err := filepath.Glob("../impl/*")
	if err != nil || len(paths) != 11 {
		t.Fatalf("the program is eleven files: %v, %v", paths, err)
	}
	for _, path := range paths {
		text, err := os.ReadFile(path)
		if err != nil {
			t.Fatal(err)
		}
		if laid, err := format.Source(text); err != nil || !bytes.Equal(laid, text) {
			t.Errorf("%s is not in gofmt's layout (%v)", path, err)
		}
		if bytes.Contains(text, []byte("//go:")) {
			t.Errorf("%s has a //go: line", path)
		}
		set := token.NewFileSet()
		file, err := parser.ParseFile(set, path, text, parser.ParseComments)
		if err != nil {
			t.Fatal(err)
		}
		lookAtFile(t, set, path, file)
	}
}

func lookAtFile(t *testing.T, set *token.FileSet, path string, file *ast.File) {
	for _, i := range file.Imports {
		name, _ := strconv.Unquote(i.Path.Value)
		if !strings.Contains(mayImport, " "+name+" ") {
			t.Errorf("%s imports %s", path, name)
		}
	}
	for _, d := range file.Decls {
		switch x := d.(type) {
		case *ast.FuncDecl:
			if n := set.Position(x.End()).Line - set.Position(x.Pos()).Line + 1; n > mostLines {
				t.Errorf("%s: %s has %d lines", path, x.Name.Name, n)
			}
		case *ast.GenDecl:
			if x.Tok == token.VAR {
				t.Errorf("%s has a package variable: look whether the language page lets it stand", path)
			}
		}
	}
}
