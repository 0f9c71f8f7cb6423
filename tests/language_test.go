package tests

import (
	"bytes"
	"go/ast"
	"go/format"
	"go/parser"
	"go/token"
	"os"
	"path/filepath"
	"slices"
	"strings"
	"testing"
)

// What the program may import.
const allowed = "bytes cmp container/heap errors iter maps math math/big math/bits slices sort strconv strings sync sync/atomic unicode unicode/utf8"

const mostLines = 60

func TestTheProgramKeepsToItsLanguage(t *testing.T) {
	files, err := filepath.Glob("../impl/*.go")
	if err != nil || len(files) != 8 {
		t.Fatalf("%d files of 8 layers, %v", len(files), err)
	}
	for _, file := range files {
		source, err := os.ReadFile(file)
		if err != nil {
			t.Fatal(err)
		}
		laidOut, err := format.Source(source)
		if err != nil || !bytes.Equal(source, laidOut) {
			t.Errorf("%s is not in gofmt's layout", file)
		}
		if bytes.Contains(source, []byte("//go:")) {
			t.Errorf("%s has a //go: line", file)
		}
		lookAtFile(t, file, source)
	}
}

func lookAtFile(t *testing.T, file string, source []byte) {
	set := token.NewFileSet()
	parsed, err := parser.ParseFile(set, file, source, parser.SkipObjectResolution)
	if err != nil {
		t.Fatal(err)
	}
	for _, i := range parsed.Imports {
		if !slices.Contains(strings.Fields(allowed), strings.Trim(i.Path.Value, `"`)) {
			t.Errorf("%s imports %s", file, i.Path.Value)
		}
	}
	for _, d := range parsed.Decls {
		f, ok := d.(*ast.FuncDecl)
		if !ok {
			continue
		}
		if lines := set.Position(f.End()).Line - set.Position(f.Pos()).Line + 1; lines > mostLines {
			t.Errorf("%s: %s has %d lines", file, f.Name.Name, lines)
		}
	}
}
