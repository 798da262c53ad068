package tests

import (
	"bytes"
	"go/ast"
	"go/format"
	"go/parser"
	"go/token"
	"os"
	"path/filepath"
	"strings"
	"testing"
)

const allowedImports = " bytes cmp container/heap errors iter maps math math/bits slices sort strconv strings sync sync/atomic unicode unicode/utf8 "

const longestFunction = 60

// TestLayout holds the program against what its language page says of any file.
func TestLayout(t *testing.T) {
	files, err := filepath.Glob("../impl/*.go")
	if err != nil || len(files) == 0 {
		t.Fatalf("no files of the program: %v", err)
	}
	for _, name := range files {
		source, err := os.ReadFile(name)
		if err != nil {
			t.Fatal(err)
		}
		laid, err := format.Source(source)
		if err != nil {
			t.Fatal(err)
		}
		if !bytes.Equal(source, laid) {
			t.Errorf("%s is not in gofmt's layout", name)
		}
		if bytes.Contains(source, []byte("//go:")) || bytes.Contains(source, []byte("// +build")) {
			t.Errorf("%s has a //go: line or a build tag", name)
		}
		checkFile(t, name, source)
	}
}

func checkFile(t *testing.T, name string, source []byte) {
	places := token.NewFileSet()
	file, err := parser.ParseFile(places, name, source, 0)
	if err != nil {
		t.Fatal(err)
	}
	for _, i := range file.Imports {
		if path := strings.Trim(i.Path.Value, "\""); !strings.Contains(allowedImports, " "+path+" ") {
			t.Errorf("%s imports %s", name, path)
		}
	}
	for _, d := range file.Decls {
		f, ok := d.(*ast.FuncDecl)
		if !ok {
			continue
		}
		if lines := places.Position(f.End()).Line - places.Position(f.Pos()).Line + 1; lines > longestFunction {
			t.Errorf("%s: %s has %d lines", name, f.Name.Name, lines)
		}
	}
}
