package tests

import (
	"bytes"
	"go/ast"
	"go/format"
	"go/parser"
	"go/token"
	"os"
	"path/filepath"
	"slices"
	"strconv"
	"strings"
	"testing"
)

// mayImport is what the program may take of the library.
var mayImport = []string{
	"bytes", "cmp", "container/heap", "errors", "iter", "maps", "math", "math/bits", "slices", "sort",
	"strconv", "strings", "sync", "sync/atomic", "unicode", "unicode/utf8",
}

const mostLines = 60

func TestProgramKeepsToTheLanguage(t *testing.T) {
	files, err := filepath.Glob("../impl/*")
	if err != nil || len(files) == 0 {
		t.Fatal(files, err)
	}
	for _, name := range files {
		if !strings.HasSuffix(name, ".go") {
			t.Errorf("%s is no Go file", name)
			continue
		}
		text, err := os.ReadFile(name)
		if err != nil {
			t.Fatal(err)
		}
		if nice, err := format.Source(text); err != nil || !bytes.Equal(nice, text) {
			t.Errorf("%s is not in gofmt's layout: %v", name, err)
		}
		if bytes.Contains(text, []byte("//go:")) {
			t.Errorf("%s has a //go: line", name)
		}
		checkFile(t, name, text)
	}
}

func checkFile(t *testing.T, name string, text []byte) {
	fset := token.NewFileSet()
	file, err := parser.ParseFile(fset, name, text, 0)
	if err != nil {
		t.Fatal(err)
	}
	for _, i := range file.Imports {
		if path, err := strconv.Unquote(i.Path.Value); err != nil || !slices.Contains(mayImport, path) {
			t.Errorf("%s imports %s", name, i.Path.Value)
		}
	}
	for _, d := range file.Decls {
		f, ok := d.(*ast.FuncDecl)
		if ok && fset.Position(f.End()).Line-fset.Position(f.Pos()).Line >= mostLines {
			t.Errorf("%s: %s has more than %d lines", name, f.Name.Name, mostLines)
		}
	}
}
