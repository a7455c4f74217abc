package tests

import (
	"bytes"
	"go/ast"
	"go/format"
	"go/parser"
	"go/token"
	"os"
	"path/filepath"
	"slices"
	"strconv"
	"strings"
	"testing"
)

// mayImport is what the program may take of the library.
var mayImport = []string{
	"bytes", "cmp", "container/heap", "errors", "iter", "maps", "math", "math/bits", "slices", "sort",
	"strconv", "strings", "sync", "sync/atomic", "unicode", "unicode/utf8",
}

const mostLines = 60

func TestProgramKeepsToTheLanguage(t *testing.T) {
	files, err := filepath.Glob("../impl/*")
	if err != nil || len(files) == 0 {
		t.Fatal(files, err)
	}
	for _, name := range files {
		if !strings.HasSuffix(name, ".go") {
			t.Errorf("%s is no Go file", name)
			continue
		}
		text, err := os.ReadFile(name)
		if err != nil {
			t.Fatal(err)
		}
		if nice, err := format.Source(text); err != nil || !bytes.Equal(nice, text) {
			t.Errorf("%s is not in gofmt's layout: %v", name, err)
		}
		if bytes.Contains(text, []byte("//go:")) {
			t.Errorf("%s has a //go: line", name)
		}
		checkFile(t, name, text)
	}
}

func checkFile(t *testing.T, name string, text []byte) {
	fset := token.NewFileSet()
	file, err := parser.ParseFile(fset, name, text, 0)
	if err != nil {
		t.Fatal(err)
	}
	for _, i := range file.Imports {
		if path, err := strconv.Unquote(i.Path.Value); err != nil || !slices.Contains(mayImport, path) {
			t.Errorf("%s imports %s", name, i.Path.Value)
		}
	}
	for _, d := range file.Decls {
		switch x := d.(type) {
		case *ast.FuncDecl:
			if fset.Position(x.End()).Line-fset.Position(x.Pos()).Line >= mostLines {
				t.Errorf("%s: %s has more than %d lines", name, x.Name.Name, mostLines)
			}
		case *ast.GenDecl:
			if x.Tok == token.VAR {
				checkPackageLevel(t, name, x)
			}
		}
	}
}

// checkPackageLevel asks whether what stands at package level is neither a map nor a function, and made by no call.
func checkPackageLevel(t *testing.T, name string, d *ast.GenDecl) {
	ast.Inspect(d, func(n ast.Node) bool {
		switch x := n.(type) {
		case *ast.MapType, *ast.FuncType, *ast.FuncLit, *ast.ChanType:
			t.Errorf("%s has a map, a function or a channel at package level", name)
		case *ast.CallExpr:
			if s, ok := x.Fun.(*ast.SelectorExpr); !ok || s.Sel.Name != "New" {
				t.Errorf("%s has something at package level that is made by a call", name)
			}
		}
		return true
	})
}
