package tests

import (
	"bytes"
	"go/ast"
	"go/format"
	"go/parser"
	"go/token"
	"os"
	"path/filepath"
	"slices"
	"strings"
	"testing"
)

// allowed are the packages of the library that the program may use.
func allowed() []string {
	return []string{"bytes", "cmp", "container/heap", "errors", "iter", "maps", "math", "math/bits", "slices", "sort", "strconv", "strings", "sync", "sync/atomic", "unicode", "unicode/utf8"}
}

// everyFile calls f with each file of the program.
func everyFile(t *testing.T, f func(name string, text []byte, fset *token.FileSet, file *ast.File)) {
	t.Helper()
	entries, err := os.ReadDir("../impl")
	if err != nil || len(entries) == 0 {
		t.Fatal("the program is not there", err)
	}
	for _, entry := range entries {
		if entry.IsDir() || !strings.HasSuffix(entry.Name(), ".go") {
			t.Errorf("impl/%s is no Go file", entry.Name())
			continue
		}
		text, err := os.ReadFile(filepath.Join("../impl", entry.Name()))
		if err != nil {
			t.Fatal(err)
		}
		fset := token.NewFileSet()
		file, err := parser.ParseFile(fset, entry.Name(), text, parser.ParseComments)
		if err != nil {
			t.Fatal(err)
		}
		f(entry.Name(), text, fset, file)
	}
}

func TestLanguageLayout(t *testing.T) {
	everyFile(t, func(name string, text []byte, fset *token.FileSet, file *ast.File) {
		laid, err := format.Source(text)
		if err != nil || !bytes.Equal(laid, text) {
			t.Errorf("%s is not laid out as gofmt does it (%v)", name, err)
		}
	})
}

func TestLanguageImports(t *testing.T) {
	everyFile(t, func(name string, text []byte, fset *token.FileSet, file *ast.File) {
		for _, i := range file.Imports {
			if !slices.Contains(allowed(), strings.Trim(i.Path.Value, "\"")) {
				t.Errorf("%s imports %s", name, i.Path.Value)
			}
		}
	})
}

func TestLanguageComments(t *testing.T) {
	everyFile(t, func(name string, text []byte, fset *token.FileSet, file *ast.File) {
		for _, group := range file.Comments {
			for _, c := range group.List {
				if strings.HasPrefix(c.Text, "//go:") || strings.HasPrefix(c.Text, "// +build") {
					t.Errorf("%s has the line %s", name, c.Text)
				}
			}
		}
	})
}

func TestLanguageShortFunctions(t *testing.T) {
	everyFile(t, func(name string, text []byte, fset *token.FileSet, file *ast.File) {
		for _, d := range file.Decls {
			f, ok := d.(*ast.FuncDecl)
			if !ok {
				continue
			}
			if lines := fset.Position(f.End()).Line - fset.Position(f.Pos()).Line + 1; lines > 60 {
				t.Errorf("%s in %s has %d lines", f.Name.Name, name, lines)
			}
		}
	})
}
