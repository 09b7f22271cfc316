package tests

import (
	"bytes"
	"go/ast"
	"go/format"
	"go/parser"
	"go/token"
	"os"
	"path/filepath"
	"strings"
	"testing"
)

const allowedImports = " bytes cmp container/heap errors iter maps math math/big math/bits slices sort strconv strings sync sync/atomic unicode unicode/utf8 "

// The program keeps to the rules of its language that its text shows plainly.
func TestLanguage(t *testing.T) {
	files, err := filepath.Glob("../impl/*.go")
	if err != nil || len(files) == 0 {
		t.Fatal("no files of the program", err)
	}
	for _, file := range files {
		if strings.HasSuffix(file, "_test.go") {
			continue
		}
		src, err := os.ReadFile(file)
		if err != nil {
			t.Fatal(err)
		}
		if laid, err := format.Source(src); err != nil || !bytes.Equal(laid, src) {
			t.Errorf("%s: not in gofmt's layout", file)
		}
		checkFile(t, file, src)
	}
}

func checkFile(t *testing.T, file string, src []byte) {
	fset := token.NewFileSet()
	parsed, err := parser.ParseFile(fset, file, src, parser.ParseComments)
	if err != nil {
		t.Fatal(err)
	}
	for _, i := range parsed.Imports {
		if path := strings.Trim(i.Path.Value, "\""); !strings.Contains(allowedImports, " "+path+" ") {
			t.Errorf("%s imports %s", file, path)
		}
	}
	for _, group := range parsed.Comments {
		for _, c := range group.List {
			if strings.HasPrefix(c.Text, "//go:") || strings.HasPrefix(c.Text, "// +build") {
				t.Errorf("%s: %s", file, c.Text)
			}
		}
	}
	for _, d := range parsed.Decls {
		if f, ok := d.(*ast.FuncDecl); ok {
			if n := fset.Position(f.End()).Line - fset.Position(f.Pos()).Line + 1; n > 60 {
				t.Errorf("%s: %s has %d lines", file, f.Name.Name, n)
			}
		}
	}
}
