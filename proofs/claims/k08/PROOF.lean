import PyProof.Rows.All
import Wide.All
import OpenK.AllK
import Wide.FinOn
import HandS.ForExc
import HandS.Comp
import HandS.Iter
import HandS.Text
import HandS.IsInst
import HandS.Walk
import HandS.ExcInit
import HandS.ExcField
import HandS.TupAny
import HandS.FStr
import PySem.Challenge.RW_timeshelf_k08_written_questions
set_option Elab.async false
set_option linter.all false
set_option maxRecDepth 100000
set_option maxHeartbeats 2000000
namespace Z
open PySem L2
def top (i : Nat) : Stmt := PySem.Challenge.pw_timeshelf_k08_written_questions.main.body.getD i (.Pass ⟨0, 0, 0, 0⟩)
abbrev s_write_question : Stmt := top 1
abbrev N_write_question : List Str := ["question", "part", "kind"]
theorem sc_write_question : FnScope ["question", "part", "kind"] ["question"] (defScope s_write_question) := ⟨rfl, rfl, rfl, by decide +kernel, rfl, by decide +kernel, by decide +kernel⟩
abbrev s_part_text : Stmt := top 2
abbrev N_part_text : List Str := ["question", "bracketed", "text"]
theorem sc_part_text : FnScope ["question", "bracketed", "text"] ["question", "bracketed"] (defScope s_part_text) := ⟨rfl, rfl, rfl, by decide +kernel, rfl, by decide +kernel, by decide +kernel⟩
abbrev s_row_text : Stmt := top 3
abbrev N_row_text : List Str := ["patterns", "gap", "pattern", "told"]
theorem sc_row_text : FnScope ["patterns", "gap", "pattern", "told"] ["patterns", "gap"] (defScope s_row_text) := ⟨rfl, rfl, rfl, by decide +kernel, rfl, by decide +kernel, by decide +kernel⟩
abbrev s_pattern_text : Stmt := top 4
abbrev N_pattern_text : List Str := ["pattern", "kind", "word"]
theorem sc_pattern_text : FnScope ["pattern", "kind", "word"] ["pattern"] (defScope s_pattern_text) := ⟨rfl, rfl, rfl, by decide +kernel, rfl, by decide +kernel, by decide +kernel⟩
abbrev s_tokens_of : Stmt := top 12
abbrev N_tokens_of : List Str := ["text", "found", "at", "token"]
theorem sc_tokens_of : FnScope ["text", "found", "at", "token"] ["text"] (defScope s_tokens_of) := ⟨rfl, rfl, rfl, by decide +kernel, rfl, by decide +kernel, by decide +kernel⟩
abbrev s_token_at : Stmt := top 13
abbrev N_token_at : List Str := ["text", "at", "end", "run"]
theorem sc_token_at : FnScope ["text", "at", "end", "run"] ["text", "at"] (defScope s_token_at) := ⟨rfl, rfl, rfl, by decide +kernel, rfl, by decide +kernel, by decide +kernel⟩
abbrev s_end_of_run : Stmt := top 14
abbrev N_end_of_run : List Str := ["text", "at"]
theorem sc_end_of_run : FnScope ["text", "at"] ["text", "at"] (defScope s_end_of_run) := ⟨rfl, rfl, rfl, by decide +kernel, rfl, by decide +kernel, by decide +kernel⟩
abbrev s_read_question : Stmt := top 20
abbrev N_read_question : List Str := ["text", "tokens", "question"]
theorem sc_read_question : FnScope ["text", "tokens", "question"] ["text"] (defScope s_read_question) := ⟨rfl, rfl, rfl, by decide +kernel, rfl, by decide +kernel, by decide +kernel⟩
abbrev s_size : Stmt := top 21
abbrev N_size : List Str := ["question"]
theorem sc_size : FnScope ["question"] ["question"] (defScope s_size) := ⟨rfl, rfl, rfl, by decide +kernel, rfl, by decide +kernel, by decide +kernel⟩
abbrev s_questions_in : Stmt := top 22
abbrev N_questions_in : List Str := ["question", "found", "waiting", "part"]
theorem sc_questions_in : FnScope ["question", "found", "waiting", "part"] ["question"] (defScope s_questions_in) := ⟨rfl, rfl, rfl, by decide +kernel, rfl, by decide +kernel, by decide +kernel⟩
abbrev s_parts_of : Stmt := top 23
abbrev N_parts_of : List Str := ["question"]
theorem sc_parts_of : FnScope ["question"] ["question"] (defScope s_parts_of) := ⟨rfl, rfl, rfl, by decide +kernel, rfl, by decide +kernel, by decide +kernel⟩
abbrev s_whole_question : Stmt := top 24
abbrev N_whole_question : List Str := ["tokens", "question", "at"]
theorem sc_whole_question : FnScope ["tokens", "question", "at"] ["tokens"] (defScope s_whole_question) := ⟨rfl, rfl, rfl, by decide +kernel, rfl, by decide +kernel, by decide +kernel⟩
abbrev s_question_at : Stmt := top 25
abbrev N_question_at : List Str := ["tokens", "at", "depth", "alternative", "alternatives"]
theorem sc_question_at : FnScope ["tokens", "at", "depth", "alternative", "alternatives"] ["tokens", "at", "depth"] (defScope s_question_at) := ⟨rfl, rfl, rfl, by decide +kernel, rfl, by decide +kernel, by decide +kernel⟩
abbrev s_alternative_at : Stmt := top 26
abbrev N_alternative_at : List Str := ["tokens", "at", "depth", "clause", "clauses"]
theorem sc_alternative_at : FnScope ["tokens", "at", "depth", "clause", "clauses"] ["tokens", "at", "depth"] (defScope s_alternative_at) := ⟨rfl, rfl, rfl, by decide +kernel, rfl, by decide +kernel, by decide +kernel⟩
abbrev s_made_of : Stmt := top 27
abbrev N_made_of : List Str := ["kind", "questions"]
theorem sc_made_of : FnScope ["kind", "questions"] ["kind", "questions"] (defScope s_made_of) := ⟨rfl, rfl, rfl, by decide +kernel, rfl, by decide +kernel, by decide +kernel⟩
abbrev s_begins_clause : Stmt := top 28
abbrev N_begins_clause : List Str := ["tokens", "at"]
theorem sc_begins_clause : FnScope ["tokens", "at"] ["tokens", "at"] (defScope s_begins_clause) := ⟨rfl, rfl, rfl, by decide +kernel, rfl, by decide +kernel, by decide +kernel⟩
abbrev s_clause_at : Stmt := top 29
abbrev N_clause_at : List Str := ["tokens", "at", "depth", "first", "denials", "question", "_"]
theorem sc_clause_at : FnScope ["tokens", "at", "depth", "first", "denials", "question", "_"] ["tokens", "at", "depth"] (defScope s_clause_at) := ⟨rfl, rfl, rfl, by decide +kernel, rfl, by decide +kernel, by decide +kernel⟩
abbrev s_plain_clause_at : Stmt := top 30
abbrev N_plain_clause_at : List Str := ["tokens", "at", "depth"]
theorem sc_plain_clause_at : FnScope ["tokens", "at", "depth"] ["tokens", "at", "depth"] (defScope s_plain_clause_at) := ⟨rfl, rfl, rfl, by decide +kernel, rfl, by decide +kernel, by decide +kernel⟩
abbrev s_gap_at : Stmt := top 31
abbrev N_gap_at : List Str := ["tokens", "at"]
theorem sc_gap_at : FnScope ["tokens", "at"] ["tokens", "at"] (defScope s_gap_at) := ⟨rfl, rfl, rfl, by decide +kernel, rfl, by decide +kernel, by decide +kernel⟩
abbrev s_row_at : Stmt := top 32
abbrev N_row_at : List Str := ["tokens", "at", "gap", "closing", "first"]
theorem sc_row_at : FnScope ["tokens", "at", "gap", "closing", "first"] ["tokens", "at", "gap", "closing"] (defScope s_row_at) := ⟨rfl, rfl, rfl, by decide +kernel, rfl, by decide +kernel, by decide +kernel⟩
abbrev s_bracket_at : Stmt := top 33
abbrev N_bracket_at : List Str := ["tokens", "at", "depth", "question"]
theorem sc_bracket_at : FnScope ["tokens", "at", "depth", "question"] ["tokens", "at", "depth"] (defScope s_bracket_at) := ⟨rfl, rfl, rfl, by decide +kernel, rfl, by decide +kernel, by decide +kernel⟩
abbrev s_fault_at : Stmt := top 34
abbrev N_fault_at : List Str := ["tokens", "at"]
theorem sc_fault_at : FnScope ["tokens", "at"] ["tokens", "at"] (defScope s_fault_at) := ⟨rfl, rfl, rfl, by decide +kernel, rfl, by decide +kernel, by decide +kernel⟩
abbrev s_is_sign : Stmt := top 35
abbrev N_is_sign : List Str := ["tokens", "at", "signs"]
theorem sc_is_sign : FnScope ["tokens", "at", "signs"] ["tokens", "at", "signs"] (defScope s_is_sign) := ⟨rfl, rfl, rfl, by decide +kernel, rfl, by decide +kernel, by decide +kernel⟩
abbrev s_is_pattern : Stmt := top 36
abbrev N_is_pattern : List Str := ["tokens", "at"]
theorem sc_is_pattern : FnScope ["tokens", "at"] ["tokens", "at"] (defScope s_is_pattern) := ⟨rfl, rfl, rfl, by decide +kernel, rfl, by decide +kernel, by decide +kernel⟩
abbrev s_is_digit : Stmt := top 37
abbrev N_is_digit : List Str := ["tokens", "at"]
theorem sc_is_digit : FnScope ["tokens", "at"] ["tokens", "at"] (defScope s_is_digit) := ⟨rfl, rfl, rfl, by decide +kernel, rfl, by decide +kernel, by decide +kernel⟩
abbrev s__law_cell : Stmt := top 39
abbrev N__law_cell : List Str := ["script", "k"]
theorem sc__law_cell : FnScope ["script", "k"] ["script", "k"] (defScope s__law_cell) := ⟨rfl, rfl, rfl, by decide +kernel, rfl, by decide +kernel, by decide +kernel⟩
abbrev s__law_digits : Stmt := top 40
abbrev N__law_digits : List Str := ["script", "first", "last", "digits", "k", "cell", "turn", "seed"]
theorem sc__law_digits : FnScope ["script", "first", "last", "digits", "k", "cell", "turn", "seed"] ["script", "first", "last"] (defScope s__law_digits) := ⟨rfl, rfl, rfl, by decide +kernel, rfl, by decide +kernel, by decide +kernel⟩
abbrev s__law_draw : Stmt := top 41
abbrev N__law_draw : List Str := ["box", "many", "at"]
theorem sc__law_draw : FnScope ["box", "many", "at"] ["box", "many"] (defScope s__law_draw) := ⟨rfl, rfl, rfl, by decide +kernel, rfl, by decide +kernel, by decide +kernel⟩
abbrev s__law_same : Stmt := top 42
abbrev N__law_same : List Str := ["actual", "due", "k"]
theorem sc__law_same : FnScope ["actual", "due", "k"] ["actual", "due"] (defScope s__law_same) := ⟨rfl, rfl, rfl, by decide +kernel, rfl, by decide +kernel, by decide +kernel⟩
abbrev s__law_word : Stmt := top 43
abbrev N__law_word : List Str := ["box", "kind", "word", "k"]
theorem sc__law_word : FnScope ["box", "kind", "word", "k"] ["box"] (defScope s__law_word) := ⟨rfl, rfl, rfl, by decide +kernel, rfl, by decide +kernel, by decide +kernel⟩
abbrev s__law_pattern : Stmt := top 44
abbrev N__law_pattern : List Str := ["box"]
theorem sc__law_pattern : FnScope ["box"] ["box"] (defScope s__law_pattern) := ⟨rfl, rfl, rfl, by decide +kernel, rfl, by decide +kernel, by decide +kernel⟩
abbrev s__law_question : Stmt := top 45
abbrev N__law_question : List Str := ["box", "depth", "simple", "k", "kind", "many", "gap", "parts"]
theorem sc__law_question : FnScope ["box", "depth", "simple", "k", "kind", "many", "gap", "parts"] ["box", "depth", "simple"] (defScope s__law_question) := ⟨rfl, rfl, rfl, by decide +kernel, rfl, by decide +kernel, by decide +kernel⟩
abbrev s__law_pattern_text : Stmt := top 46
abbrev N__law_pattern_text : List Str := ["pattern"]
theorem sc__law_pattern_text : FnScope ["pattern"] ["pattern"] (defScope s__law_pattern_text) := ⟨rfl, rfl, rfl, by decide +kernel, rfl, by decide +kernel, by decide +kernel⟩
abbrev s__law_row_texts : Stmt := top 47
abbrev N__law_row_texts : List Str := ["row", "pattern", "texts"]
theorem sc__law_row_texts : FnScope ["row", "pattern", "texts"] ["row"] (defScope s__law_row_texts) := ⟨rfl, rfl, rfl, by decide +kernel, rfl, by decide +kernel, by decide +kernel⟩
abbrev s__law_around : Stmt := top 48
abbrev N__law_around : List Str := ["question", "kinds"]
theorem sc__law_around : FnScope ["question", "kinds"] ["question", "kinds"] (defScope s__law_around) := ⟨rfl, rfl, rfl, by decide +kernel, rfl, by decide +kernel, by decide +kernel⟩
abbrev s__law_texts : Stmt := top 49
abbrev N__law_texts : List Str := ["question", "texts", "k"]
theorem sc__law_texts : FnScope ["question", "texts", "k"] ["question"] (defScope s__law_texts) := ⟨rfl, rfl, rfl, by decide +kernel, rfl, by decide +kernel, by decide +kernel⟩
abbrev s__law_size : Stmt := top 50
abbrev N__law_size : List Str := ["question", "part"]
theorem sc__law_size : FnScope ["question", "part"] ["question"] (defScope s__law_size) := ⟨rfl, rfl, rfl, by decide +kernel, rfl, by decide +kernel, by decide +kernel⟩
abbrev s__law_depth : Stmt := top 51
abbrev N__law_depth : List Str := ["texts", "depth", "most", "text"]
theorem sc__law_depth : FnScope ["texts", "depth", "most", "text"] ["texts"] (defScope s__law_depth) := ⟨rfl, rfl, rfl, by decide +kernel, rfl, by decide +kernel, by decide +kernel⟩
abbrev s__law_row : Stmt := top 52
abbrev N__law_row : List Str := ["row", "pattern", "texts"]
theorem sc__law_row : FnScope ["row", "pattern", "texts"] ["row"] (defScope s__law_row) := ⟨rfl, rfl, rfl, by decide +kernel, rfl, by decide +kernel, by decide +kernel⟩
abbrev s__law_inside : Stmt := top 53
abbrev N__law_inside : List Str := ["question", "kinds"]
theorem sc__law_inside : FnScope ["question", "kinds"] ["question", "kinds"] (defScope s__law_inside) := ⟨rfl, rfl, rfl, by decide +kernel, rfl, by decide +kernel, by decide +kernel⟩
abbrev s__law_written : Stmt := top 54
abbrev N__law_written : List Str := ["question", "part"]
theorem sc__law_written : FnScope ["question", "part"] ["question"] (defScope s__law_written) := ⟨rfl, rfl, rfl, by decide +kernel, rfl, by decide +kernel, by decide +kernel⟩
abbrev s_law : Stmt := top 55
abbrev N_law : List Str := ["script", "box", "question", "text", "wrong"]
theorem sc_law : FnScope ["script", "box", "question", "text", "wrong"] ["script"] (defScope s_law) := ⟨rfl, rfl, rfl, by decide +kernel, rfl, by decide +kernel, by decide +kernel⟩
abbrev s_QuestionFault : Stmt := inClass (top 7) 0
theorem sc_QuestionFault : FnScope ["self", "place", "word"] ["self", "place", "word"] (defScope s_QuestionFault) := ⟨rfl, rfl, rfl, by decide +kernel, rfl, by decide +kernel, by decide +kernel⟩
structure Txt (K : PySem.W.Frag) (mg : Str → Option Value) (A : Nat → Addr) (D : Nat → FuncData) : Prop where
  F_write_question : Fun K "write_question" "write_question" s_write_question (A 0) (D 0)
  b_write_question : Binds K (D 0) ["question"] []
  m_write_question : mg "write_question" = some (.ref (A 0))
  F_part_text : Fun K "part_text" "part_text" s_part_text (A 1) (D 1)
  b_part_text : Binds K (D 1) ["question", "bracketed"] []
  m_part_text : mg "part_text" = some (.ref (A 1))
  F_row_text : Fun K "row_text" "row_text" s_row_text (A 2) (D 2)
  b_row_text : Binds K (D 2) ["patterns", "gap"] []
  m_row_text : mg "row_text" = some (.ref (A 2))
  F_pattern_text : Fun K "pattern_text" "pattern_text" s_pattern_text (A 3) (D 3)
  b_pattern_text : Binds K (D 3) ["pattern"] []
  m_pattern_text : mg "pattern_text" = some (.ref (A 3))
  F_tokens_of : Fun K "tokens_of" "tokens_of" s_tokens_of (A 4) (D 4)
  b_tokens_of : Binds K (D 4) ["text"] []
  m_tokens_of : mg "tokens_of" = some (.ref (A 4))
  F_token_at : Fun K "token_at" "token_at" s_token_at (A 5) (D 5)
  b_token_at : Binds K (D 5) ["text", "at"] []
  m_token_at : mg "token_at" = some (.ref (A 5))
  F_end_of_run : Fun K "end_of_run" "end_of_run" s_end_of_run (A 6) (D 6)
  b_end_of_run : Binds K (D 6) ["text", "at"] []
  m_end_of_run : mg "end_of_run" = some (.ref (A 6))
  F_read_question : Fun K "read_question" "read_question" s_read_question (A 7) (D 7)
  b_read_question : Binds K (D 7) ["text"] []
  m_read_question : mg "read_question" = some (.ref (A 7))
  F_size : Fun K "size" "size" s_size (A 8) (D 8)
  b_size : Binds K (D 8) ["question"] []
  m_size : mg "size" = some (.ref (A 8))
  F_questions_in : Fun K "questions_in" "questions_in" s_questions_in (A 9) (D 9)
  b_questions_in : Binds K (D 9) ["question"] []
  m_questions_in : mg "questions_in" = some (.ref (A 9))
  F_parts_of : Fun K "parts_of" "parts_of" s_parts_of (A 10) (D 10)
  b_parts_of : Binds K (D 10) ["question"] []
  m_parts_of : mg "parts_of" = some (.ref (A 10))
  F_whole_question : Fun K "whole_question" "whole_question" s_whole_question (A 11) (D 11)
  b_whole_question : Binds K (D 11) ["tokens"] []
  m_whole_question : mg "whole_question" = some (.ref (A 11))
  F_question_at : Fun K "question_at" "question_at" s_question_at (A 12) (D 12)
  b_question_at : Binds K (D 12) ["tokens", "at", "depth"] []
  m_question_at : mg "question_at" = some (.ref (A 12))
  F_alternative_at : Fun K "alternative_at" "alternative_at" s_alternative_at (A 13) (D 13)
  b_alternative_at : Binds K (D 13) ["tokens", "at", "depth"] []
  m_alternative_at : mg "alternative_at" = some (.ref (A 13))
  F_made_of : Fun K "made_of" "made_of" s_made_of (A 14) (D 14)
  b_made_of : Binds K (D 14) ["kind", "questions"] []
  m_made_of : mg "made_of" = some (.ref (A 14))
  F_begins_clause : Fun K "begins_clause" "begins_clause" s_begins_clause (A 15) (D 15)
  b_begins_clause : Binds K (D 15) ["tokens", "at"] []
  m_begins_clause : mg "begins_clause" = some (.ref (A 15))
  F_clause_at : Fun K "clause_at" "clause_at" s_clause_at (A 16) (D 16)
  b_clause_at : Binds K (D 16) ["tokens", "at", "depth"] []
  m_clause_at : mg "clause_at" = some (.ref (A 16))
  F_plain_clause_at : Fun K "plain_clause_at" "plain_clause_at" s_plain_clause_at (A 17) (D 17)
  b_plain_clause_at : Binds K (D 17) ["tokens", "at", "depth"] []
  m_plain_clause_at : mg "plain_clause_at" = some (.ref (A 17))
  F_gap_at : Fun K "gap_at" "gap_at" s_gap_at (A 18) (D 18)
  b_gap_at : Binds K (D 18) ["tokens", "at"] []
  m_gap_at : mg "gap_at" = some (.ref (A 18))
  F_row_at : Fun K "row_at" "row_at" s_row_at (A 19) (D 19)
  b_row_at : Binds K (D 19) ["tokens", "at", "gap", "closing"] []
  m_row_at : mg "row_at" = some (.ref (A 19))
  F_bracket_at : Fun K "bracket_at" "bracket_at" s_bracket_at (A 20) (D 20)
  b_bracket_at : Binds K (D 20) ["tokens", "at", "depth"] []
  m_bracket_at : mg "bracket_at" = some (.ref (A 20))
  F_fault_at : Fun K "fault_at" "fault_at" s_fault_at (A 21) (D 21)
  b_fault_at : Binds K (D 21) ["tokens", "at"] []
  m_fault_at : mg "fault_at" = some (.ref (A 21))
  F_is_sign : Fun K "is_sign" "is_sign" s_is_sign (A 22) (D 22)
  b_is_sign : Binds K (D 22) ["tokens", "at", "signs"] []
  m_is_sign : mg "is_sign" = some (.ref (A 22))
  F_is_pattern : Fun K "is_pattern" "is_pattern" s_is_pattern (A 23) (D 23)
  b_is_pattern : Binds K (D 23) ["tokens", "at"] []
  m_is_pattern : mg "is_pattern" = some (.ref (A 23))
  F_is_digit : Fun K "is_digit" "is_digit" s_is_digit (A 24) (D 24)
  b_is_digit : Binds K (D 24) ["tokens", "at"] []
  m_is_digit : mg "is_digit" = some (.ref (A 24))
  F__law_cell : Fun K "_law_cell" "_law_cell" s__law_cell (A 25) (D 25)
  b__law_cell : Binds K (D 25) ["script", "k"] []
  m__law_cell : mg "_law_cell" = some (.ref (A 25))
  F__law_digits : Fun K "_law_digits" "_law_digits" s__law_digits (A 26) (D 26)
  b__law_digits : Binds K (D 26) ["script", "first", "last"] []
  m__law_digits : mg "_law_digits" = some (.ref (A 26))
  F__law_draw : Fun K "_law_draw" "_law_draw" s__law_draw (A 27) (D 27)
  b__law_draw : Binds K (D 27) ["box", "many"] []
  m__law_draw : mg "_law_draw" = some (.ref (A 27))
  F__law_same : Fun K "_law_same" "_law_same" s__law_same (A 28) (D 28)
  b__law_same : Binds K (D 28) ["actual", "due"] []
  m__law_same : mg "_law_same" = some (.ref (A 28))
  F__law_word : Fun K "_law_word" "_law_word" s__law_word (A 29) (D 29)
  b__law_word : Binds K (D 29) ["box"] []
  m__law_word : mg "_law_word" = some (.ref (A 29))
  F__law_pattern : Fun K "_law_pattern" "_law_pattern" s__law_pattern (A 30) (D 30)
  b__law_pattern : Binds K (D 30) ["box"] []
  m__law_pattern : mg "_law_pattern" = some (.ref (A 30))
  F__law_question : Fun K "_law_question" "_law_question" s__law_question (A 31) (D 31)
  b__law_question : Binds K (D 31) ["box", "depth", "simple"] []
  m__law_question : mg "_law_question" = some (.ref (A 31))
  F__law_pattern_text : Fun K "_law_pattern_text" "_law_pattern_text" s__law_pattern_text (A 32) (D 32)
  b__law_pattern_text : Binds K (D 32) ["pattern"] []
  m__law_pattern_text : mg "_law_pattern_text" = some (.ref (A 32))
  F__law_row_texts : Fun K "_law_row_texts" "_law_row_texts" s__law_row_texts (A 33) (D 33)
  b__law_row_texts : Binds K (D 33) ["row"] []
  m__law_row_texts : mg "_law_row_texts" = some (.ref (A 33))
  F__law_around : Fun K "_law_around" "_law_around" s__law_around (A 34) (D 34)
  b__law_around : Binds K (D 34) ["question", "kinds"] []
  m__law_around : mg "_law_around" = some (.ref (A 34))
  F__law_texts : Fun K "_law_texts" "_law_texts" s__law_texts (A 35) (D 35)
  b__law_texts : Binds K (D 35) ["question"] []
  m__law_texts : mg "_law_texts" = some (.ref (A 35))
  F__law_size : Fun K "_law_size" "_law_size" s__law_size (A 36) (D 36)
  b__law_size : Binds K (D 36) ["question"] []
  m__law_size : mg "_law_size" = some (.ref (A 36))
  F__law_depth : Fun K "_law_depth" "_law_depth" s__law_depth (A 37) (D 37)
  b__law_depth : Binds K (D 37) ["texts"] []
  m__law_depth : mg "_law_depth" = some (.ref (A 37))
  F__law_row : Fun K "_law_row" "_law_row" s__law_row (A 38) (D 38)
  b__law_row : Binds K (D 38) ["row"] []
  m__law_row : mg "_law_row" = some (.ref (A 38))
  F__law_inside : Fun K "_law_inside" "_law_inside" s__law_inside (A 39) (D 39)
  b__law_inside : Binds K (D 39) ["question", "kinds"] []
  m__law_inside : mg "_law_inside" = some (.ref (A 39))
  F__law_written : Fun K "_law_written" "_law_written" s__law_written (A 40) (D 40)
  b__law_written : Binds K (D 40) ["question"] []
  m__law_written : mg "_law_written" = some (.ref (A 40))
  F_law : Fun K "law" "law" s_law (A 41) (D 41)
  b_law : Binds K (D 41) ["script"] []
  m_law : mg "law" = some (.ref (A 41))
  c_SMALL : ∃ t, mg "SMALL" = some (.str "0123456789abcdefghijklmnopqrstuvwxyz" t)
  c_LONGEST : ∃ t, mg "LONGEST" = some (.int 12 t)
  c_SIGNS : ∃ t, mg "SIGNS" = some (.str "*\"<>()|-@" t)
  c_DIGITS : ∃ t, mg "DIGITS" = some (.str "0123456789" t)
  c_MOST_PATTERNS : ∃ t, mg "MOST_PATTERNS" = some (.int 6 t)
  c_MOST_BRACKETS : ∃ t, mg "MOST_BRACKETS" = some (.int 6 t)
  c_LARGEST_SIZE : ∃ t, mg "LARGEST_SIZE" = some (.int 24 t)
  gC_QuestionFault : mg "QuestionFault" = some (.ref (A 101))
  ox_QuestionFault : OexC K (A 101)
  iC_QuestionFault : PySem.W.findIn K (.ref (A 101)) "__init__" = some (some (.ref (A 201)))
  tI_QuestionFault : PySem.W.typeIn K (.ref (A 201)) = some (.type "function")
  F_QuestionFault : Fun K "__init__" "QuestionFault.__init__" (inClass (top 7) 0) (A 201) (D 201)
  b_QuestionFault : Binds K (D 201) ["self", "place", "word"] []
  xf_QuestionFault : XfC K (A 101)
  no_QuestionFault_place : PySem.W.findIn K (.ref (A 101)) "place" = some none
  no_QuestionFault_word : PySem.W.findIn K (.ref (A 101)) "word" = some none
  te_QuestionFault : PySem.W.exmOne K (.ref (A 101)) (.ref (A 101)) = some true
  z_bool : mg "bool" = none
  z_int : mg "int" = none
  z_isinstance : mg "isinstance" = none
  z_len : mg "len" = none
  z_list : mg "list" = none
  z_max : mg "max" = none
  z_range : mg "range" = none
  z_str : mg "str" = none
  z_sum : mg "sum" = none
  z_tuple : mg "tuple" = none
/-! ### what all laws share: cells, digits, draws -/
theorem same_upd {H H' : Hp} {p : Addr} {o : HO} (h : Same H H') (hp : H p = none) : Same H (upd H' p o) := fun b u q => by
  rw [upd_ne (ne_of_none q hp)]; exact h b u q
theorem same_new {H : Hp} {p : Addr} {o : HO} (h : H p = none) : Same H (upd H p o) := same_upd (Same.refl H) h
def yCell (K : PySem.W.Frag) : Sp := fun vs H Q _ => ∃ (l : Addr) (ns : List Int) (k : Nat), vs = [.ref l, .int (k : Int)] ∧ SqL K H l (ns.map V.int) ∧ ∀ z : Int, Q (.int z) H
theorem at_ints {ns : List Int} {k : Nat} (h : k < ns.length) : atI (ns.map V.int) (k : Int) = some (.int (ns.getD k 0)) := by
  apply atI_nat
  rw [List.getElem?_map, List.getElem?_eq_getElem h, List.getD_eq_getElem?_getD, List.getElem?_eq_getElem h]
  rfl
section
variable {P : Program} {w : World} {K : PySem.W.Frag} {mg : Str → Option Value} {base : Heap} {A : Nat → Addr} {D : Nat → FuncData}
theorem ok_cell (T : Txt K mg A D) : FnOk P w K mg base CX0 1 (A 25) (D 25) ["script", "k"] (yCell K) := by
  refine T.F__law_cell.ok sc__law_cell (fun vs H Q E h => ?_) (fun cdv A' outer s H vs Q E hr h => ?_)
  · obtain ⟨l, ns, k, rfl, _⟩ := h; rfl
  obtain ⟨l, ns, k, rfl, hS, q⟩ := h
  refine ⟨_, (pss_cons (ps_if (pt_cmpR op_lt (pv 1) (pe_callB call_len_seq rfl T.z_len PySem.boot_len (pa_cons (pv 0) pa_nil)) (nomark _)) (pss_one (ps_ret (pe_ix (r := rIxL K) ix_list (pv 0) (pv 1) (fun _ _ => rfl)))) pss_nil) (pss_one (ps_ret pe_int))), ?_⟩
  refine ⟨_, rfl, _, rfl, l, _, rfl, .inl hS, _, _, rfl, rfl, _, rfl, ?_⟩
  refine ite2 (fun c => ?_) (fun c => ?_)
  · have c' : (k : Int) < (((ns.map V.int).length : Nat) : Int) := of_decide_eq_true c
    rw [List.length_map] at c'
    exact ⟨_, rfl, _, rfl, l, _, _, _, rfl, rfl, hS, at_ints (by omega), q _⟩
  · exact q 0
def yDigits (K : PySem.W.Frag) : Sp := fun vs H Q _ => ∃ (l : Addr) (ns : List Int), vs = [.ref l, .int 0, .int 63] ∧ SqL K H l (ns.map V.int) ∧
  ∀ (p : Addr) (ds : List Int) (H' : Hp), Same H H' → H p = none → H' p = some (.lst (ds.map V.int)) → ds.length ≤ 3780 → Q (.ref p) H'
theorem len_lt {n : Nat} (h : n ≤ 1000000) : n < sizeLine := Nat.lt_of_le_of_lt h (by decide)
theorem app_map {ds : List Int} {z : Int} : ds.map V.int ++ [V.int z] = (ds ++ [z]).map V.int := by rw [List.map_append]; rfl
theorem ok_digits (T : Txt K mg A D) : FnOk P w K mg base CX0 2 (A 26) (D 26) ["script", "first", "last"] (yDigits K) := by
  refine T.F__law_digits.ok sc__law_digits (fun vs H Q E h => ?_) (fun cdv A' outer s H vs Q E hr h => ?_)
  · obtain ⟨l, ns, rfl, _⟩ := h; rfl
  obtain ⟨l, ns, rfl, hS, q⟩ := h
  have G__law_cell := ok_cell (P := P) (w := w) (base := base) T
  have hnd := sc__law_digits.nd
  refine ⟨_, (pss_cons (ps_set (i := 3) hnd rfl (Or.inl rfl) (pe_lst pa_nil)) (pss_cons (ps_for PassesOwn.never rfl (pi_range2 rfl T.z_range (pa_cons (pv 1) (pa_cons (pv 2) pa_nil))) (pg_name (i := 4) hnd rfl (Or.inl rfl)) (pss_cons (ps_set (i := 5) hnd rfl (Or.inl rfl) (pe_call G__law_cell (hr.mono (by first | decide | omega)) rfl T.m__law_cell T.F__law_cell.kp T.b__law_cell .nil pass0 (pa_cons (pv 0) (pa_cons (pv 4) pa_nil)))) (pss_cons (ps_if (pt_cmpR op_lt (pv 5) pe_int (nomark _)) (pss_one (ps_set (i := 5) hnd rfl (Or.inl rfl) (pe_op op_sub pe_int (pe_op op_mul pe_int (pv 5))))) pss_nil) (pss_one (ps_if (pt_cmpR op_ge (pv 5) (pe_op op_pow pe_int pe_int) (nomark _)) (pss_one (ps_for PassesOwn.never rfl (pi_range1 rfl T.z_range (pa_cons pe_int pa_nil)) (pg_name (i := 6) hnd rfl (Or.inl rfl)) (pss_one (ps_if (pt_cmpR op_gt (pv 5) pe_int (nomark _)) (pss_cons (ps_expr (pe_bm PySem.F.plainAttrs_list PySem.F.slot_list_append PySem.F.type_list_append mt_append (pv 3) (pa_cons (pe_op op_mod (pe_callTy call_int1 rfl T.z_int (by decide +kernel) (pa_cons (pv 5) pa_nil)) pe_int) pa_nil))) (pss_one (ps_set (i := 5) hnd rfl (Or.inl rfl) (pe_op op_fdiv (pv 5) pe_int)))) pss_nil)))) (pss_cons (ps_set (i := 7) hnd rfl (Or.inl rfl) (pe_op op_mod (pe_callTy call_int1 rfl T.z_int (by decide +kernel) (pa_cons (pe_op op_add (pe_op op_add (pe_op op_mul (pv 5) pe_int) (pe_op op_mul (pv 4) pe_int)) pe_int) pa_nil)) pe_int)) (pss_one (ps_for PassesOwn.never rfl (pi_range1 rfl T.z_range (pa_cons pe_int pa_nil)) (pg_name (i := 6) hnd rfl (Or.inl rfl)) (pss_cons (ps_set (i := 7) hnd rfl (Or.inl rfl) (pe_op op_mod (pe_callTy call_int1 rfl T.z_int (by decide +kernel) (pa_cons (pe_op op_add (pe_op op_add (pe_op op_mul (pv 7) pe_int) (pe_op op_mul pe_int (pv 6))) pe_int) pa_nil)) pe_int)) (pss_one (ps_expr (pe_bm PySem.F.plainAttrs_list PySem.F.slot_list_append PySem.F.type_list_append mt_append (pv 3) (pa_cons (pe_op op_mod (pe_callTy call_int1 rfl T.z_int (by decide +kernel) (pa_cons (pe_op op_fdiv (pv 7) pe_int) pa_nil)) pe_int) pa_nil))))))))))))) (pss_one (ps_ret (pv 3))))), ?_⟩
  refine ⟨(by decide), fun p hp => ?_⟩
  have sH := fun o => same_new (o := o) hp
  refine ⟨_, rfl, _, rfl, (0 : Int), (63 : Int), rfl, (by decide), ?_⟩
  refine for_range (lo := 0) (n := 63) (fun i σ H' => ∃ (ds : List Int) (c4 c5 c6 c7 : Option V), σ = [some (.ref l), some (.int 0), some (.int 63), some (.ref p), c4, c5, c6, c7] ∧ Same H H' ∧ H' p = some (.lst (ds.map V.int)) ∧ ds.length ≤ 60 * i)
    ⟨[], none, none, none, none, rfl, sH _, upd_same, Nat.zero_le _⟩ ?_ ?_
  · rintro i σ H1 hi ⟨ds, c4, c5, c6, c7, rfl, s1, hd, hl⟩
    refine ⟨_, rfl, _, rfl, l, ns, i, (by rw [Int.zero_add]; rfl), s1.seq hS, fun z => ?_⟩
    refine ⟨_, rfl, _, _, rfl, rfl, _, rfl, ?_⟩
    refine ite2 (fun c => ?_) (fun c => ?_)
    refine ⟨_, rfl, _, _, rfl, rfl, .inl ⟨by decide, by decide⟩, _, _, rfl, rfl, ?_⟩
    all_goals
      refine ⟨_, rfl, _, _, rfl, rfl, ⟨by decide, by decide, by decide⟩, _, _, rfl, rfl, _, rfl, ?_⟩
      refine ite2 (fun _ => ?_) (fun _ => ?_)
      · refine ⟨_, rfl, by decide, by decide, for_range (n := 60) (fun t σ H' => ∃ (ds : List Int) (c : Int) (c6 : Option V), σ = [some (.ref l), some (.int 0), some (.int 63), some (.ref p), some (.int (0 + (i : Int))), some (.int c), c6, c7] ∧ Same H H' ∧ H' p = some (.lst (ds.map V.int)) ∧ ds.length ≤ 60 * i + t)
          ⟨ds, _, c6, rfl, s1, hd, by omega⟩ ?_ ?_⟩
        · rintro t σ H2 ht ⟨ds2, c, c6, rfl, s2, hd2, hl2⟩
          refine ⟨_, rfl, _, _, rfl, rfl, _, rfl, ?_⟩
          refine ite2 (fun _ => ?_) (fun _ => ?_)
          · refine ⟨_, rfl, .inl ⟨rfl, _, SqL.of hd2⟩, _, rfl, .inl ⟨_, rfl, _, _, rfl, rfl, (by show (0 : Int) < _; decide), _, _, _, rfl, rfl, hd2, (by rw [List.length_map]; exact len_lt (by omega)), ?_⟩⟩
            refine ⟨_, rfl, _, _, rfl, rfl, ⟨by decide, by decide⟩, ?_⟩
            exact ⟨_, _, _, rfl, same_upd s2 hp, by rw [upd_same, app_map], by rw [List.length_append]; simp only [List.length_singleton]; omega⟩
          · exact ⟨_, _, _, rfl, s2, hd2, by omega⟩
        · rintro σ H2 ⟨ds2, c, c6, rfl, s2, hd2, hl2⟩
          exact ⟨_, _, _, _, _, rfl, s2, hd2, by omega⟩
      · refine ⟨_, rfl, _, _, rfl, rfl, .inr ⟨by decide, by decide⟩, _, rfl, _, _, rfl, rfl, .inr ⟨by decide, by decide⟩, _, _, rfl, rfl, _, _, rfl, rfl, .inl ⟨_, rfl, _, _, rfl, rfl, (by show (0 : Int) < _; decide), ?_⟩⟩
        refine ⟨_, rfl, by decide, by decide, for_range (n := 12) (fun t σ H' => ∃ (ds : List Int) (c : Int) (c5 c6 : Option V), σ = [some (.ref l), some (.int 0), some (.int 63), some (.ref p), some (.int (0 + (i : Int))), c5, c6, some (.int c)] ∧ Same H H' ∧ H' p = some (.lst (ds.map V.int)) ∧ ds.length ≤ 60 * i + t)
          ⟨ds, _, _, _, rfl, s1, hd, by omega⟩ ?_ ?_⟩
        · rintro t σ H2 ht ⟨ds2, c, c5, c6, rfl, s2, hd2, hl2⟩
          refine ⟨_, rfl, _, _, rfl, rfl, .inr ⟨by decide, by decide⟩, _, rfl, _, _, rfl, rfl, .inl ⟨by decide, by decide⟩, _, _, rfl, rfl, _, _, rfl, rfl, .inl ⟨_, rfl, _, _, rfl, rfl, (by show (0 : Int) < _; decide), ?_⟩⟩
          refine ⟨_, rfl, .inl ⟨rfl, _, SqL.of hd2⟩, _, rfl, _, _, rfl, rfl, ⟨by decide, by decide⟩, .inl ⟨_, rfl, _, _, rfl, rfl, (by show (0 : Int) < _; decide), _, _, _, rfl, rfl, hd2, (by rw [List.length_map]; exact len_lt (by omega)), ?_⟩⟩
          exact ⟨_, _, _, _, rfl, same_upd s2 hp, by rw [upd_same, app_map], by rw [List.length_append]; simp only [List.length_singleton]; omega⟩
        · rintro σ H2 ⟨ds2, c, c5, c6, rfl, s2, hd2, hl2⟩
          exact ⟨_, _, _, _, _, rfl, s2, hd2, by omega⟩
  · rintro σ H1 ⟨ds, c4, c5, c6, c7, rfl, s1, hd, hl⟩
    exact ⟨_, rfl, q p ds H1 s1 hp hd (by omega)⟩
end

/-- all but the object at b stand as before -/
def Kp (b : Addr) (H H' : Hp) : Prop := ∀ c o, H c = some o → c ≠ b → H' c = some o
theorem Kp.refl (b : Addr) (H : Hp) : Kp b H H := fun _ _ h _ => h
theorem Kp.trans {b : Addr} {H H1 H2 : Hp} (a : Kp b H H1) (c : Kp b H1 H2) : Kp b H H2 := fun x o h n => c x o (a x o h n) n
theorem Kp.upd {b : Addr} {H H' : Hp} {o : HO} (a : Kp b H H') : Kp b H (upd H' b o) := fun x u h n => by rw [upd_ne n]; exact a x u h n
theorem Kp.of {b : Addr} {H H' : Hp} (a : Same H H') : Kp b H H' := fun x o h _ => a x o h
/-- the box of draws: its digits at p, the place -/
def BoxAt (H : Hp) (b p : Addr) : Prop := ∃ (ns : List Int) (n : Nat), H b = some (.lst [.ref p, .int (n : Int)]) ∧ H p = some (.lst (ns.map V.int))
theorem BoxAt.keep {H H' : Hp} {b p : Addr} (h : BoxAt H b p) (k : Same H H') : BoxAt H' b p := by
  obtain ⟨ns, n, h1, h2⟩ := h
  exact ⟨ns, n, k _ _ h1, k _ _ h2⟩
theorem BoxAt.ne {H : Hp} {b p d : Addr} (h : BoxAt H b p) (hd : H d = none) : d ≠ b ∧ d ≠ p := by
  obtain ⟨ns, n, h1, h2⟩ := h
  exact ⟨fun e => (by rw [e, h1] at hd; cases hd), fun e => (by rw [e, h2] at hd; cases hd)⟩
theorem BoxAt.updO {H : Hp} {b p d : Addr} {o : HO} (h : BoxAt H b p) (n1 : d ≠ b) (n2 : d ≠ p) : BoxAt (upd H d o) b p := by
  obtain ⟨ns, n, h1, h2⟩ := h
  exact ⟨ns, n, by rw [upd_ne n1.symm]; exact h1, by rw [upd_ne n2.symm]; exact h2⟩
/-- tuples stand as before -/
def TK (H H' : Hp) : Prop := ∀ c u, (∃ xs, u = .tup xs) → Rd H c u → Rd H' c u
theorem TK.refl (H : Hp) : TK H H := fun _ _ _ h => h
theorem TK.trans {H H1 H2 : Hp} (a : TK H H1) (b : TK H1 H2) : TK H H2 := fun c u h r => b c u h (a c u h r)
theorem TK.same {H H' : Hp} (a : Same H H') : TK H H' := fun c u _ r => by
  rcases r with r | ⟨o, r⟩
  · exact .inl (a _ _ r)
  · exact .inr ⟨o, a _ _ r⟩
theorem TK.kp {b : Addr} {H H' : Hp} {xs : List V} (a : Kp b H H') (h : H b = some (.lst xs)) : TK H H' := fun c u ⟨ys, e⟩ r => by
  subst e
  have hn : c ≠ b := fun z => by subst z; rcases r with r | ⟨o, r⟩ <;> (rw [h] at r; cases r)
  rcases r with r | ⟨o, r⟩
  · exact .inl (a _ _ r hn)
  · exact .inr ⟨o, a _ _ r hn⟩
theorem TK.box {b p : Addr} {H H' : Hp} (h : BoxAt H b p) (a : Kp b H H') : TK H H' := by
  obtain ⟨ns, n, h1, h2⟩ := h
  exact TK.kp a h1
theorem TK.updL {H H' : Hp} {b : Addr} {xs ys : List V} (a : TK H H') (h : H' b = some (.lst xs)) : TK H (upd H' b (.lst ys)) :=
  a.trans (TK.kp (Kp.upd (Kp.refl b H')) h)
theorem TK.new {H H' : Hp} {b : Addr} {o : HO} (a : TK H H') (h : H' b = none) : TK H (upd H' b o) := a.trans (TK.same (same_new h))
theorem TK.seq {K : PySem.W.Frag} {H H' : Hp} (k : TK H H') {a : Addr} {xs : List V} (h : SqT K H a xs) : SqT K H' a xs := by
  rcases h with h | h
  · exact .inl (k _ _ ⟨_, rfl⟩ h)
  · exact .inr h
/-- data without lists -/
inductive Imm : PyData → Prop
  | non : Imm .none
  | bl (b : Bool) : Imm (.bool b)
  | int (i : Int) : Imm (.int i)
  | str (x : Str) : Imm (.str x)
  | tup {ds : List PyData} : (∀ d ∈ ds, Imm d) → Imm (.tuple ds)
mutual
theorem Dp.keep {K : PySem.W.Frag} {H H' : Hp} (k : TK H H') : ∀ {v : V} {d : PyData}, Dp K H v d → Imm d → Dp K H' v d
  | _, _, .non, _ => .non
  | _, _, .bl b, _ => .bl b
  | _, _, .int i, _ => .int i
  | _, _, .str x, _ => .str x
  | _, _, .lst h a, i => nomatch i
  | _, _, .tup h a, i => .tup (k.seq h) (DpAll.keep k a (match i with | .tup j => j))
theorem DpAll.keep {K : PySem.W.Frag} {H H' : Hp} (k : TK H H') : ∀ {vs : List V} {ds : List PyData}, DpAll K H vs ds → (∀ d ∈ ds, Imm d) → DpAll K H' vs ds
  | _, _, .nil, _ => .nil
  | _, _, .cons a b, i => .cons (Dp.keep k a (i _ List.mem_cons_self)) (DpAll.keep k b fun d hd => i d (List.mem_cons_of_mem _ hd))
end
mutual
theorem Dp.same {K : PySem.W.Frag} {H H' : Hp} (k : Same H H') : ∀ {v : V} {d : PyData}, Dp K H v d → Dp K H' v d
  | _, _, .non => .non
  | _, _, .bl b => .bl b
  | _, _, .int i => .int i
  | _, _, .str x => .str x
  | _, _, .lst h a => .lst (k.seq h) (DpAll.same k a)
  | _, _, .tup h a => .tup ((TK.same k).seq h) (DpAll.same k a)
theorem DpAll.same {K : PySem.W.Frag} {H H' : Hp} (k : Same H H') : ∀ {vs : List V} {ds : List PyData}, DpAll K H vs ds → DpAll K H' vs ds
  | _, _, .nil => .nil
  | _, _, .cons a b => .cons (Dp.same k a) (DpAll.same k b)
end
theorem DpAll.len {K : PySem.W.Frag} {H : Hp} : ∀ {vs : List V} {ds : List PyData}, DpAll K H vs ds → vs.length = ds.length
  | _, _, .nil => rfl
  | _, _, .cons a b => by rw [List.length_cons, List.length_cons, DpAll.len b]
theorem DpAll.get {K : PySem.W.Frag} {H : Hp} : ∀ {vs : List V} {ds : List PyData}, DpAll K H vs ds → ∀ {i : Nat} {d : PyData}, ds[i]? = some d → ∃ v, vs[i]? = some v ∧ Dp K H v d
  | _, _, .nil, i, d, h => by simp at h
  | _, _, .cons a b, 0, d, h => by
    have e := Option.some.inj h
    subst e
    exact ⟨_, rfl, a⟩
  | _, _, .cons a b, i + 1, d, h => DpAll.get b (i := i) (by simpa using h)
theorem DpAll.app {K : PySem.W.Frag} {H : Hp} : ∀ {vs ws : List V} {ds es : List PyData}, DpAll K H vs ds → DpAll K H ws es → DpAll K H (vs ++ ws) (ds ++ es)
  | _, _, _, _, .nil, h => h
  | _, _, _, _, .cons a b, h => .cons a (DpAll.app b h)
theorem DpAll.ints {K : PySem.W.Frag} {H : Hp} : ∀ (ns : List Int), DpAll K H (ns.map V.int) (ns.map PyData.int)
  | [] => .nil
  | n :: r => .cons (.int n) (DpAll.ints r)
theorem DpAll.strs {K : PySem.W.Frag} {H : Hp} : ∀ (ns : List Str), DpAll K H (ns.map V.str) (ns.map PyData.str)
  | [] => .nil
  | n :: r => .cons (.str n) (DpAll.strs r)
/-- depth below n, lists not too long -/
def Fits : Nat → PyData → Prop
  | 0, _ => False
  | n + 1, .list xs => xs.length < 2 ^ 60 ∧ ∀ x ∈ xs, Fits n x
  | n + 1, .tuple xs => xs.length < 2 ^ 60 ∧ ∀ x ∈ xs, Fits n x
  | _ + 1, .dict _ => False
  | _ + 1, _ => True
theorem ty_l {K : PySem.W.Frag} {H : Hp} {a : Addr} {xs : List V} (h : SqL K H a xs) : TyX K H (.ref a) (.type "list") := by
  rcases h with (h | ⟨o, h⟩) | ⟨o, its, n, h1, h2, _⟩
  · exact .base (.lst h)
  · exact .base (.frz h)
  · exact .kList h1 h2
theorem ty_t {K : PySem.W.Frag} {H : Hp} {a : Addr} {xs : List V} (h : SqT K H a xs) : TyX K H (.ref a) (.type "tuple") := by
  rcases h with (h | ⟨o, h⟩) | ⟨o, its, n, h1, h2, _⟩
  · exact .base (.tup h)
  · exact .fTuple h
  · exact .kTuple h1 h2
/-- the two are the same data: True -/
def ySame (K : PySem.W.Frag) (n : Nat) : Sp := fun vs H Q _ => ∃ (x y : V) (d : PyData), vs = [x, y] ∧ Dp K H x d ∧ Dp K H y d ∧ Fits n d ∧ Q (.bl true) H
def yDraw (K : PySem.W.Frag) : Sp := fun vs H Q _ => ∃ (b p : Addr) (m : Int), vs = [.ref b, .int m] ∧ BoxAt H b p ∧ 0 < m ∧
  ∀ (r : Int) (H' : Hp), 0 ≤ r → r < m → BoxAt H' b p → Kp b H H' → Q (.int r) H'
section
variable {P : Program} {w : World} {K : PySem.W.Frag} {mg : Str → Option Value} {base : Heap} {A : Nat → Addr} {D : Nat → FuncData}
theorem ok_draw (T : Txt K mg A D) : FnOk P w K mg base CX0 1 (A 27) (D 27) ["box", "many"] (yDraw K) := by
  refine T.F__law_draw.ok sc__law_draw (fun vs H Q E h => ?_) (fun cdv A' outer s H vs Q E hr h => ?_)
  · obtain ⟨b, d, m, rfl, _⟩ := h; rfl
  obtain ⟨b, d, m, rfl, ⟨ns, n, h1, h2⟩, hm, q⟩ := h
  have hnd := sc__law_draw.nd
  have ndb : d ≠ b := fun e => by
    rw [e, h1] at h2
    cases ns with
    | nil => simp at h2
    | cons a r => simp at h2
  refine ⟨_, (pss_cons (ps_set (i := 2) hnd rfl (Or.inl rfl) (pe_ix (r := rIxL K) ix_list (pv 0) pe_int (fun _ _ => rfl))) (pss_cons (ps_asg (pe_op op_add (pv 2) pe_int) (pg_sub (pv 0) pe_int set_list)) (pss_cons (ps_if (pt_cmpR op_lt (pv 2) (pe_callB call_len_seq rfl T.z_len PySem.boot_len (pa_cons (pe_ix (r := rIxL K) ix_list (pv 0) pe_int (fun _ _ => rfl)) pa_nil)) (nomark _)) (pss_one (ps_ret (pe_op op_modN (pe_callTy call_int1 rfl T.z_int (by decide +kernel) (pa_cons (pe_ix (r := rIxL K) ix_list (pe_ix (r := rIxL K) ix_list (pv 0) pe_int (fun _ _ => rfl)) (pv 2) (fun _ _ => rfl)) pa_nil)) (pv 1)))) pss_nil) (pss_one (ps_ret pe_int))))), ?_⟩
  refine ⟨_, rfl, b, _, _, _, rfl, rfl, SqL.of h1, rfl, ?_⟩
  refine ⟨_, rfl, _, _, rfl, rfl, _, rfl, b, _, _, 1, rfl, rfl, h1, rfl, ?_⟩
  have k1 : Kp b H (upd H b (.lst [.ref d, .int ((n : Int) + 1)])) := Kp.upd (Kp.refl b H)
  have e1 : upd H b (.lst [.ref d, .int ((n : Int) + 1)]) b = some (.lst [.ref d, .int ((n : Int) + 1)]) := upd_same
  have e2 : upd H b (.lst [.ref d, .int ((n : Int) + 1)]) d = some (.lst (ns.map V.int)) := k1 _ _ h2 ndb
  have B : BoxAt (upd H b (.lst [.ref d, .int ((n : Int) + 1)])) b d := ⟨ns, n + 1, upd_same, e2⟩
  refine ⟨_, rfl, _, rfl, b, _, _, _, rfl, rfl, SqL.of e1, rfl, d, _, rfl, .inl (SqL.of e2), _, _, rfl, rfl, _, rfl, ?_⟩
  refine ite2 (fun c => ?_) (fun c => ?_)
  · have c' : (n : Int) < (((ns.map V.int).length : Nat) : Int) := of_decide_eq_true c
    rw [List.length_map] at c'
    refine ⟨_, rfl, b, _, _, _, rfl, rfl, SqL.of e1, rfl, _, rfl, d, _, _, _, rfl, rfl, SqL.of e2, at_ints (by omega), .inl ⟨_, rfl, _, rfl, _, _, rfl, rfl, (by show m ≠ 0; omega), ?_⟩⟩
    have z1 := Int.fmod_nonneg_of_pos (ns.getD n 0) hm
    have z2 := Int.fmod_lt_of_pos (ns.getD n 0) hm
    exact q _ _ z1 z2 B k1
  · exact q 0 _ (Int.le_refl 0) hm B k1
theorem ok_same (T : Txt K mg A D) : ∀ n, FnOk P w K mg base CX0 n (A 28) (D 28) ["actual", "due"] (ySame K n)
  | 0 => by
    have no : ∀ vs H Q E, ¬ ySame K 0 vs H Q E := fun vs H Q E h => by
      obtain ⟨x, y, d, _, _, _, f, _⟩ := h
      cases d <;> exact f
    exact ⟨fun vs H Q E h => absurd h (no vs H Q E), fun A outer s H args us vs Q E _ _ _ _ h => absurd h (no vs H Q E)⟩
  | n + 1 => by
    have G__law_same := ok_same T n
    refine T.F__law_same.ok sc__law_same (fun vs H Q E h => ?_) (fun cdv A' outer s H vs Q E hr h => ?_)
    · obtain ⟨x, y, d, rfl, _⟩ := h; rfl
    obtain ⟨x, y, d, rfl, dx, dy, hf, q⟩ := h
    have hnd := sc__law_same.nd
    refine ⟨_, (pss_cons (ps_if (PW.pt (pw_or (pt_val (pe_callB call_isi rfl T.z_isinstance (by decide +kernel) (pa_cons (pv 1) (pa_cons (pe_bltn (v := .ty "list") rfl T.z_list (by decide +kernel) rfl) pa_nil)))) (pw_or1 (pt_val (pe_callB call_isi rfl T.z_isinstance (by decide +kernel) (pa_cons (pv 1) (pa_cons (pe_bltn (v := .ty "tuple") rfl T.z_tuple (by decide +kernel) rfl) pa_nil))))))) (pss_cons (ps_if (PW.pt (pw_or (pt_cmpR op_ne (pe_callB call_isi rfl T.z_isinstance (by decide +kernel) (pa_cons (pv 1) (pa_cons (pe_bltn (v := .ty "list") rfl T.z_list (by decide +kernel) rfl) pa_nil))) (pe_callB call_isi rfl T.z_isinstance (by decide +kernel) (pa_cons (pv 0) (pa_cons (pe_bltn (v := .ty "list") rfl T.z_list (by decide +kernel) rfl) pa_nil))) (nomark _)) (pw_or1 (pt_cmpR op_ne (pe_callB call_isi rfl T.z_isinstance (by decide +kernel) (pa_cons (pv 1) (pa_cons (pe_bltn (v := .ty "tuple") rfl T.z_tuple (by decide +kernel) rfl) pa_nil))) (pe_callB call_isi rfl T.z_isinstance (by decide +kernel) (pa_cons (pv 0) (pa_cons (pe_bltn (v := .ty "tuple") rfl T.z_tuple (by decide +kernel) rfl) pa_nil))) (nomark _))))) (pss_one (ps_ret pe_bl)) pss_nil) (pss_cons (ps_if (pt_cmpR op_ne (pe_callB call_len_seq rfl T.z_len PySem.boot_len (pa_cons (pv 0) pa_nil)) (pe_callB call_len_seq rfl T.z_len PySem.boot_len (pa_cons (pv 1) pa_nil)) (nomark _)) (pss_one (ps_ret pe_bl)) pss_nil) (pss_cons (ps_for PassesOwn.never rfl (pi_range1 rfl T.z_range (pa_cons (pe_callB call_len_seq rfl T.z_len PySem.boot_len (pa_cons (pv 1) pa_nil)) pa_nil)) (pg_name (i := 2) hnd rfl (Or.inl rfl)) (pss_one (ps_if (pt_not (pt_val (pe_call G__law_same (hr.mono (by first | decide | omega)) rfl T.m__law_same T.F__law_same.kp T.b__law_same .nil pass0 (pa_cons (pe_ix (r := rIx K) ix_seq (pv 0) (pv 2) (fun _ _ => rfl)) (pa_cons (pe_ix (r := rIx K) ix_seq (pv 1) (pv 2) (fun _ _ => rfl)) pa_nil))))) (pss_one (ps_ret pe_bl)) pss_nil))) (pss_one (ps_ret pe_bl))))) pss_nil) (pss_cons (ps_if (pt_cmpR op_isN (pv 1) pe_non (nomark _)) (pss_one (ps_ret (pe_cmpR op_isN (pv 0) pe_non (nomark _)))) pss_nil) (pss_cons (ps_if (pt_val (pe_callB call_isi rfl T.z_isinstance (by decide +kernel) (pa_cons (pv 1) (pa_cons (pe_bltn (v := .ty "bool") rfl T.z_bool (by decide +kernel) rfl) pa_nil)))) (pss_one (ps_ret (pe_and (pe_callB call_isi rfl T.z_isinstance (by decide +kernel) (pa_cons (pv 0) (pa_cons (pe_bltn (v := .ty "bool") rfl T.z_bool (by decide +kernel) rfl) pa_nil))) (pe_one (pe_cmpR op_eq (pv 0) (pv 1) (nomark _)))))) pss_nil) (pss_cons (ps_if (pt_val (pe_callB call_isi rfl T.z_isinstance (by decide +kernel) (pa_cons (pv 1) (pa_cons (pe_bltn (v := .ty "str") rfl T.z_str (by decide +kernel) rfl) pa_nil)))) (pss_one (ps_ret (pe_and (pe_callB call_isi rfl T.z_isinstance (by decide +kernel) (pa_cons (pv 0) (pa_cons (pe_bltn (v := .ty "str") rfl T.z_str (by decide +kernel) rfl) pa_nil))) (pe_one (pe_cmpR op_eq (pv 0) (pv 1) (nomark _)))))) pss_nil) (pss_one (ps_ret (pe_and (pe_callB call_isi rfl T.z_isinstance (by decide +kernel) (pa_cons (pv 0) (pa_cons (pe_bltn (v := .ty "int") rfl T.z_int (by decide +kernel) rfl) pa_nil))) (pe_and (pe_not (pe_callB call_isi rfl T.z_isinstance (by decide +kernel) (pa_cons (pv 0) (pa_cons (pe_bltn (v := .ty "bool") rfl T.z_bool (by decide +kernel) rfl) pa_nil)))) (pe_one (pe_cmpR op_eq (pv 0) (pv 1) (nomark _))))))))))), ?_⟩
    cases d with
    | dict _ => exact hf.elim
    | list ds =>
      obtain ⟨hf1, hf2⟩ := hf
      cases dx with | lst hx ax =>
      cases dy with | lst hy ay =>
      rename_i a vs a' vs'
      have l1 := DpAll.len ax
      have l2 := DpAll.len ay
      refine ⟨_, rfl, _, _, _, _, _, rfl, .ty _, ty_l hy, kit_ty (by decide +kernel), _, rfl, iteT (iteT ?_)⟩
      refine ⟨_, rfl, _, _, _, _, true, rfl, .ty _, ty_l hy, kit_ty (by decide +kernel), _, rfl, _, _, _, _, true, rfl, .ty _, ty_l hx, kit_ty (by decide +kernel), rfl, _, rfl, iteNS rfl ?_⟩
      refine ⟨_, rfl, _, _, _, _, false, rfl, .ty _, ty_l hy, kit_ty (by decide +kernel), _, rfl, _, _, _, _, false, rfl, .ty _, ty_l hx, kit_ty (by decide +kernel), rfl, _, rfl, iteNS rfl ?_⟩
      refine ⟨_, rfl, _, _, rfl, .inl hx, _, rfl, _, _, rfl, .inl hy, rfl, _, rfl, iteNS (by rw [l1, l2]) ?_⟩
      refine ⟨_, rfl, _, _, rfl, .inl hy, _, rfl, (by omega), (by omega), ?_⟩
      rw [show ((vs'.length : Nat) : Int).toNat = ds.length by omega]
      refine for_range (n := ds.length) (fun i σ H' => ∃ kv : Option V, σ = [some (.ref a), some (.ref a'), kv] ∧ H' = H) ⟨none, rfl, rfl⟩ ?_ ?_
      · rintro i σ H' hi ⟨kv, rfl, rfl⟩
        obtain ⟨v, ev, dv⟩ := DpAll.get ax (List.getElem?_eq_getElem hi)
        obtain ⟨v', ev', dv'⟩ := DpAll.get ay (List.getElem?_eq_getElem hi)
        have ev1 : atI vs (0 + (i : Int)) = some v := by rw [Int.zero_add]; exact atI_nat ev
        have ev2 : atI vs' (0 + (i : Int)) = some v' := by rw [Int.zero_add]; exact atI_nat ev'
        refine ⟨_, rfl, _, rfl, .inl ⟨_, _, _, _, rfl, rfl, hx, ev1, _, rfl, _, rfl, .inl ⟨_, _, _, _, rfl, rfl, hy, ev2, ?_⟩⟩⟩
        exact ⟨v, v', ds[i], rfl, dv, dv', hf2 _ (List.getElem_mem hi), _, rfl, iteF ⟨_, rfl, rfl⟩⟩
      · rintro σ H' ⟨kv, rfl, rfl⟩
        exact q
    | tuple ds =>
      obtain ⟨hf1, hf2⟩ := hf
      cases dx with | tup hx ax =>
      cases dy with | tup hy ay =>
      rename_i a vs a' vs'
      have l1 := DpAll.len ax
      have l2 := DpAll.len ay
      refine ⟨_, rfl, _, _, _, _, _, rfl, .ty _, ty_t hy, kit_ty (by decide +kernel), _, rfl, iteF ⟨_, rfl, _, _, _, _, _, rfl, .ty _, ty_t hy, kit_ty (by decide +kernel), _, rfl, iteT ?_⟩⟩
      refine ⟨_, rfl, _, _, _, _, false, rfl, .ty _, ty_t hy, kit_ty (by decide +kernel), _, rfl, _, _, _, _, false, rfl, .ty _, ty_t hx, kit_ty (by decide +kernel), rfl, _, rfl, iteNS rfl ?_⟩
      refine ⟨_, rfl, _, _, _, _, true, rfl, .ty _, ty_t hy, kit_ty (by decide +kernel), _, rfl, _, _, _, _, true, rfl, .ty _, ty_t hx, kit_ty (by decide +kernel), rfl, _, rfl, iteNS rfl ?_⟩
      refine ⟨_, rfl, _, _, rfl, .inr hx, _, rfl, _, _, rfl, .inr hy, rfl, _, rfl, iteNS (by rw [l1, l2]) ?_⟩
      refine ⟨_, rfl, _, _, rfl, .inr hy, _, rfl, (by omega), (by omega), ?_⟩
      rw [show ((vs'.length : Nat) : Int).toNat = ds.length by omega]
      refine for_range (n := ds.length) (fun i σ H' => ∃ kv : Option V, σ = [some (.ref a), some (.ref a'), kv] ∧ H' = H) ⟨none, rfl, rfl⟩ ?_ ?_
      · rintro i σ H' hi ⟨kv, rfl, rfl⟩
        obtain ⟨v, ev, dv⟩ := DpAll.get ax (List.getElem?_eq_getElem hi)
        obtain ⟨v', ev', dv'⟩ := DpAll.get ay (List.getElem?_eq_getElem hi)
        have ev1 : atI vs (0 + (i : Int)) = some v := by rw [Int.zero_add]; exact atI_nat ev
        have ev2 : atI vs' (0 + (i : Int)) = some v' := by rw [Int.zero_add]; exact atI_nat ev'
        refine ⟨_, rfl, _, rfl, .inr (.inl ⟨_, _, _, _, rfl, rfl, hx, ev1, _, rfl, _, rfl, .inr (.inl ⟨_, _, _, _, rfl, rfl, hy, ev2, ?_⟩)⟩)⟩
        exact ⟨v, v', ds[i], rfl, dv, dv', hf2 _ (List.getElem_mem hi), _, rfl, iteF ⟨_, rfl, rfl⟩⟩
      · rintro σ H' ⟨kv, rfl, rfl⟩
        exact q
    | none =>
      cases dx with | non =>
      cases dy with | non =>
      refine ⟨_, rfl, _, _, _, _, _, rfl, .ty _, .base (.non), kit_ty (by decide +kernel), _, rfl, iteF ⟨_, rfl, _, _, _, _, _, rfl, .ty _, .base (.non), kit_ty (by decide +kernel), _, rfl, iteF ?_⟩⟩
      refine ⟨_, rfl, rfl, _, rfl, iteT ?_⟩
      exact ⟨_, rfl, rfl, q⟩
    | bool b =>
      cases dx with | bl =>
      cases dy with | bl =>
      refine ⟨_, rfl, _, _, _, _, _, rfl, .ty _, .base (.bl _), kit_ty (by decide +kernel), _, rfl, iteF ⟨_, rfl, _, _, _, _, _, rfl, .ty _, .base (.bl _), kit_ty (by decide +kernel), _, rfl, iteF ?_⟩⟩
      refine ⟨_, rfl, rfl, _, rfl, iteF ?_⟩
      refine ⟨_, rfl, _, _, _, _, _, rfl, .ty _, .base (.bl _), kit_ty (by decide +kernel), _, rfl, iteT ?_⟩
      refine ⟨_, rfl, _, _, _, _, _, rfl, .ty _, .base (.bl _), kit_ty (by decide +kernel), _, rfl, iteT ⟨_, rfl, _, rfl, rfl, ?_⟩⟩
      rw [decide_eq_true rfl]
      exact q
    | str z =>
      cases dx with | str =>
      cases dy with | str =>
      refine ⟨_, rfl, _, _, _, _, _, rfl, .ty _, .base (.str _), kit_ty (by decide +kernel), _, rfl, iteF ⟨_, rfl, _, _, _, _, _, rfl, .ty _, .base (.str _), kit_ty (by decide +kernel), _, rfl, iteF ?_⟩⟩
      refine ⟨_, rfl, rfl, _, rfl, iteF ?_⟩
      refine ⟨_, rfl, _, _, _, _, _, rfl, .ty _, .base (.str _), kit_ty (by decide +kernel), _, rfl, iteF ⟨_, rfl, _, _, _, _, _, rfl, .ty _, .base (.str _), kit_ty (by decide +kernel), _, rfl, iteT ?_⟩⟩
      refine ⟨_, rfl, _, _, _, _, _, rfl, .ty _, .base (.str _), kit_ty (by decide +kernel), _, rfl, iteT ⟨_, rfl, _, rfl, rfl, ?_⟩⟩
      rw [decide_eq_true rfl]
      exact q
    | int i =>
      cases dx with | int =>
      cases dy with | int =>
      refine ⟨_, rfl, _, _, _, _, _, rfl, .ty _, .base (.int _), kit_ty (by decide +kernel), _, rfl, iteF ⟨_, rfl, _, _, _, _, _, rfl, .ty _, .base (.int _), kit_ty (by decide +kernel), _, rfl, iteF ?_⟩⟩
      refine ⟨_, rfl, rfl, _, rfl, iteF ?_⟩
      refine ⟨_, rfl, _, _, _, _, _, rfl, .ty _, .base (.int _), kit_ty (by decide +kernel), _, rfl, iteF ⟨_, rfl, _, _, _, _, _, rfl, .ty _, .base (.int _), kit_ty (by decide +kernel), _, rfl, iteF ?_⟩⟩
      refine ⟨_, rfl, _, _, _, _, _, rfl, .ty _, .base (.int _), kit_ty (by decide +kernel), _, rfl, iteT ⟨_, rfl, _, _, _, _, false, rfl, .ty _, .base (.int _), kit_ty (by decide +kernel), _, rfl, _, rfl, iteT ⟨_, rfl, _, rfl, rfl, ?_⟩⟩⟩
      rw [decide_eq_true rfl]
      exact q
end

/-! ### a list of immutable data that grows -/
def LAt (K : PySem.W.Frag) (H : Hp) (d : Addr) (ds : List PyData) : Prop := ∃ vs, H d = some (.lst vs) ∧ DpAll K H vs ds ∧ ∀ x ∈ ds, Imm x
theorem LAt.tk {K : PySem.W.Frag} {H H' : Hp} {d : Addr} {ds : List PyData} (h : LAt K H d ds) (k : TK H H') (e : ∀ o, H d = some o → H' d = some o) : LAt K H' d ds := by
  obtain ⟨vs, h1, h2, h3⟩ := h
  exact ⟨vs, e _ h1, DpAll.keep k h2 h3, h3⟩
theorem LAt.same {K : PySem.W.Frag} {H H' : Hp} {d : Addr} {ds : List PyData} (h : LAt K H d ds) (k : Same H H') : LAt K H' d ds := h.tk (TK.same k) fun o => k _ o
theorem LAt.kp {K : PySem.W.Frag} {H H' : Hp} {b p d : Addr} {ds : List PyData} (h : LAt K H d ds) (B : BoxAt H b p) (k : Kp b H H') (n : d ≠ b) : LAt K H' d ds := h.tk (TK.box B k) fun o e => k _ o e n
theorem LAt.push {K : PySem.W.Frag} {H : Hp} {d : Addr} {ds : List PyData} {vs : List V} {v : V} {x : PyData} (h1 : H d = some (.lst vs)) (h2 : DpAll K H vs ds) (h3 : ∀ x ∈ ds, Imm x) (hv : Dp K H v x) (hx : Imm x) : LAt K (upd H d (.lst (vs ++ [v]))) d (ds ++ [x]) := by
  have k : TK H (upd H d (.lst (vs ++ [v]))) := TK.updL (TK.refl H) h1
  have h4 : ∀ y ∈ ds ++ [x], Imm y := fun y hy => by
    rcases List.mem_append.mp hy with hy | hy
    · exact h3 y hy
    · rw [List.mem_singleton.mp hy]; exact hx
  exact ⟨_, upd_same, DpAll.keep k (DpAll.app h2 (.cons hv .nil)) h4, h4⟩
theorem LAt.nil {K : PySem.W.Frag} {H : Hp} {d : Addr} (h : H d = some (.lst [])) : LAt K H d [] := ⟨[], h, .nil, fun x hx => nomatch hx⟩

theorem exm_self {K : PySem.W.Frag} {S : Addr} (h1 : PySem.W.subIn K (.ref S) (.type "BaseException") = some true) (h2 : PySem.W.isClsIn K S = true) (h3 : PySem.W.typeIn K (.ref S) = some (.type "type")) (h4 : PySem.W.subIn K (.ref S) (.ref S) = some true) :
    PySem.W.exmOne K (.ref S) (.ref S) = some true := by
  have e1 : (PySem.W.subIn K (.ref S) (.type "BaseException") == some true) = true := by rw [h1]; rfl
  have h2' : (PySem.W.clsIn K S).isSome = true := h2
  have e2 : ((PySem.W.clsIn K S).isSome && PySem.W.typeIn K (.ref S) == some (.type "type")) = true := by rw [h2', h3]; rfl
  unfold PySem.W.exmOne
  rw [if_pos e1]
  unfold PySem.W.kitCls
  dsimp only
  rw [if_pos e2]
  exact h4
/-- an error with two fields: its __init__ -/
def yInit2 (C : Addr) (f g : Str) : Sp := fun vs H Q _ => ∃ (a : Addr) (v u : V), vs = [.ref a, v, u] ∧ H a = some (exo a C none) ∧
  ∀ dx, H dx = none → dx ≠ a → Q .non (upd (upd (upd H dx (exd dx [(f, v)])) a (exo a C (some dx))) dx (exd dx [(g, u), (f, v)]))
section
variable {P : Program} {w : World} {K : PySem.W.Frag} {mg : Str → Option Value} {base : Heap} {A : Nat → Addr} {D : Nat → FuncData}
theorem ok_QuestionFault (T : Txt K mg A D) : FnOk P w K mg base CX0 1 (A 201) (D 201) ["self", "place", "word"] (yInit2 (A 101) "place" "word") := by
  refine T.F_QuestionFault.ok sc_QuestionFault (fun vs H Q E h => ?_) (fun cdv A' outer s H vs Q E hr h => ?_)
  · obtain ⟨a, v, u, rfl, _⟩ := h; rfl
  obtain ⟨a, v, u, rfl, ha, q⟩ := h
  refine ⟨_, pss_cons (ps_ost (pv 0) (pv 1)) (pss_one (ps_ost (pv 0) (pv 2))), ?_⟩
  refine ⟨_, rfl, _, rfl, a, _, rfl, T.ox_QuestionFault, T.no_QuestionFault_place, .inl ⟨ha, fun dx h0 hne => ?_⟩⟩
  exact ⟨_, rfl, _, rfl, a, _, rfl, T.ox_QuestionFault, T.no_QuestionFault_word, .inr ⟨dx, _, upd_same, (by rw [upd_ne hne]; exact upd_same), (by show 1 ≤ 900; decide), q dx h0 hne⟩⟩
end

def encT (t : Str × Str) : PyData := .tuple [.str t.1, .str t.2]
theorem imm_encT (t : Str × Str) : Imm (encT t) := .tup fun d hd => by
  rcases List.mem_cons.mp hd with rfl | hd
  · exact .str _
  · rw [List.mem_singleton.mp hd]; exact .str _

/-! ### a statement, what holds behind it, then the rest -/
def tCut (t u : TS) : TS := fun D σ H => ∃ Mid : St → Hp → Prop, t { D with nx := Mid } σ H ∧ ∀ σ' H', Mid σ' H' → u D σ' H'
theorem pss_cut {X : Cx} {st : Stmt} {rest : List Stmt} {t u : TS} (h1 : PS X st t) (h2 : PSs X rest u) : PSs X (st :: rest) (tCut t u) := by
  refine ⟨fun pins s σ H D I h => ?_⟩
  obtain ⟨Mid, hm, hu⟩ := h
  refine PySem.wpAny_execs_cons (thn (h1.run pins s σ H { D with nx := Mid } I hm) fun f s1 q => ?_)
  cases f with
  | next =>
    obtain ⟨σ', H', I', q⟩ := q
    exact h2.run pins s1 σ' H' D I' (hu σ' H' q)
  | ret v => exact q
  | brk => exact q
  | cont => exact q

/-! ### data of questions and documents -/
theorem slA_use {K : PySem.W.Frag} {H : Hp} {Q : VK} {a : Addr} {xs : List V} {lo hi : Option Int} (hx : SqT K H a xs) (h : ∀ p H', Same H H' → SqT K H' p (cutV xs lo hi) → Q (.ref p) H') : rSlA K (.ref a) lo hi H Q := by
  refine ⟨a, xs, rfl, hx, fun hw => ?_, fun _ p hp => h p _ (same_new hp) (SqT.of upd_same)⟩
  have e : cutV xs lo hi = xs := by
    unfold cutV
    rw [hw.1, hw.2, List.drop_zero, Nat.sub_zero, List.take_length]
  exact h a H (Same.refl H) (by rw [e]; exact hx)
theorem catA_use {K : PySem.W.Frag} {H : Hp} {Q : VK} {a b : Addr} {xs ys : List V} (ha : SqT K H a xs) (hb : SqT K H b ys) (hz : xs.length + ys.length ≤ sizeLine) (h : ∀ p H', Same H H' → SqT K H' p (xs ++ ys) → Q (.ref p) H') : rCatA K (.ref a) (.ref b) H Q := by
  refine ⟨a, b, xs, ys, rfl, rfl, ha, hb, hz, fun e => h b H (Same.refl H) (by rw [e]; exact hb), fun _ e => h a H (Same.refl H) (by rw [e, List.append_nil]; exact ha), fun _ _ p hp => h p _ (same_new hp) (SqT.of upd_same)⟩
theorem sIx_n (n d k : Nat) : HT.sIx n d (some (k : Int)) = min k n := HT.sIx_nat n d k
theorem cutV_from (xs : List V) (k : Nat) : cutV xs (some (k : Int)) none = xs.drop k := by
  unfold cutV
  rw [sIx_n, HT.sIx_none]
  by_cases h : k ≤ xs.length
  · rw [Nat.min_eq_left h]
    exact List.take_of_length_le (by rw [List.length_drop]; omega)
  · rw [List.drop_eq_nil_of_le (by omega), List.drop_eq_nil_of_le (by omega), List.take_nil]
theorem cutV_mid (xs : List V) (a b : Nat) : cutV xs (some (a : Int)) (some (b : Int)) = (xs.drop a).take (b - a) := by
  unfold cutV
  rw [sIx_n, sIx_n]
  by_cases h : a ≤ xs.length
  · rw [Nat.min_eq_left h]
    exact List.take_eq_take_iff.mpr (by rw [List.length_drop]; omega)
  · rw [List.drop_eq_nil_of_le (by omega), List.drop_eq_nil_of_le (by omega), List.take_nil, List.take_nil]
abbrev Pat := Str × Str
def encPs (ps : List Pat) : PyData := .tuple (ps.map encT)
def encRow (ps : List Pat) (gap : Nat) : PyData := .tuple [.str "row", encPs ps, .int (gap : Int)]
def encD (ws : List Str) : PyData := .tuple (ws.map .str)
def encW (pl : List Nat) : PyData := .tuple (pl.map fun (n : Nat) => .int (n : Int))
theorem imm_ts (ps : List Pat) : ∀ d ∈ ps.map encT, Imm d := fun d hd => by
  obtain ⟨p, _, rfl⟩ := List.mem_map.mp hd; exact imm_encT p
theorem imm_encW (pl : List Nat) : Imm (encW pl) := .tup fun d hd => by
  obtain ⟨n, _, rfl⟩ := List.mem_map.mp hd; exact .int _
theorem imm_encD (ws : List Str) : Imm (encD ws) := .tup fun d hd => by
  obtain ⟨n, _, rfl⟩ := List.mem_map.mp hd; exact .str _
theorem imm_encPs (ps : List Pat) : Imm (encPs ps) := .tup (imm_ts ps)
theorem imm_encRow (ps : List Pat) (gap : Nat) : Imm (encRow ps gap) := .tup fun d hd => by
  rcases List.mem_cons.mp hd with rfl | hd
  · exact .str _
  · rcases List.mem_cons.mp hd with rfl | hd
    · exact imm_encPs ps
    · rw [List.mem_singleton.mp hd]; exact .int _
theorem Dp.tupI {K : PySem.W.Frag} {H : Hp} {v : V} {ds : List PyData} (h : Dp K H v (.tuple ds)) : ∃ a xs, v = .ref a ∧ SqT K H a xs ∧ DpAll K H xs ds := by
  cases h with
  | tup h1 h2 => exact ⟨_, _, rfl, h1, h2⟩
theorem Dp.strI {K : PySem.W.Frag} {H : Hp} {v : V} {z : Str} (h : Dp K H v (.str z)) : v = .str z := by cases h; rfl
theorem Dp.intI {K : PySem.W.Frag} {H : Hp} {v : V} {z : Int} (h : Dp K H v (.int z)) : v = .int z := by cases h; rfl
theorem DpAll.consI {K : PySem.W.Frag} {H : Hp} {vs : List V} {d : PyData} {ds : List PyData} (h : DpAll K H vs (d :: ds)) : ∃ v r, vs = v :: r ∧ Dp K H v d ∧ DpAll K H r ds := by
  cases h with
  | cons a b => exact ⟨_, _, rfl, a, b⟩
theorem DpAll.nilI {K : PySem.W.Frag} {H : Hp} {vs : List V} (h : DpAll K H vs []) : vs = [] := by cases h; rfl
theorem DpAll.strsI {K : PySem.W.Frag} {H : Hp} : ∀ {vs : List V} {ss : List Str}, DpAll K H vs (ss.map PyData.str) → vs = ss.map V.str
  | _, [], h => DpAll.nilI h
  | _, s :: r, h => by
    obtain ⟨v, t, rfl, h1, h2⟩ := DpAll.consI h
    rw [Dp.strI h1, DpAll.strsI h2]; rfl
theorem DpAll.natsI {K : PySem.W.Frag} {H : Hp} : ∀ {vs : List V} {ss : List Nat}, DpAll K H vs (ss.map fun (n : Nat) => PyData.int (n : Int)) → vs = ss.map fun (n : Nat) => V.int (n : Int)
  | _, [], h => DpAll.nilI h
  | _, s :: r, h => by
    obtain ⟨v, t, rfl, h1, h2⟩ := DpAll.consI h
    rw [Dp.intI h1, DpAll.natsI h2]; rfl
theorem DpAll.nats {K : PySem.W.Frag} {H : Hp} : ∀ (ss : List Nat), DpAll K H (ss.map fun (n : Nat) => V.int (n : Int)) (ss.map fun (n : Nat) => PyData.int (n : Int))
  | [] => .nil
  | n :: r => .cons (.int _) (DpAll.nats r)
theorem dp_encT {K : PySem.W.Frag} {H : Hp} {v : V} {p : Pat} (h : Dp K H v (encT p)) : ∃ q, v = .ref q ∧ SqT K H q [.str p.1, .str p.2] := by
  obtain ⟨a, xs, rfl, h1, h2⟩ := Dp.tupI h
  obtain ⟨x, r, rfl, h3, h4⟩ := DpAll.consI h2
  obtain ⟨y, r2, rfl, h5, h6⟩ := DpAll.consI h4
  rw [Dp.strI h3, Dp.strI h5, DpAll.nilI h6] at h1
  exact ⟨a, rfl, h1⟩
theorem dp_encD {K : PySem.W.Frag} {H : Hp} {v : V} {ws : List Str} (h : Dp K H v (encD ws)) : ∃ q, v = .ref q ∧ SqT K H q (ws.map V.str) := by
  obtain ⟨a, xs, rfl, h1, h2⟩ := Dp.tupI h
  rw [DpAll.strsI h2] at h1
  exact ⟨a, rfl, h1⟩
theorem dp_encW {K : PySem.W.Frag} {H : Hp} {v : V} {pl : List Nat} (h : Dp K H v (encW pl)) : ∃ q, v = .ref q ∧ SqT K H q (pl.map fun (n : Nat) => V.int (n : Int)) := by
  obtain ⟨a, xs, rfl, h1, h2⟩ := Dp.tupI h
  rw [DpAll.natsI h2] at h1
  exact ⟨a, rfl, h1⟩
theorem mk_encW {K : PySem.W.Frag} {H : Hp} {q : Addr} {pl : List Nat} (h : SqT K H q (pl.map fun (n : Nat) => V.int (n : Int))) : Dp K H (.ref q) (encW pl) := .tup h (DpAll.nats pl)
theorem dp_encRow {K : PySem.W.Frag} {H : Hp} {v : V} {ps : List Pat} {gap : Nat} (h : Dp K H v (encRow ps gap)) : ∃ q pa pxs, v = .ref q ∧ SqT K H q [.str "row", .ref pa, .int (gap : Int)] ∧ SqT K H pa pxs ∧ DpAll K H pxs (ps.map encT) := by
  obtain ⟨a, xs, rfl, h1, h2⟩ := Dp.tupI h
  obtain ⟨x, r, rfl, h3, h4⟩ := DpAll.consI h2
  obtain ⟨y, r2, rfl, h5, h6⟩ := DpAll.consI h4
  obtain ⟨z, r3, rfl, h7, h8⟩ := DpAll.consI h6
  obtain ⟨pa, pxs, rfl, h9, h10⟩ := Dp.tupI h5
  rw [Dp.strI h3, Dp.intI h7, DpAll.nilI h8] at h1
  exact ⟨a, pa, pxs, rfl, h1, h9, h10⟩
def fitsB (w : Str) (p : Pat) : Bool := if p.1 = "start" then Txt.startswith w p.2 else decide (w = p.2)
/-- how many of the patterns are taken, one behind the other -/
def tstep (ps : List Pat) (t : Nat) (w : Str) : Nat := if t < ps.length ∧ fitsB w (ps.getD t ("", "")) = true then t + 1 else t
def taken (ps : List Pat) (ws : List Str) : Nat := ws.foldl (tstep ps) 0
def endB (L n gap f : Nat) : Nat := min (f + n + gap) L
def beginsB (ws : List Str) (ps : List Pat) (gap : Nat) (pl : List Nat) : Bool :=
  fitsB (ws.getD (pl.getLastD 0) "") (ps.getD (pl.length - 1) ("", "")) && decide (taken (ps.drop (pl.length - 1)) ((ws.drop (pl.getLastD 0)).take (endB ws.length ps.length gap (pl.headD 0) - pl.getLastD 0)) = (ps.drop (pl.length - 1)).length)
def yFits (K : PySem.W.Frag) : Sp := fun vs H Q _ => ∃ (w : Str) (v : V) (p : Pat), vs = [.str w, v] ∧ Dp K H v (encT p) ∧ Q (.bl (fitsB w p)) H
def yEndB (K : PySem.W.Frag) : Sp := fun vs H Q _ => ∃ (vd vr : V) (ws : List Str) (ps : List Pat) (gap f : Nat), vs = [vd, vr, .int (f : Int)] ∧ Dp K H vd (encD ws) ∧ Dp K H vr (encRow ps gap) ∧ Q (.int ((endB ws.length ps.length gap f : Nat) : Int)) H
def yBegins (K : PySem.W.Frag) : Sp := fun vs H Q _ => ∃ (vd vr vp : V) (ws : List Str) (ps : List Pat) (gap : Nat) (pl : List Nat), vs = [vd, vr, vp] ∧ Dp K H vd (encD ws) ∧ Dp K H vr (encRow ps gap) ∧ Dp K H vp (encW pl) ∧
  pl ≠ [] ∧ pl.length ≤ ps.length ∧ pl.getLastD 0 < endB ws.length ps.length gap (pl.headD 0) ∧ ∀ H', Same H H' → Q (.bl (beginsB ws ps gap pl)) H'

/-! ### words of a text -/
open TL
open PyProof.Rows (lo1 lower_ascii)
def smallS : Str := "0123456789abcdefghijklmnopqrstuvwxyz"
def smallL : Str := "abcdefghijklmnopqrstuvwxyz0123456789"
theorem small_LS : ∀ c ∈ tl smallL, c ∈ tl smallS := by decide +kernel
theorem small_SL : ∀ c ∈ tl smallS, c ∈ tl smallL := by decide +kernel
theorem small_iff {c : Nat} : c ∈ tl smallL ↔ c ∈ tl smallS := ⟨small_LS c, small_SL c⟩
/-- how a sign is read: a small letter or digit, or a blank -/
def gw (c : Nat) : Nat := if c ∈ tl smallS then c else 32
def gl (c : Nat) : Nat := gw (lo1 c)
def wordsL (cs : List Nat) : List (List Nat) := (wfin ((cs.map gl).foldl wstep ([], []))).map (·.take 12)
def sgn (c : Nat) : Str := ⟨#[c]⟩
def jn (l : List Nat) : Str := Txt.join (Str.ofString "") (l.map sgn)
theorem joinL_nil : ∀ l : List Nat, joinL [] (l.map fun c => [c]) = l
  | [] => rfl
  | [c] => rfl
  | c :: d :: r => by
    show [c] ++ ([] ++ joinL [] ((d :: r).map fun c => [c])) = _
    rw [joinL_nil (d :: r)]
    rfl
theorem join_signs (l : List Nat) : tl (jn l) = l := by
  unfold jn
  rw [join_eq, tl_join, List.map_map, show tl (Str.ofString "") = [] by decide +kernel]
  exact joinL_nil l
theorem cut_take (z : Str) (k : Nat) : tl (cutS z none (some (k : Int))) = (tl z).take k := by
  show ((z.cps.toList.drop 0).take (HT.sIx z.length z.length (some (k : Int)) - 0)) = _
  have e : HT.sIx z.length z.length (some (k : Int)) = min k z.length := by
    show (if (k : Int) < 0 then ((k : Int) + (z.length : Int)).toNat else min (k : Int).toNat z.length) = _
    rw [if_neg (by omega), Int.toNat_natCast]
  have e2 : z.length = z.cps.toList.length := len_tl z
  rw [e, List.drop_zero, Nat.sub_zero]
  exact List.take_eq_take_iff.mpr (by omega)
theorem words_len {N : Nat} : ∀ (l : List Nat) (ws : List (List Nat)) (u : List Nat), (∀ x ∈ ws, x.length ≤ N) → u.length + l.length ≤ N → ∀ x ∈ wfin (l.foldl wstep (ws, u)), x.length ≤ N
  | [], ws, u, h, hu => by
    intro x hx
    show x.length ≤ N
    have e : wfin (List.foldl wstep (ws, u) []) = if u = [] then ws else ws ++ [u] := rfl
    rw [e] at hx
    by_cases hu0 : u = []
    · rw [if_pos hu0] at hx; exact h x hx
    · rw [if_neg hu0] at hx
      rcases List.mem_append.mp hx with hx | hx
      · exact h x hx
      · rw [List.mem_singleton.mp hx]; simpa using hu
  | c :: r, ws, u, h, hu => by
    rw [List.length_cons] at hu
    rw [List.foldl_cons]
    unfold wstep
    split
    · split
      · exact words_len r ws u h (by omega)
      · refine words_len r _ _ (fun x hx => ?_) (by simp only [List.length_nil]; omega)
        rcases List.mem_append.mp hx with hx | hx
        · exact h x hx
        · rw [List.mem_singleton.mp hx]; show u.length ≤ N; omega
    · exact words_len r ws (u ++ [c]) h (by rw [List.length_append, List.length_singleton]; omega)
theorem map_sgn (l : List Nat) : (l.map sgn).map (fun x => x.length) = l.map fun _ => 1 := by rw [List.map_map]; rfl
theorem sum_ones (l : List Nat) : (l.map fun _ => 1).sum = l.length := by
  induction l with
  | nil => rfl
  | cons a r ih => rw [List.map_cons, List.sum_cons, ih, List.length_cons]; omega
theorem take_succ_map {α β : Type} {f : α → β} {l : List α} {i : Nat} {x : α} (h : l[i]? = some x) : (l.take i).map f ++ [f x] = (l.take (i + 1)).map f := by
  rw [List.take_add_one, h, List.map_append]; rfl
theorem take_all {α : Type} {l : List α} {n : Nat} (h : l.length ≤ n) : l.take n = l := List.take_of_length_le h

/-! ### tokens -/
def signsS : Str := "*\"<>()|-@"
def runL (cs : List Nat) : List Nat := cs.takeWhile fun c => decide (c ∈ tl smallS)
def S (l : List Nat) : Str := ⟨l.toArray⟩
theorem tl_S (l : List Nat) : tl (S l) = l := rfl
theorem S_tl (z : Str) : S (tl z) = z := mk_tl z
def tokAt (cs : List Nat) : (Str × Str) × Nat :=
  if cs.headD 0 ∈ tl signsS then (("sign", S [cs.headD 0]), 1)
  else if runL cs = [] then (("bad", S [cs.headD 0]), 1)
  else if (runL cs).length > 12 then (("bad", S (runL cs)), (runL cs).length)
  else if cs[(runL cs).length]? = some 42 then (("start", S (runL cs)), (runL cs).length + 1)
  else (("word", S (runL cs)), (runL cs).length)
inductive Toks : List Nat → List (Str × Str) → Prop
  | nil : Toks [] []
  | sp {r : List Nat} {ts : List (Str × Str)} : Toks r ts → Toks (32 :: r) ts
  | tok {c : Nat} {r : List Nat} {ts : List (Str × Str)} : c ≠ 32 → Toks ((c :: r).drop (tokAt (c :: r)).2) ts → Toks (c :: r) ((tokAt (c :: r)).1 :: ts)
theorem runL_cons (c : Nat) (r : List Nat) : runL (c :: r) = if c ∈ tl smallS then c :: runL r else [] := by
  unfold runL
  rw [List.takeWhile_cons]
  by_cases h : c ∈ tl smallS
  · rw [if_pos h, if_pos (decide_eq_true h)]
  · rw [if_neg h, if_neg (fun e => h (of_decide_eq_true e))]
theorem runL_mem : ∀ cs : List Nat, ∀ c ∈ runL cs, c ∈ tl smallS
  | [], c, h => nomatch h
  | d :: r, c, h => by
    rw [runL_cons] at h
    by_cases hd : d ∈ tl smallS
    · rw [if_pos hd] at h
      rcases List.mem_cons.mp h with h | h
      · rw [h]; exact hd
      · exact runL_mem r c h
    · rw [if_neg hd] at h; nomatch h
theorem runL_stop : ∀ (cs : List Nat) (c : Nat), cs[(runL cs).length]? = some c → ¬ c ∈ tl smallS
  | [], c, h => by simp at h
  | d :: r, c, h => by
    rw [runL_cons] at h
    by_cases hd : d ∈ tl smallS
    · rw [if_pos hd, List.length_cons, List.getElem?_cons_succ] at h
      exact runL_stop r c h
    · rw [if_neg hd] at h
      have e : d = c := Option.some.inj h
      rw [← e]; exact hd
theorem runL_le (cs : List Nat) : (runL cs).length ≤ cs.length := (List.takeWhile_sublist _).length_le
theorem runL_take (cs : List Nat) : cs.take (runL cs).length = runL cs := by
  have h : runL cs <+: cs := List.takeWhile_prefix _
  exact (List.prefix_iff_eq_take.mp h).symm
theorem tokAt_pos (cs : List Nat) : 1 ≤ (tokAt cs).2 := by
  unfold tokAt
  split
  · exact Nat.le_refl _
  · split
    · exact Nat.le_refl _
    · rename_i h
      have : 1 ≤ (runL cs).length := List.length_pos_iff.mpr h
      split
      · exact this
      · split
        · show 1 ≤ (runL cs).length + 1; omega
        · exact this
theorem tokAt_le {cs : List Nat} (h : cs ≠ []) : (tokAt cs).2 ≤ cs.length := by
  have h0 : 1 ≤ cs.length := List.length_pos_iff.mpr h
  have h1 := runL_le cs
  unfold tokAt
  split
  · exact h0
  · split
    · exact h0
    · split
      · exact h1
      · split
        · rename_i h2
          have := (List.getElem?_eq_some_iff.mp h2).1
          exact this
        · exact h1
theorem cut_mid (z : Str) (a b : Nat) : tl (cutS z (some (a : Int)) (some (b : Int))) = ((tl z).drop a).take (b - a) := by
  have e : ∀ k d : Nat, HT.sIx z.length d (some (k : Int)) = min k z.length := fun k d => by
    show (if (k : Int) < 0 then ((k : Int) + (z.length : Int)).toNat else min (k : Int).toNat z.length) = _
    rw [if_neg (by omega), Int.toNat_natCast]
  show ((z.cps.toList.drop (HT.sIx z.length 0 (some (a : Int)))).take (HT.sIx z.length z.length (some (b : Int)) - HT.sIx z.length 0 (some (a : Int)))) = _
  rw [e, e]
  have e2 : z.length = z.cps.toList.length := len_tl z
  by_cases ha : a ≤ z.length
  · rw [show min a z.length = a by omega]
    refine List.take_eq_take_iff.mpr ?_
    rw [List.length_drop]; omega
  · have e3 : z.length = (tl z).length := len_tl z
    rw [List.drop_eq_nil_of_le (by omega), List.drop_eq_nil_of_le (by omega), List.take_nil, List.take_nil]
def yEnd : Sp := fun vs H Q _ => ∃ (z : Str) (a : Nat), vs = [.str z, .int (a : Int)] ∧ a ≤ z.length ∧ z.length ≤ 100000 ∧ Q (.int ((a + (runL ((tl z).drop a)).length : Nat) : Int)) H
def yTokAt : Sp := fun vs H Q _ => ∃ (z : Str) (a : Nat), vs = [.str z, .int (a : Int)] ∧ a < z.length ∧ z.length ≤ 100000 ∧
  ∀ (q1 q2 : Addr) (H' : Hp), Same H H' → H' q1 = some (.tup [.ref q2, .int ((a + (tokAt ((tl z).drop a)).2 : Nat) : Int)]) → H' q2 = some (.tup [.str (tokAt ((tl z).drop a)).1.1, .str (tokAt ((tl z).drop a)).1.2]) → Q (.ref q1) H'
def yToks (K : PySem.W.Frag) : Sp := fun vs H Q _ => ∃ (z : Str) (due : List (Str × Str)), vs = [.str z] ∧ z.length ≤ 100000 ∧ Toks (tl z) due ∧
  ∀ (d : Addr) (H' : Hp), Same H H' → H d = none → LAt K H' d (due.map encT) → Q (.ref d) H'
section
variable {P : Program} {w : World} {K : PySem.W.Frag} {mg : Str → Option Value} {base : Heap} {A : Nat → Addr} {D : Nat → FuncData}
theorem ok_end_of_run (T : Txt K mg A D) : FnOk P w K mg base CX0 1 (A 6) (D 6) ["text", "at"] yEnd := by
  refine T.F_end_of_run.ok sc_end_of_run (fun vs H Q E h => ?_) (fun cdv A' outer s H vs Q E hr h => ?_)
  · obtain ⟨z, a, rfl, _⟩ := h; rfl
  obtain ⟨z, a, rfl, ha, hz, q⟩ := h
  have hnd := sc_end_of_run.nd
  obtain ⟨tS, hSMALL⟩ := T.c_SMALL
  have hzl : z.length ≤ sizeLine := by show z.length ≤ 16777216; omega
  have hl := len_tl z
  have hrl : (runL ((tl z).drop a)).length ≤ z.length - a := by have := runL_le ((tl z).drop a); rw [List.length_drop] at this; omega
  refine ⟨_, (pss_cons (ps_while PassesOwn.never (PW.pt (pw_and (pt_cmpR op_lt (pv 1) (pe_callB call_len_str rfl T.z_len PySem.boot_len (pa_cons (pv 0) pa_nil)) (nomark _)) (pw_and1 (pt_cmpR op_in_sign (pe_ix ix_str (pv 0) (pv 1) (fun _ _ => rfl)) (pe_glob (v := V.str _) rfl hSMALL ⟨_, rfl⟩) rfl)))) (pss_one (ps_aug (i := 1) hnd rfl (Or.inl rfl) pe_int ip_add))) (pss_one (ps_ret (pv 1)))), ?_⟩
  have hget : ∀ j, j < (runL ((tl z).drop a)).length → ∃ c, (tl z)[a + j]? = some c ∧ c ∈ tl smallS := fun j hj => by
    refine ⟨(runL ((tl z).drop a))[j], ?_, ?_⟩
    · have e := runL_take ((tl z).drop a)
      have e2 : (runL ((tl z).drop a))[j]? = some (runL ((tl z).drop a))[j] := List.getElem?_eq_getElem hj
      rw [← e2]
      conv => rhs; rw [← e]
      rw [List.getElem?_take_of_lt hj, List.getElem?_drop]
    · exact runL_mem _ _ (List.getElem_mem hj)
  have hstop : ∀ c, (tl z)[a + (runL ((tl z).drop a)).length]? = some c → ¬ c ∈ tl smallS := fun c hc hm => by
    exact runL_stop ((tl z).drop a) c (by rw [List.getElem?_drop]; exact hc) hm
  refine ⟨fun m σ H' => ∃ j, j + m = (runL ((tl z).drop a)).length ∧ σ = [some (.str z), some (.int ((a + j : Nat) : Int))] ∧ H' = H, ⟨_, 0, Nat.zero_add _, rfl, rfl⟩, ?_⟩
  rintro m σ H' ⟨j, hj, rfl, rfl⟩
  refine ⟨_, rfl, _, rfl, z, rfl, hzl, _, _, rfl, rfl, _, rfl, ?_⟩
  refine ite2 (fun c1 => ?_) (fun c1 => ?_)
  · have c1' : ((a + j : Nat) : Int) < (z.length : Int) := of_decide_eq_true c1
    have hjl : a + j < (tl z).length := by omega
    refine ⟨_, rfl, _, rfl, z, _, (tl z)[a + j], rfl, rfl, hzl, atI_nat (List.getElem?_eq_getElem hjl), _, _, rfl, rfl, _, rfl, ?_⟩
    refine ite2 (fun c2 => ?_) (fun c2 => ?_)
    · have c2' : (tl z)[a + j] ∈ tl smallS := of_decide_eq_true c2
      have hm : m ≠ 0 := fun e => hstop _ (by rw [show (runL ((tl z).drop a)).length = j by omega]; exact List.getElem?_eq_getElem hjl) c2'
      refine ⟨fun σ' H'' => ∃ j, j + (m - 1) = (runL ((tl z).drop a)).length ∧ σ' = [some (.str z), some (.int ((a + j : Nat) : Int))] ∧ H'' = H', fun _ _ h => ⟨m - 1, by omega, h⟩, ?_⟩
      refine ⟨_, rfl, _, _, rfl, rfl, j + 1, by omega, ?_, rfl⟩
      rw [show ((a + (j + 1) : Nat) : Int) = ((a + j : Nat) : Int) + 1 by omega]
      rfl
    · have c2' : ¬ (tl z)[a + j] ∈ tl smallS := fun h => c2 (decide_eq_true h)
      have hm : m = 0 := by
        by_cases hm : m = 0
        · exact hm
        · obtain ⟨c, hc, hcs⟩ := hget j (by omega)
          rw [List.getElem?_eq_getElem hjl] at hc
          exact absurd (Option.some.inj hc ▸ hcs) c2'
      refine ⟨_, rfl, ?_⟩
      rw [show a + j = a + (runL ((tl z).drop a)).length by omega]
      exact q
  · have c1' : ¬ ((a + j : Nat) : Int) < (z.length : Int) := fun h => c1 (decide_eq_true h)
    refine iteF ?_
    refine ⟨_, rfl, ?_⟩
    rw [show a + j = a + (runL ((tl z).drop a)).length by omega]
    exact q
theorem ok_token_at (T : Txt K mg A D) : FnOk P w K mg base CX0 2 (A 5) (D 5) ["text", "at"] yTokAt := by
  refine T.F_token_at.ok sc_token_at (fun vs H Q E h => ?_) (fun cdv A' outer s H vs Q E hr h => ?_)
  · obtain ⟨z, a, rfl, _⟩ := h; rfl
  obtain ⟨z, a, rfl, ha, hz, q⟩ := h
  have hnd := sc_token_at.nd
  obtain ⟨tS, hSIGNS⟩ := T.c_SIGNS
  obtain ⟨tL, hLONGEST⟩ := T.c_LONGEST
  have G_end_of_run := ok_end_of_run (P := P) (w := w) (base := base) T
  have hzl : z.length ≤ sizeLine := by show z.length ≤ 16777216; omega
  have hl := len_tl z
  have hal : a < (tl z).length := by omega
  have hrl : (runL ((tl z).drop a)).length ≤ z.length - a := by have := runL_le ((tl z).drop a); rw [List.length_drop] at this; omega
  have hat : atI (tl z) (a : Int) = some (tl z)[a] := atI_nat (List.getElem?_eq_getElem hal)
  have hhd : ((tl z).drop a).headD 0 = (tl z)[a] := by rw [List.drop_eq_getElem_cons hal]; rfl
  have hrun : cutS z (some ((a : Nat) : Int)) (some ((a + (runL ((tl z).drop a)).length : Nat) : Int)) = S (runL ((tl z).drop a)) := by
    apply ext_tl
    rw [cut_mid, tl_S, Nat.add_sub_cancel_left]
    exact runL_take _
  have hnx : tl (cutS z (some ((a + (runL ((tl z).drop a)).length : Nat) : Int)) (some (((a + (runL ((tl z).drop a)).length : Nat) : Int) + 1))) = ((tl z).drop (a + (runL ((tl z).drop a)).length)).take 1 := by
    rw [show (((a + (runL ((tl z).drop a)).length : Nat) : Int) + 1) = ((a + (runL ((tl z).drop a)).length + 1 : Nat) : Int) by omega, cut_mid, Nat.add_sub_cancel_left]
  refine ⟨_, (pss_cons (ps_if (pt_cmpR op_in_sign (pe_ix ix_str (pv 0) (pv 1) (fun _ _ => rfl)) (pe_glob (v := V.str _) rfl hSIGNS ⟨_, rfl⟩) rfl) (pss_one (ps_ret (pe_tup (pa_cons (pe_tup (pa_cons pe_str (pa_cons (pe_ix ix_str (pv 0) (pv 1) (fun _ _ => rfl)) pa_nil))) (pa_cons (pe_op op_add (pv 1) pe_int) pa_nil))))) pss_nil) (pss_cons (ps_set (i := 2) hnd rfl (Or.inl rfl) (pe_call G_end_of_run (hr.mono (by first | decide | omega)) rfl T.m_end_of_run T.F_end_of_run.kp T.b_end_of_run .nil pass0 (pa_cons (pv 0) (pa_cons (pv 1) pa_nil)))) (pss_cons (ps_set (i := 3) hnd rfl (Or.inl rfl) (pe_slice sl_str (pv 0) (po_some (pv 1)) (po_some (pv 2)))) (pss_cons (ps_if (pt_cmpR op_eq (pv 3) pe_str (nomark _)) (pss_one (ps_ret (pe_tup (pa_cons (pe_tup (pa_cons pe_str (pa_cons (pe_ix ix_str (pv 0) (pv 1) (fun _ _ => rfl)) pa_nil))) (pa_cons (pe_op op_add (pv 1) pe_int) pa_nil))))) pss_nil) (pss_cons (ps_if (pt_cmpR op_gt (pe_callB call_len_str rfl T.z_len PySem.boot_len (pa_cons (pv 3) pa_nil)) (pe_glob (v := V.int _) rfl hLONGEST ⟨_, rfl⟩) (nomark _)) (pss_one (ps_ret (pe_tup (pa_cons (pe_tup (pa_cons pe_str (pa_cons (pv 3) pa_nil))) (pa_cons (pv 2) pa_nil))))) pss_nil) (pss_cons (ps_if (pt_cmpR op_eq (pe_slice sl_str (pv 0) (po_some (pv 2)) (po_some (pe_op op_add (pv 2) pe_int))) pe_str (nomark _)) (pss_one (ps_ret (pe_tup (pa_cons (pe_tup (pa_cons pe_str (pa_cons (pv 3) pa_nil))) (pa_cons (pe_op op_add (pv 2) pe_int) pa_nil))))) pss_nil) (pss_one (ps_ret (pe_tup (pa_cons (pe_tup (pa_cons pe_str (pa_cons (pv 3) pa_nil))) (pa_cons (pv 2) pa_nil))))))))))), ?_⟩
  refine ⟨_, rfl, _, rfl, z, _, _, rfl, rfl, hzl, hat, _, _, rfl, rfl, _, rfl, ?_⟩
  refine ite2 (fun c1 => ?_) (fun c1 => ?_)
  · have ht : tokAt ((tl z).drop a) = ((("sign" : Str), S [(tl z)[a]]), 1) := by
      unfold tokAt; rw [hhd, if_pos (show (tl z)[a] ∈ tl signsS from of_decide_eq_true c1)]
    rw [ht] at q
    refine ⟨_, rfl, _, rfl, z, _, _, rfl, rfl, hzl, hat, (by show 2 ≤ sizeLine; decide), fun q2 hq2 => ⟨_, rfl, _, _, rfl, rfl, (by show 2 ≤ sizeLine; decide), fun q1 hq1 => ?_⟩⟩
    have s2 := same_new (o := .tup [.str "sign", .str (S [(tl z)[a]])]) hq2
    exact q q1 q2 _ (same_upd s2 (s2.free hq1)) upd_same (by rw [upd_ne (ne_of_none upd_same hq1)]; exact upd_same)
  · have c1' : ¬ ((tl z)[a] ∈ tl signsS) := fun h => c1 (decide_eq_true h)
    refine ⟨_, rfl, _, rfl, z, a, rfl, by omega, hz, ?_⟩
    refine ⟨_, rfl, _, rfl, _, rfl, _, rfl, _, rfl, z, rfl, hzl, ?_⟩
    rw [hrun]
    refine ⟨_, rfl, rfl, _, rfl, ?_⟩
    refine ite2 (fun c2 => ?_) (fun c2 => ?_)
    · have c2' : runL ((tl z).drop a) = [] := by
        have := of_decide_eq_true c2
        injection this with this
        exact congrArg tl this
      have ht : tokAt ((tl z).drop a) = ((("bad" : Str), S [(tl z)[a]]), 1) := by
        unfold tokAt; rw [hhd, if_neg c1', if_pos c2']
      rw [ht] at q
      refine ⟨_, rfl, _, rfl, z, _, _, rfl, rfl, hzl, hat, (by show 2 ≤ sizeLine; decide), fun q2 hq2 => ⟨_, rfl, _, _, rfl, rfl, (by show 2 ≤ sizeLine; decide), fun q1 hq1 => ?_⟩⟩
      have s2 := same_new (o := .tup [.str "bad", .str (S [(tl z)[a]])]) hq2
      exact q q1 q2 _ (same_upd s2 (s2.free hq1)) upd_same (by rw [upd_ne (ne_of_none upd_same hq1)]; exact upd_same)
    · have c2' : ¬ runL ((tl z).drop a) = [] := fun h => c2 (decide_eq_true (by rw [h]; rfl))
      have hSl : (S (runL ((tl z).drop a))).length = (runL ((tl z).drop a)).length := len_tl _
      refine ⟨_, rfl, _, rfl, (by rw [hSl]; show _ ≤ 16777216; omega), _, _, rfl, rfl, _, rfl, ?_⟩
      refine ite2 (fun c3 => ?_) (fun c3 => ?_)
      · have c3' : (runL ((tl z).drop a)).length > 12 := by
          have : (12 : Int) < ((S (runL ((tl z).drop a))).length : Int) := of_decide_eq_true c3
          omega
        have ht : tokAt ((tl z).drop a) = ((("bad" : Str), S (runL ((tl z).drop a))), (runL ((tl z).drop a)).length) := by
          unfold tokAt; rw [hhd, if_neg c1', if_neg c2', if_pos c3']
        rw [ht] at q
        refine ⟨_, rfl, (by show 2 ≤ sizeLine; decide), fun q2 hq2 => ⟨_, rfl, (by show 2 ≤ sizeLine; decide), fun q1 hq1 => ?_⟩⟩
        have s2 := same_new (o := .tup [.str "bad", .str (S (runL ((tl z).drop a)))]) hq2
        exact q q1 q2 _ (same_upd s2 (s2.free hq1)) upd_same (by rw [upd_ne (ne_of_none upd_same hq1)]; exact upd_same)
      · have c3' : ¬ (runL ((tl z).drop a)).length > 12 := fun h => c3 (decide_eq_true (show (12 : Int) < ((S (runL ((tl z).drop a))).length : Int) by omega))
        refine ⟨_, rfl, _, rfl, _, rfl, _, rfl, _, _, rfl, rfl, _, rfl, z, rfl, hzl, rfl, _, rfl, ?_⟩
        refine ite2 (fun c4 => ?_) (fun c4 => ?_)
        · have c4' : ((tl z).drop a)[(runL ((tl z).drop a)).length]? = some 42 := by
            have := of_decide_eq_true c4
            injection this with this
            have e := hnx.symm.trans (congrArg tl this)
            rw [List.getElem?_drop]
            have e2 := congrArg (fun l => l[0]?) e
            rw [List.getElem?_take_of_lt (by decide), List.getElem?_drop] at e2
            exact e2
          have ht : tokAt ((tl z).drop a) = ((("start" : Str), S (runL ((tl z).drop a))), (runL ((tl z).drop a)).length + 1) := by
            unfold tokAt; rw [hhd, if_neg c1', if_neg c2', if_neg c3', if_pos c4']
          rw [ht] at q
          refine ⟨_, rfl, (by show 2 ≤ sizeLine; decide), fun q2 hq2 => ⟨_, rfl, _, _, rfl, rfl, (by show 2 ≤ sizeLine; decide), fun q1 hq1 => ?_⟩⟩
          have s2 := same_new (o := .tup [.str "start", .str (S (runL ((tl z).drop a)))]) hq2
          exact q q1 q2 _ (same_upd s2 (s2.free hq1)) upd_same (by rw [upd_ne (ne_of_none upd_same hq1)]; exact upd_same)
        · have c4' : ¬ ((tl z).drop a)[(runL ((tl z).drop a)).length]? = some 42 := fun h => c4 (decide_eq_true (congrArg V.str (ext_tl (by
            rw [hnx, ← List.drop_drop]
            obtain ⟨h1, h2⟩ := List.getElem?_eq_some_iff.mp h
            rw [List.drop_eq_getElem_cons h1, h2]
            rfl))))
          have ht : tokAt ((tl z).drop a) = ((("word" : Str), S (runL ((tl z).drop a))), (runL ((tl z).drop a)).length) := by
            unfold tokAt; rw [hhd, if_neg c1', if_neg c2', if_neg c3', if_neg c4']
          rw [ht] at q
          refine ⟨_, rfl, (by show 2 ≤ sizeLine; decide), fun q2 hq2 => ⟨_, rfl, (by show 2 ≤ sizeLine; decide), fun q1 hq1 => ?_⟩⟩
          have s2 := same_new (o := .tup [.str "word", .str (S (runL ((tl z).drop a)))]) hq2
          exact q q1 q2 _ (same_upd s2 (s2.free hq1)) upd_same (by rw [upd_ne (ne_of_none upd_same hq1)]; exact upd_same)
theorem ok_tokens_of (T : Txt K mg A D) : FnOk P w K mg base CX0 3 (A 4) (D 4) ["text"] (yToks K) := by
  refine T.F_tokens_of.ok sc_tokens_of (fun vs H Q E h => ?_) (fun cdv A' outer s H vs Q E hr h => ?_)
  · obtain ⟨z, due, rfl, _⟩ := h; rfl
  obtain ⟨z, due, rfl, hz, hT, q⟩ := h
  have hnd := sc_tokens_of.nd
  have G_token_at := ok_token_at (P := P) (w := w) (base := base) T
  have hzl : z.length ≤ sizeLine := by show z.length ≤ 16777216; omega
  have hl := len_tl z
  refine ⟨_, (pss_cons (ps_set (i := 1) hnd rfl (Or.inl rfl) (pe_lst pa_nil)) (pss_cons (ps_set (i := 2) hnd rfl (Or.inl rfl) pe_int) (pss_cons (ps_while PassesOwn.never (pt_cmpR op_lt (pv 2) (pe_callB call_len_str rfl T.z_len PySem.boot_len (pa_cons (pv 0) pa_nil)) (nomark _)) (pss_one (ps_if (pt_cmpR op_eq (pe_ix ix_str (pv 0) (pv 2) (fun _ _ => rfl)) pe_str (nomark _)) (pss_one (ps_aug (i := 2) hnd rfl (Or.inl rfl) pe_int ip_add)) (pss_cons (ps_asg (pe_call G_token_at (hr.mono (by first | decide | omega)) rfl T.m_token_at T.F_token_at.kp T.b_token_at .nil pass0 (pa_cons (pv 0) (pa_cons (pv 2) pa_nil))) (pg_tup rfl (pgs_cons (pg_name (i := 3) hnd rfl (Or.inl rfl)) (pgs_cons (pg_name (i := 2) hnd rfl (Or.inl rfl)) pgs_nil)))) (pss_one (ps_expr (pe_bm PySem.F.plainAttrs_list PySem.F.slot_list_append PySem.F.type_list_append mt_append (pv 1) (pa_cons (pv 3) pa_nil)))))))) (pss_one (ps_ret (pv 1)))))), ?_⟩
  refine ⟨(by decide), fun d hd => ?_⟩
  refine ⟨fun m σ H' => ∃ (n : Nat) (done rst : List (Str × Str)) (c3 : Option V), n ≤ z.length ∧ n + m = z.length ∧ done.length ≤ n ∧ σ = [some (.str z), some (.ref d), some (.int (n : Int)), c3] ∧ Same H H' ∧ LAt K H' d (done.map encT) ∧ due = done ++ rst ∧ Toks ((tl z).drop n) rst,
    ⟨z.length, 0, [], due, _, Nat.zero_le _, Nat.zero_add _, Nat.le_refl _, rfl, same_new hd, LAt.nil upd_same, rfl, hT⟩, ?_⟩
  rintro m σ H' ⟨n, done, rst, c3, hn, hm, hdn, rfl, s1, L1, rfl, hTn⟩
  refine ⟨_, rfl, _, rfl, z, rfl, hzl, _, _, rfl, rfl, _, rfl, ?_⟩
  refine ite2 (fun c1 => ?_) (fun c1 => ?_)
  · have c1' : (n : Int) < (z.length : Int) := of_decide_eq_true c1
    have hnl : n < (tl z).length := by omega
    have hat : atI (tl z) (n : Int) = some (tl z)[n] := atI_nat (List.getElem?_eq_getElem hnl)
    have hdr := List.drop_eq_getElem_cons hnl
    refine ⟨fun σ' H'' => ∃ m', m' < m ∧ ∃ (n : Nat) (done' rst' : List (Str × Str)) (c3 : Option V), n ≤ z.length ∧ n + m' = z.length ∧ done'.length ≤ n ∧ σ' = [some (.str z), some (.ref d), some (.int (n : Int)), c3] ∧ Same H H'' ∧ LAt K H'' d (done'.map encT) ∧ done ++ rst = done' ++ rst' ∧ Toks ((tl z).drop n) rst', fun _ _ h => h, ?_⟩
    refine ⟨_, rfl, _, rfl, z, _, _, rfl, rfl, hzl, hat, rfl, _, rfl, ?_⟩
    refine ite2 (fun c2 => ?_) (fun c2 => ?_)
    · have c2' : (tl z)[n] = 32 := by
        have := of_decide_eq_true c2
        injection this with this
        have e := congrArg tl this
        exact (List.cons.inj (e.trans (show tl (Str.ofString " ") = [32] by decide +kernel))).1
      refine ⟨_, rfl, _, _, rfl, rfl, m - 1, by omega, n + 1, done, rst, _, by omega, by omega, by omega, rfl, s1, L1, rfl, ?_⟩
      rw [hdr, c2'] at hTn
      cases hTn with
      | sp h => exact h
      | tok h _ => exact absurd rfl h
    · have c2' : (tl z)[n] ≠ 32 := fun e => c2 (decide_eq_true (congrArg V.str (ext_tl (by
        show [(tl z)[n]] = _
        rw [e]; decide +kernel))))
      refine ⟨_, rfl, _, rfl, z, n, rfl, by omega, hz, fun q1 q2 H2 s2 h1 h2 => ?_⟩
      refine ⟨q1, _, rfl, SqT.of h1, rfl, _, _, rfl, _, _, rfl, rfl, ?_⟩
      have hpos := tokAt_pos ((tl z).drop n)
      have hle := tokAt_le (cs := (tl z).drop n) (fun e => by rw [hdr] at e; cases e)
      rw [List.length_drop] at hle
      obtain ⟨vs, e1, e2, e3⟩ := L1.same s2
      refine ⟨_, rfl, .inl ⟨rfl, _, SqL.of e1⟩, _, rfl, d, _, _, rfl, rfl, e1, (by rw [DpAll.len e2, List.length_map]; exact len_lt (by omega)), ?_⟩
      rw [hdr] at hTn
      generalize hcs : (tl z)[n] :: (tl z).drop (n + 1) = cs at hTn hdr
      cases hTn with
      | nil => cases hcs
      | sp h => injection hcs with hc _; exact absurd hc c2'
      | tok hc hT2 =>
        rename_i c r ts
        refine ⟨m - (tokAt (c :: r)).2, by rw [← hdr]; omega, n + (tokAt (c :: r)).2, done ++ [(tokAt (c :: r)).1], ts, some (.ref q2), by rw [← hdr]; omega, by rw [← hdr]; omega, by rw [List.length_append, List.length_singleton, ← hdr]; omega, ?_, same_upd (s1.trans s2) hd, ?_, by rw [List.append_assoc]; rfl, ?_⟩
        · rw [← hdr]; rfl
        · rw [List.map_append]
          refine LAt.push e1 e2 e3 (.tup (SqT.of h2) ?_) (imm_encT _)
          rw [hdr]
          exact .cons (.str _) (.cons (.str _) .nil)
        · rw [← List.drop_drop, hdr]; exact hT2
  · have c1' : ¬ (n : Int) < (z.length : Int) := fun h => c1 (decide_eq_true h)
    refine ⟨_, rfl, ?_⟩
    rw [List.drop_eq_nil_of_le (by omega)] at hTn
    cases hTn
    rw [List.append_nil] at q
    exact q d H' s1 hd L1
end

/-! ### laid tokens -/
def NoStick (r : List Nat) : Prop := ∀ c, r.head? = some c → ¬ c ∈ tl smallS ∧ c ≠ 42
def LastL (x : Str) : Prop := ∃ c, (tl x).getLast? = some c ∧ c ∈ tl smallS
structure TokOK (t : Str × Str) (x : Str) : Prop where
  run : ∀ r tr, (LastL x → NoStick r) → Toks r tr → Toks (tl x ++ r) (t :: tr)
  ne : 1 ≤ x.length ∧ x.length ≤ 20
  star : (tl x).head? = some 42 → tl x = [42]
theorem sign_small : ∀ c ∈ tl signsS, ¬ c ∈ tl smallS := by decide +kernel
theorem small_sign : ∀ c ∈ tl smallS, ¬ c ∈ tl signsS := by decide +kernel
theorem sign_32 : ∀ c ∈ tl signsS, c ≠ 32 := by decide +kernel
theorem small_32 : ∀ c ∈ tl smallS, c ≠ 32 := by decide +kernel
theorem star_small : ¬ 42 ∈ tl smallS := by decide +kernel
theorem runL_app : ∀ (u r : List Nat), (∀ c ∈ u, c ∈ tl smallS) → (∀ c, r.head? = some c → ¬ c ∈ tl smallS) → runL (u ++ r) = u
  | [], [], _, _ => rfl
  | [], c :: r, _, h => by
    show runL (c :: r) = []
    rw [runL_cons, if_neg (h c rfl)]
  | c :: u, r, h1, h2 => by
    show runL (c :: (u ++ r)) = c :: u
    rw [runL_cons, if_pos (h1 c List.mem_cons_self), runL_app u r (fun d hd => h1 d (List.mem_cons_of_mem _ hd)) h2]
theorem tok_use {cs r : List Nat} {t : Str × Str} {tr : List (Str × Str)} {c : Nat} {u : List Nat} (hc : cs = c :: u) (h32 : c ≠ 32) (ht : tokAt cs = (t, n)) (hd : cs.drop n = r) (h : Toks r tr) : Toks cs (t :: tr) := by
  subst hc
  have := Toks.tok (c := c) (r := u) (ts := tr) h32 (by rw [ht, hd]; exact h)
  rw [ht] at this
  exact this
theorem run_first {u : List Nat} (hu : ∀ c ∈ u, c ∈ tl smallS) (h0 : u ≠ []) : ∃ c v, u = c :: v ∧ c ∈ tl smallS := by
  cases u with
  | nil => exact absurd rfl h0
  | cons c v => exact ⟨c, v, rfl, hu c List.mem_cons_self⟩
theorem last_small {u : List Nat} (hu : ∀ c ∈ u, c ∈ tl smallS) (h0 : u ≠ []) : ∃ c, u.getLast? = some c ∧ c ∈ tl smallS :=
  ⟨u.getLast h0, List.getLast?_eq_some_getLast h0, hu _ (List.getLast_mem h0)⟩
theorem ok_word {u : List Nat} (hu : ∀ c ∈ u, c ∈ tl smallS) (h0 : u ≠ []) (hl : u.length ≤ 12) : TokOK (("word" : Str), S u) (S u) := by
  obtain ⟨c, v, e, hc⟩ := run_first hu h0
  refine ⟨fun r tr hs h => ?_, ?_, fun h => ?_⟩
  · have hn := hs (last_small hu h0)
    have hr : runL (u ++ r) = u := runL_app u r hu fun d hd => (hn d hd).1
    refine tok_use (n := u.length) (c := c) (u := v ++ r) (by rw [tl_S, e]; rfl) (small_32 c hc) ?_ ?_ h
    · have hh : (tl (S u) ++ r).headD 0 = c := by rw [tl_S, e]; rfl
      unfold tokAt
      rw [hh, if_neg (small_sign c hc)]
      rw [show runL (tl (S u) ++ r) = u from hr, if_neg h0, if_neg (by omega), if_neg]
      intro h42
      rw [tl_S, List.getElem?_append_right (Nat.le_refl _), Nat.sub_self] at h42
      rw [← List.head?_eq_getElem?] at h42
      exact (hn 42 h42).2 rfl
    · rw [tl_S]; simp
  · have : (S u).length = u.length := len_tl _
    have : 1 ≤ u.length := List.length_pos_iff.mpr h0
    omega
  · rw [tl_S, e] at h
    have e2 : c = 42 := Option.some.inj h
    rw [e2] at hc
    exact absurd hc star_small
theorem ok_long {u : List Nat} (hu : ∀ c ∈ u, c ∈ tl smallS) (h0 : u ≠ []) (hl : 12 < u.length) (hl2 : u.length ≤ 20) : TokOK (("bad" : Str), S u) (S u) := by
  obtain ⟨c, v, e, hc⟩ := run_first hu h0
  refine ⟨fun r tr hs h => ?_, ?_, fun h => ?_⟩
  · have hn := hs (last_small hu h0)
    have hr : runL (u ++ r) = u := runL_app u r hu fun d hd => (hn d hd).1
    refine tok_use (n := u.length) (c := c) (u := v ++ r) (by rw [tl_S, e]; rfl) (small_32 c hc) ?_ ?_ h
    · have hh : (tl (S u) ++ r).headD 0 = c := by rw [tl_S, e]; rfl
      unfold tokAt
      rw [hh, if_neg (small_sign c hc)]
      rw [show runL (tl (S u) ++ r) = u from hr, if_neg h0, if_pos (by omega)]
    · rw [tl_S]; simp
  · have : (S u).length = u.length := len_tl _
    omega
  · rw [tl_S, e] at h
    have e2 : c = 42 := Option.some.inj h
    rw [e2] at hc
    exact absurd hc star_small
theorem ok_start {u : List Nat} (hu : ∀ c ∈ u, c ∈ tl smallS) (h0 : u ≠ []) (hl : u.length ≤ 12) : TokOK (("start" : Str), S u) (S u ++ ("*" : Str)) := by
  obtain ⟨c, v, e, hc⟩ := run_first hu h0
  have hx : tl (S u ++ ("*" : Str)) = u ++ [42] := by rw [tl_append]; rfl
  refine ⟨fun r tr hs h => ?_, ?_, fun h => ?_⟩
  · have hr : runL (u ++ 42 :: r) = u := runL_app u (42 :: r) hu fun d hd => by
      have e2 : 42 = d := Option.some.inj hd
      rw [← e2]; exact star_small
    have hx2 : tl (S u ++ ("*" : Str)) ++ r = u ++ 42 :: r := by rw [hx, List.append_assoc]; rfl
    rw [hx2]
    refine tok_use (n := u.length + 1) (c := c) (u := v ++ 42 :: r) (by rw [e]; rfl) (small_32 c hc) ?_ ?_ h
    · have hh : (u ++ 42 :: r).headD 0 = c := by rw [e]; rfl
      unfold tokAt
      rw [hh, if_neg (small_sign c hc), hr, if_neg h0, if_neg (by omega), if_pos]
      rw [List.getElem?_append_right (Nat.le_refl _), Nat.sub_self]; rfl
    · rw [show u ++ 42 :: r = (u ++ [42]) ++ r by rw [List.append_assoc]; rfl]
      exact List.drop_left' (by simp)
  · have e3 : (S u ++ ("*" : Str)).length = u.length + 1 := by rw [len_tl, hx, List.length_append, List.length_singleton]
    omega
  · rw [hx, e] at h
    have e2 : c = 42 := Option.some.inj h
    rw [e2] at hc
    exact absurd hc star_small
theorem ok_sign {c : Nat} (hc : c ∈ tl signsS) : TokOK (("sign" : Str), S [c]) (S [c]) := by
  refine ⟨fun r tr _ h => ?_, ⟨(show 1 ≤ 1 by decide), (show 1 ≤ 20 by decide)⟩, fun h => ?_⟩
  · refine tok_use (n := 1) (c := c) (u := r) rfl (sign_32 c hc) ?_ rfl h
    unfold tokAt
    exact if_pos hc
  · rw [tl_S] at h ⊢
    have e2 : c = 42 := Option.some.inj h
    rw [e2]
theorem ok_other {c : Nat} (h1 : ¬ c ∈ tl signsS) (h2 : ¬ c ∈ tl smallS) (h3 : c ≠ 32) : TokOK (("bad" : Str), S [c]) (S [c]) := by
  refine ⟨fun r tr _ h => ?_, ⟨(show 1 ≤ 1 by decide), (show 1 ≤ 20 by decide)⟩, fun h => ?_⟩
  · refine tok_use (n := 1) (c := c) (u := r) rfl h3 ?_ rfl h
    show tokAt (c :: r) = _
    unfold tokAt
    rw [if_neg (show ¬ (c :: r).headD 0 ∈ tl signsS from h1), if_pos (show runL (c :: r) = [] by rw [runL_cons, if_neg h2])]
    rfl
  · rw [tl_S] at h ⊢
    have e2 : c = 42 := Option.some.inj h
    rw [e2]
theorem toks_sp : ∀ (n : Nat) {r : List Nat} {tr : List (Str × Str)}, Toks r tr → Toks (List.replicate n 32 ++ r) tr
  | 0, _, _, h => h
  | n + 1, _, _, h => .sp (toks_sp n h)
/-- what stands so far, whatever comes behind -/
def Pre (cs : List Nat) (ts : List (Str × Str)) (st : Prop) : Prop := ∀ r tr, (st → NoStick r) → Toks r tr → Toks (cs ++ r) (ts ++ tr)
theorem pre_sp (n : Nat) : Pre (List.replicate n 32) [] False := fun _ _ _ h => toks_sp n h
def Sticky (x : Str) : Prop := (∃ c, (tl x).head? = some c ∧ c ∈ tl smallS) ∨ x = "*"
theorem Pre.more {cs : List Nat} {ts : List (Str × Str)} {st : Prop} {t : Str × Str} {x : Str} (p : Pre cs ts st) (k : TokOK t x) (n : Nat) (h : st → 1 ≤ n ∨ ¬ Sticky x) : Pre (cs ++ List.replicate n 32 ++ tl x) (ts ++ [t]) (LastL x) := by
  intro r tr hs hr
  have h1 := k.run r tr hs hr
  have h2 := p (List.replicate n 32 ++ (tl x ++ r)) (t :: tr) (fun hst c hc => ?_) (toks_sp n h1)
  · have e : cs ++ List.replicate n 32 ++ tl x ++ r = cs ++ (List.replicate n 32 ++ (tl x ++ r)) := by rw [List.append_assoc, List.append_assoc]
    rw [e, List.append_assoc]
    exact h2
  · cases n with
    | succ n =>
      rw [List.replicate_succ] at hc
      have e : 32 = c := Option.some.inj hc
      rw [← e]; decide +kernel
    | zero =>
      have hns : ¬ Sticky x := by
        rcases h hst with h | h
        · omega
        · exact h
      have hx : tl x ≠ [] := fun e => by
        have := k.ne.1
        rw [len_tl, e] at this
        exact absurd this (by decide)
      cases e : tl x with
      | nil => exact absurd e hx
      | cons d v =>
        rw [e] at hc
        have e2 : d = c := Option.some.inj hc
        subst e2
        refine ⟨fun hm => hns (.inl ⟨d, by rw [e]; rfl, hm⟩), fun h42 => hns (.inr ?_)⟩
        have := k.star (by rw [e, h42]; rfl)
        exact ext_tl (this.trans (by decide +kernel))


/-! ### the grammar of questions -/
inductive Qu : Type
  | all : Qu
  | row (ps : List Pat) (gap : Nat) : Qu
  | neg (q : Qu) : Qu
  | bin (o : Bool) (qs : List Qu) : Qu
mutual
def encU : Qu → PyData
  | .all => .tuple [.str "all"]
  | .row ps gap => encRow ps gap
  | .neg q => .tuple [.str "not", encU q]
  | .bin o qs => .tuple [.str (if o = true then "or" else "and"), .tuple (encUs qs)]
def encUs : List Qu → List PyData
  | [] => []
  | q :: r => encU q :: encUs r
end
theorem encUs_map : ∀ qs : List Qu, encUs qs = qs.map encU
  | [] => rfl
  | q :: r => by
    show encU q :: encUs r = encU q :: r.map encU
    rw [encUs_map r]
theorem imm_two {a b : PyData} (ha : Imm a) (hb : Imm b) : Imm (.tuple [a, b]) := .tup fun d hd => by
  rcases List.mem_cons.mp hd with rfl | hd
  · exact ha
  · rw [List.mem_singleton.mp hd]; exact hb
mutual
theorem imm_encU : ∀ q : Qu, Imm (encU q)
  | .all => .tup fun d hd => by rw [List.mem_singleton.mp hd]; exact .str _
  | .row ps gap => imm_encRow ps gap
  | .neg q => imm_two (.str _) (imm_encU q)
  | .bin o qs => imm_two (.str _) (.tup (imm_encUs qs))
theorem imm_encUs : ∀ qs : List Qu, ∀ d ∈ encUs qs, Imm d
  | [], d, h => nomatch h
  | q :: r, d, h => by
    rcases List.mem_cons.mp h with rfl | h
    · exact imm_encU q
    · exact imm_encUs r d h
end
def isS (ts : List Pat) (z : Str) (a : Nat) : Bool := match ts[a]? with
  | some t => decide (t.1 = "sign") && decide ((tl t.2).headD 0 ∈ tl z)
  | none => false
def isP (ts : List Pat) (a : Nat) : Bool := match ts[a]? with
  | some t => decide (t.1 = "word") || decide (t.1 = "start")
  | none => false
def digitsS : Str := "0123456789"
def isD (ts : List Pat) (a : Nat) : Bool := match ts[a]? with
  | some t => decide (t.1 = "word") && (decide (t.2.length = 1) && decide ((tl t.2).headD 0 ∈ tl digitsS))
  | none => false
def gapN (ts : List Pat) (a : Nat) : Nat := (tl (ts.getD a ("", "")).2).headD 0 - 48
def faultW (ts : List Pat) (a : Nat) : Str := if a < ts.length then "unexpected" else "end"
def WF (ts : List Pat) : Prop := ts.length ≤ 100000 ∧ ∀ t ∈ ts, t.2.length ≤ 100000 ∧ (t.1 = "sign" → ∃ c, t.2 = S [c])
inductive Rs (α : Type) : Type
  | ok (x : α) (b : Nat) : Rs α
  | bad (p : Nat) (w : Str) : Rs α
def patN (ts : List Pat) (a : Nat) : Nat := min 6 (((ts.drop a).takeWhile fun (t : Pat) => decide (t.1 = "word") || decide (t.1 = "start")).length)
def rowR (ts : List Pat) (a g : Nat) (cl : Str) : Rs Qu :=
  if patN ts a = 0 ∨ isS ts cl (a + patN ts a) = false then .bad (a + patN ts a) (faultW ts (a + patN ts a))
  else .ok (.row ((ts.drop a).take (patN ts a)) g) (a + patN ts a + 1)
def dashN (ts : List Pat) (a : Nat) : Nat := ((ts.drop a).takeWhile fun (t : Pat) => decide (t.1 = "sign") && decide ((tl t.2).headD 0 ∈ tl "-")).length
def negs : Nat → Qu → Qu
  | 0, q => q
  | n + 1, q => .neg (negs n q)
def negsR (n : Nat) : Rs Qu → Rs Qu
  | .ok q b => .ok (negs n q) b
  | .bad p w => .bad p w
def madeU (o : Bool) (qs : List Qu) : Qu := match qs with
  | [q] => q
  | _ => .bin o qs
def barS : Str := "|"
def clauseS : Str := "-@\"<("
def begC (ts : List Pat) (a : Nat) : Bool := isP ts a || isS ts clauseS a
mutual
inductive PQ (ts : List Pat) : Nat → Nat → Rs Qu → Prop
  | bad {d a p w} : PA ts d a (.bad p w) → PQ ts d a (.bad p w)
  | ok {d a q b k r} : PA ts d a (.ok q b) → PQr ts d b [q] k r → PQ ts d a r
inductive PQr (ts : List Pat) : Nat → Nat → List Qu → Nat → Rs Qu → Prop
  | stop {d b qs} : isS ts "|" b = false → PQr ts d b qs 0 (.ok (madeU true qs) b)
  | bad {d b qs p w} : isS ts "|" b = true → PA ts d (b + 1) (.bad p w) → PQr ts d b qs 0 (.bad p w)
  | more {d b qs q c k r} : isS ts "|" b = true → PA ts d (b + 1) (.ok q c) → PQr ts d c (qs ++ [q]) k r → PQr ts d b qs (k + 1) r
inductive PA (ts : List Pat) : Nat → Nat → Rs Qu → Prop
  | bad {d a p w} : PC ts d a (.bad p w) → PA ts d a (.bad p w)
  | ok {d a q b k r} : PC ts d a (.ok q b) → PAr ts d b [q] k r → PA ts d a r
inductive PAr (ts : List Pat) : Nat → Nat → List Qu → Nat → Rs Qu → Prop
  | stop {d b qs} : begC ts b = false → PAr ts d b qs 0 (.ok (madeU false qs) b)
  | bad {d b qs p w} : begC ts b = true → PC ts d b (.bad p w) → PAr ts d b qs 0 (.bad p w)
  | more {d b qs q c k r} : begC ts b = true → PC ts d b (.ok q c) → PAr ts d c (qs ++ [q]) k r → PAr ts d b qs (k + 1) r
inductive PC (ts : List Pat) : Nat → Nat → Rs Qu → Prop
  | mk {d a r} : PP ts d (a + dashN ts a) r → PC ts d a (negsR (dashN ts a) r)
inductive PP (ts : List Pat) : Nat → Nat → Rs Qu → Prop
  | pat {d a t} : ts[a]? = some t → isP ts a = true → PP ts d a (.ok (.row [t] 0) (a + 1))
  | all {d a} : isP ts a = false → isS ts "@" a = true → PP ts d a (.ok .all (a + 1))
  | quo {d a} : isP ts a = false → isS ts "@" a = false → isS ts "\"" a = true → PP ts d a (rowR ts (a + 1) 0 "\"")
  | gapB {d a} : isP ts a = false → isS ts "@" a = false → isS ts "\"" a = false → isS ts "<" a = true → isD ts (a + 1) = false → PP ts d a (.bad (a + 1) (faultW ts (a + 1)))
  | gap {d a} : isP ts a = false → isS ts "@" a = false → isS ts "\"" a = false → isS ts "<" a = true → isD ts (a + 1) = true → PP ts d a (rowR ts (a + 2) (gapN ts (a + 1)) ">")
  | brB {d a p w} : isP ts a = false → isS ts "@" a = false → isS ts "\"" a = false → isS ts "<" a = false → isS ts "(" a = true → d < 6 → PQ ts (d + 1) (a + 1) (.bad p w) → PP ts d a (.bad p w)
  | brC {d a q b} : isP ts a = false → isS ts "@" a = false → isS ts "\"" a = false → isS ts "<" a = false → isS ts "(" a = true → d < 6 → PQ ts (d + 1) (a + 1) (.ok q b) → isS ts ")" b = false → PP ts d a (.bad b (faultW ts b))
  | br {d a q b} : isP ts a = false → isS ts "@" a = false → isS ts "\"" a = false → isS ts "<" a = false → isS ts "(" a = true → d < 6 → PQ ts (d + 1) (a + 1) (.ok q b) → isS ts ")" b = true → PP ts d a (.ok q (b + 1))
  | no {d a} : isP ts a = false → isS ts "@" a = false → isS ts "\"" a = false → isS ts "<" a = false → (isS ts "(" a = false ∨ 6 ≤ d) → PP ts d a (.bad a (faultW ts a))
end
/-! ### specs -/
def TkL (K : PySem.W.Frag) (H : Hp) (l : Addr) (ts : List Pat) : Prop := LAt K H l (ts.map encT) ∧ WF ts
theorem TkL.same {K : PySem.W.Frag} {H H' : Hp} {l : Addr} {ts : List Pat} (h : TkL K H l ts) (s : Same H H') : TkL K H' l ts := ⟨h.1.same s, h.2⟩
theorem TkL.at {K : PySem.W.Frag} {H : Hp} {l : Addr} {ts : List Pat} (h : TkL K H l ts) : ∃ vs : List V, SqL K H l vs ∧ H l = some (.lst vs) ∧ vs.length = ts.length ∧ ∀ (a : Nat) (t : Pat), ts[a]? = some t → ∃ q, atI vs (a : Int) = some (.ref q) ∧ SqT K H q [.str t.1, .str t.2] := by
  obtain ⟨⟨vs, h1, h2, h3⟩, h4⟩ := h
  refine ⟨vs, SqL.of h1, h1, by rw [DpAll.len h2, List.length_map], fun a t ha => ?_⟩
  obtain ⟨v, hv, dv⟩ := DpAll.get h2 (i := a) (d := encT t) (by rw [List.getElem?_map, ha]; rfl)
  obtain ⟨q, rfl, hq⟩ := dp_encT dv
  exact ⟨q, atI_nat hv, hq⟩
def ySign (K : PySem.W.Frag) : Sp := fun vs H Q _ => ∃ (l : Addr) (ts : List Pat) (a : Nat) (z : Str), vs = [.ref l, .int (a : Int), .str z] ∧ TkL K H l ts ∧ Q (.bl (isS ts z a)) H
def yIsP (K : PySem.W.Frag) : Sp := fun vs H Q _ => ∃ (l : Addr) (ts : List Pat) (a : Nat), vs = [.ref l, .int (a : Int)] ∧ TkL K H l ts ∧ ∀ H', Same H H' → Q (.bl (isP ts a)) H'
def yIsD (K : PySem.W.Frag) : Sp := fun vs H Q _ => ∃ (l : Addr) (ts : List Pat) (a : Nat), vs = [.ref l, .int (a : Int)] ∧ TkL K H l ts ∧ Q (.bl (isD ts a)) H
def yFault (K : PySem.W.Frag) : Sp := fun vs H Q _ => ∃ (l : Addr) (ts : List Pat) (a : Nat), vs = [.ref l, .int (a : Int)] ∧ TkL K H l ts ∧ Q (.str (faultW ts a)) H
def Raisd (C : Addr) (p : Nat) (w : Str) (H : Hp) (E : XK) : Prop := ∀ d H', Same H H' → H d = none → H' d = some (.xd [("word", .str w), ("place", .int (p : Int))]) → E (.ref C) (some d) H'
theorem raise_use {C : Addr} {p : Nat} {w : Str} {H : Hp} {E : XK} (q : Raisd C p w H E) : ([V.int (p : Int), V.str w] : List V).length ≤ 1000 ∧ ∀ a, H a = none → yInit2 C "place" "word" (.ref a :: ([V.int (p : Int), V.str w] ++ [])) (upd H a (exo a C none))
  (fun v H2 => v = .non ∧ ∃ (d : Addr) (fs : List (Str × V)), H2 a = some (exo a C (some d)) ∧ H2 d = some (exd d fs) ∧ H d = none ∧ E (.ref C) (some d) (upd (del H2 a) d (.xd fs))) (fun _ _ _ => False) := by
  refine ⟨(by show 2 ≤ 1000; decide), fun a ha => ⟨a, _, _, rfl, upd_same, fun dx hdx hne => ⟨rfl, dx, _, by rw [upd_ne hne.symm]; exact upd_same, upd_same, ?_, ?_⟩⟩⟩
  · rw [upd_ne hne] at hdx; exact hdx
  · have hdx' : H dx = none := by rw [upd_ne hne] at hdx; exact hdx
    refine q dx _ (fun b o hb => ?_) hdx' upd_same
    have nb : b ≠ dx := ne_of_none hb hdx'
    have na : b ≠ a := ne_of_none hb ha
    rw [upd_ne nb, del_ne na, upd_ne nb, upd_ne na, upd_ne nb, upd_ne na]
    exact hb
def Out (K : PySem.W.Frag) (C : Addr) (H : Hp) (r : Rs Qu) (Q : VK) (E : XK) : Prop := match r with
  | .ok q b => ∀ t v H', Same H H' → SqT K H' t [v, .int (b : Int)] → Dp K H' v (encU q) → Q (.ref t) H'
  | .bad p w => Raisd C p w H E
def yRow (K : PySem.W.Frag) (C : Addr) : Sp := fun vs H Q E => ∃ (l : Addr) (ts : List Pat) (a g c : Nat), vs = [.ref l, .int (a : Int), .int (g : Int), .str (S [c])] ∧ TkL K H l ts ∧ Out K C H (rowR ts a g (S [c])) Q E
def yGap (K : PySem.W.Frag) (C : Addr) : Sp := fun vs H Q E => ∃ (l : Addr) (ts : List Pat) (a : Nat), vs = [.ref l, .int (a : Int)] ∧ TkL K H l ts ∧ (isD ts a = true → Q (.int (gapN ts a : Int)) H) ∧ (isD ts a = false → Raisd C a (faultW ts a) H E)
def yRd (K : PySem.W.Frag) (C : Addr) (R : List Pat → Nat → Nat → Rs Qu → Prop) (n : Nat) : Sp := fun vs H Q E => ∃ (l : Addr) (ts : List Pat) (a d : Nat) (r : Rs Qu), vs = [.ref l, .int (a : Int), .int (d : Int)] ∧ TkL K H l ts ∧ d + n = 7 ∧ 1 ≤ n ∧ R ts d a r ∧ Out K C H r Q E

theorem isS_some {ts : List Pat} {z : Str} {a : Nat} {t : Pat} (h : ts[a]? = some t) : isS ts z a = (decide (t.1 = "sign") && decide ((tl t.2).headD 0 ∈ tl z)) := by
  unfold isS; rw [h]
theorem isS_none {ts : List Pat} {z : Str} {a : Nat} (h : ts.length ≤ a) : isS ts z a = false := by
  unfold isS; rw [List.getElem?_eq_none h]
theorem isP_some {ts : List Pat} {a : Nat} {t : Pat} (h : ts[a]? = some t) : isP ts a = (decide (t.1 = "word") || decide (t.1 = "start")) := by
  unfold isP; rw [h]
theorem isP_none {ts : List Pat} {a : Nat} (h : ts.length ≤ a) : isP ts a = false := by
  unfold isP; rw [List.getElem?_eq_none h]
theorem isD_some {ts : List Pat} {a : Nat} {t : Pat} (h : ts[a]? = some t) : isD ts a = (decide (t.1 = "word") && (decide (t.2.length = 1) && decide ((tl t.2).headD 0 ∈ tl digitsS))) := by
  unfold isD; rw [h]
theorem isD_none {ts : List Pat} {a : Nat} (h : ts.length ≤ a) : isD ts a = false := by
  unfold isD; rw [List.getElem?_eq_none h]
theorem one_S {z : Str} (h : z.length = 1) : ∃ c, z = S [c] := by
  have e := len_tl z
  rw [h] at e
  obtain ⟨c, hc⟩ := List.length_eq_one_iff.mp e.symm
  exact ⟨c, ext_tl hc⟩
theorem in_two (x a b : Str) : inV (V.str x) [.str a, .str b] = (decide (x = a) || decide (x = b)) := by
  show ((eqV (.str a) (.str x) || (eqV (.str b) (.str x) || false))) = _
  have e : ∀ y : Str, eqV (.str y) (.str x) = decide (x = y) := fun y => by
    show decide (y = x) = _
    rw [Bool.eq_iff_iff, decide_eq_true_eq, decide_eq_true_eq]
    exact ⟨Eq.symm, Eq.symm⟩
  rw [e, e, Bool.or_false]
theorem int_digit : ∀ c : Nat, c ∈ tl digitsS → PySem.intText? (S [c]) = some ((c - 48 : Nat) : Int) := by decide +kernel
theorem tw_get {α : Type} {f : α → Bool} : ∀ {l : List α} {j : Nat}, j < (l.takeWhile f).length → ∃ t, l[j]? = some t ∧ f t = true
  | [], j, h => absurd h (Nat.not_lt_zero j)
  | x :: r, j, h => by
    rw [List.takeWhile_cons] at h
    cases hx : f x with
    | false => rw [hx] at h; exact absurd h (Nat.not_lt_zero j)
    | true =>
      rw [hx] at h
      cases j with
      | zero => exact ⟨x, rfl, hx⟩
      | succ j => exact tw_get (l := r) (Nat.lt_of_succ_lt_succ h)
theorem tw_stop {α : Type} {f : α → Bool} : ∀ {l : List α} {t : α}, l[(l.takeWhile f).length]? = some t → f t = false
  | [], t, h => by simp at h
  | x :: r, t, h => by
    rw [List.takeWhile_cons] at h
    cases hx : f x with
    | false =>
      rw [hx] at h
      have e : x = t := Option.some.inj h
      rw [← e]; exact hx
    | true =>
      rw [hx] at h
      exact tw_stop (l := r) (by simpa using h)
theorem patN_le (ts : List Pat) (a : Nat) : patN ts a ≤ 6 := Nat.min_le_left _ _
theorem patN_get {ts : List Pat} {a j : Nat} (h : j < patN ts a) : isP ts (a + j) = true := by
  obtain ⟨t, h1, h2⟩ := tw_get (Nat.lt_of_lt_of_le h (Nat.min_le_right _ _))
  rw [List.getElem?_drop] at h1
  rw [isP_some h1]; exact h2
theorem patN_stop (ts : List Pat) (a : Nat) : patN ts a = 6 ∨ isP ts (a + patN ts a) = false := by
  by_cases h : patN ts a = 6
  · exact .inl h
  · refine .inr ?_
    have e : patN ts a = ((ts.drop a).takeWhile fun (t : Pat) => decide (t.1 = "word") || decide (t.1 = "start")).length := by
      have : patN ts a = min 6 (((ts.drop a).takeWhile fun (t : Pat) => decide (t.1 = "word") || decide (t.1 = "start")).length) := rfl
      omega
    cases q : ts[a + patN ts a]? with
    | none => exact isP_none (List.getElem?_eq_none_iff.mp q)
    | some t =>
      rw [isP_some q]
      refine tw_stop (f := fun (t : Pat) => decide (t.1 = "word") || decide (t.1 = "start")) (l := ts.drop a) ?_
      rw [← e, List.getElem?_drop, q]
theorem DpAll.drop {K : PySem.W.Frag} {H : Hp} : ∀ {vs : List V} {ds : List PyData}, DpAll K H vs ds → ∀ n, DpAll K H (vs.drop n) (ds.drop n)
  | _, _, .nil, n => by rw [List.drop_nil, List.drop_nil]; exact .nil
  | _, _, .cons a b, 0 => .cons a b
  | _, _, .cons a b, n + 1 => DpAll.drop b n
theorem DpAll.take {K : PySem.W.Frag} {H : Hp} : ∀ {vs : List V} {ds : List PyData}, DpAll K H vs ds → ∀ n, DpAll K H (vs.take n) (ds.take n)
  | _, _, .nil, n => by rw [List.take_nil, List.take_nil]; exact .nil
  | _, _, .cons a b, 0 => .nil
  | _, _, .cons a b, n + 1 => .cons a (DpAll.take b n)
theorem Raisd.same {C : Addr} {p : Nat} {w : Str} {H H1 : Hp} {E : XK} (h : Raisd C p w H E) (s : Same H H1) : Raisd C p w H1 E := fun d H' s' h0 hd => h d H' (s.trans s') (s.free h0) hd
theorem Out.same {K : PySem.W.Frag} {C : Addr} {H H1 : Hp} {r : Rs Qu} {Q : VK} {E : XK} (h : Out K C H r Q E) (s : Same H H1) : Out K C H1 r Q E := match r, h with
  | .ok q b, h => fun t v H' s' => h t v H' (s.trans s')
  | .bad p w, h => Raisd.same h s
section
variable {P : Program} {w : World} {K : PySem.W.Frag} {mg : Str → Option Value} {base : Heap} {A : Nat → Addr} {D : Nat → FuncData}
theorem ok_is_sign (T : Txt K mg A D) : FnOk P w K mg base CX0 1 (A 22) (D 22) ["tokens", "at", "signs"] (ySign K) := by
  refine T.F_is_sign.ok sc_is_sign (fun vs H Q E h => ?_) (fun cdv A' outer s H vs Q E hr h => ?_)
  · obtain ⟨l, ts, a, z, rfl, _⟩ := h; rfl
  obtain ⟨l, ts, a, z, rfl, hT, q⟩ := h
  have hnd := sc_is_sign.nd
  refine ⟨_, (pss_one (ps_ret (pe_and (pe_cmpR op_lt (pv 1) (pe_callB call_len_seq rfl T.z_len PySem.boot_len (pa_cons (pv 0) pa_nil)) (nomark _)) (pe_and (pe_cmpR op_eq (pe_ix (r := rIxT K) ix_tup (pe_ix (r := rIxL K) ix_list (pv 0) (pv 1) (fun _ _ => rfl)) pe_int (fun _ _ => rfl)) pe_str (nomark _)) (pe_one (pe_cmpR op_in_sign (pe_ix (r := rIxT K) ix_tup (pe_ix (r := rIxL K) ix_list (pv 0) (pv 1) (fun _ _ => rfl)) pe_int (fun _ _ => rfl)) (pv 2) rfl)))))), ?_⟩
  obtain ⟨vs, hl, _, hn, hat⟩ := hT.at
  refine ⟨_, rfl, _, rfl, l, _, rfl, .inl hl, _, _, rfl, rfl, _, rfl, ?_⟩
  refine ite2 (fun c => ?_) (fun c => ?_)
  · have ha : a < ts.length := by have := of_decide_eq_true c; omega
    obtain ⟨q0, hq, hs⟩ := hat a ts[a] (List.getElem?_eq_getElem ha)
    refine ⟨_, rfl, _, rfl, l, _, _, _, rfl, rfl, hl, hq, q0, _, 0, _, rfl, rfl, hs, rfl, rfl, _, rfl, ?_⟩
    rw [isS_some (List.getElem?_eq_getElem ha)] at q
    refine ite2 (fun c2 => ?_) (fun c2 => ?_)
    · have e : ts[a].1 = "sign" := V.str.inj (of_decide_eq_true c2)
      obtain ⟨k, hk⟩ := (hT.2.2 _ (List.getElem_mem ha)).2 e
      rw [decide_eq_true e, hk] at q
      refine ⟨_, rfl, _, rfl, l, _, _, _, rfl, rfl, hl, hq, q0, _, 1, _, rfl, rfl, hs, rfl, _, rfl, k, z, congrArg V.str hk, rfl, q⟩
    · have e : ¬ ts[a].1 = "sign" := fun e => c2 (decide_eq_true (congrArg V.str e))
      rw [decide_eq_false e] at q
      exact q
  · have ha : ts.length ≤ a := Nat.le_of_not_lt fun h => c (decide_eq_true (show (a : Int) < (vs.length : Int) by omega))
    rw [isS_none ha] at q
    exact q
theorem ok_is_pattern (T : Txt K mg A D) : FnOk P w K mg base CX0 1 (A 23) (D 23) ["tokens", "at"] (yIsP K) := by
  refine T.F_is_pattern.ok sc_is_pattern (fun vs H Q E h => ?_) (fun cdv A' outer s H vs Q E hr h => ?_)
  · obtain ⟨l, ts, a, rfl, _⟩ := h; rfl
  obtain ⟨l, ts, a, rfl, hT, q⟩ := h
  have hnd := sc_is_pattern.nd
  refine ⟨_, (pss_one (ps_ret (pe_and (pe_cmpR op_lt (pv 1) (pe_callB call_len_seq rfl T.z_len PySem.boot_len (pa_cons (pv 0) pa_nil)) (nomark _)) (pe_one (pe_cmpR op_in_seq (pe_ix (r := rIxT K) ix_tup (pe_ix (r := rIxL K) ix_list (pv 0) (pv 1) (fun _ _ => rfl)) pe_int (fun _ _ => rfl)) (pe_tup (pa_cons pe_str (pa_cons pe_str pa_nil))) (by rfl)))))), ?_⟩
  obtain ⟨vs, hl, _, hn, hat⟩ := hT.at
  refine ⟨_, rfl, _, rfl, l, _, rfl, .inl hl, _, _, rfl, rfl, _, rfl, ?_⟩
  refine ite2 (fun c => ?_) (fun c => ?_)
  · have ha : a < ts.length := by have := of_decide_eq_true c; omega
    obtain ⟨q0, hq, hs⟩ := hat a ts[a] (List.getElem?_eq_getElem ha)
    refine ⟨_, rfl, _, rfl, l, _, _, _, rfl, rfl, hl, hq, q0, _, 0, _, rfl, rfl, hs, rfl, (by show 2 ≤ sizeLine; decide), fun t ht => ?_⟩
    refine ⟨t, _, rfl, .inr (SqT.of upd_same), rfl, rfl, ?_⟩
    rw [isP_some (List.getElem?_eq_getElem ha)] at q
    have e : inV (V.str ts[a].1) [.str "word", .str "start"] = (decide (ts[a].1 = "word") || decide (ts[a].1 = "start")) := in_two _ _ _
    show Q (.bl (inV (V.str ts[a].1) [.str "word", .str "start"])) _
    rw [e]
    exact q _ (same_new ht)
  · have ha : ts.length ≤ a := Nat.le_of_not_lt fun h => c (decide_eq_true (show (a : Int) < (vs.length : Int) by omega))
    rw [isP_none ha] at q
    exact q _ (Same.refl H)
theorem ok_is_digit (T : Txt K mg A D) : FnOk P w K mg base CX0 1 (A 24) (D 24) ["tokens", "at"] (yIsD K) := by
  refine T.F_is_digit.ok sc_is_digit (fun vs H Q E h => ?_) (fun cdv A' outer s H vs Q E hr h => ?_)
  · obtain ⟨l, ts, a, rfl, _⟩ := h; rfl
  obtain ⟨l, ts, a, rfl, hT, q⟩ := h
  have hnd := sc_is_digit.nd
  obtain ⟨tS, hDIGITS⟩ := T.c_DIGITS
  refine ⟨_, (pss_cons (ps_if (PW.pt (pw_or (pt_cmpR op_ge (pv 1) (pe_callB call_len_seq rfl T.z_len PySem.boot_len (pa_cons (pv 0) pa_nil)) (nomark _)) (pw_or1 (pt_cmpR op_ne (pe_ix (r := rIxT K) ix_tup (pe_ix (r := rIxL K) ix_list (pv 0) (pv 1) (fun _ _ => rfl)) pe_int (fun _ _ => rfl)) pe_str (nomark _))))) (pss_one (ps_ret pe_bl)) pss_nil) (pss_one (ps_ret (pe_and (pe_cmpR op_eq (pe_callB call_len_str rfl T.z_len PySem.boot_len (pa_cons (pe_ix (r := rIxT K) ix_tup (pe_ix (r := rIxL K) ix_list (pv 0) (pv 1) (fun _ _ => rfl)) pe_int (fun _ _ => rfl)) pa_nil)) pe_int (nomark _)) (pe_one (pe_cmpR op_in_sign (pe_ix (r := rIxT K) ix_tup (pe_ix (r := rIxL K) ix_list (pv 0) (pv 1) (fun _ _ => rfl)) pe_int (fun _ _ => rfl)) (pe_glob (v := V.str _) rfl hDIGITS ⟨_, rfl⟩) rfl)))))), ?_⟩
  obtain ⟨vs, hl, _, hn, hat⟩ := hT.at
  refine ⟨_, rfl, _, rfl, l, _, rfl, .inl hl, _, _, rfl, rfl, _, rfl, ?_⟩
  refine ite2 (fun c => ?_) (fun c => ?_)
  · have ha : ts.length ≤ a := by have : (a : Int) ≥ (vs.length : Int) := of_decide_eq_true c; omega
    rw [isD_none ha] at q
    exact iteT q
  · have ha : a < ts.length := Nat.lt_of_not_le fun h => c (decide_eq_true (show (a : Int) ≥ (vs.length : Int) by omega))
    obtain ⟨q0, hq, hs⟩ := hat a ts[a] (List.getElem?_eq_getElem ha)
    refine ⟨_, rfl, _, rfl, l, _, _, _, rfl, rfl, hl, hq, q0, _, 0, _, rfl, rfl, hs, rfl, rfl, _, rfl, ?_⟩
    rw [isD_some (List.getElem?_eq_getElem ha)] at q
    have hz := (hT.2.2 _ (List.getElem_mem ha)).1
    refine ite2 (fun c2 => ?_) (fun c2 => ?_)
    · have e : ¬ ts[a].1 = "word" := fun e => by rw [decide_eq_true (congrArg V.str e)] at c2; cases c2
      rw [decide_eq_false e] at q
      exact q
    · have e : ts[a].1 = "word" := by
        by_cases e : ts[a].1 = "word"
        · exact e
        · exact absurd (by rw [decide_eq_false fun e2 => e (V.str.inj e2)]; rfl) c2
      rw [decide_eq_true e] at q
      refine ⟨_, rfl, _, rfl, l, _, _, _, rfl, rfl, hl, hq, q0, _, 1, _, rfl, rfl, hs, rfl, _, rfl, (by show _ ≤ 16777216; omega), rfl, _, rfl, ?_⟩
      refine ite2 (fun c3 => ?_) (fun c3 => ?_)
      · have e1 : ts[a].2.length = 1 := by
          have := V.int.inj (of_decide_eq_true c3)
          omega
        obtain ⟨k, hk⟩ := one_S e1
        rw [decide_eq_true e1, hk] at q
        refine ⟨_, rfl, _, rfl, l, _, _, _, rfl, rfl, hl, hq, q0, _, 1, _, rfl, rfl, hs, rfl, k, digitsS, congrArg V.str hk, rfl, q⟩
      · have e1 : ¬ ts[a].2.length = 1 := fun e => c3 (decide_eq_true (by rw [e]; rfl))
        rw [decide_eq_false e1] at q
        exact q
theorem ok_fault_at (T : Txt K mg A D) : FnOk P w K mg base CX0 1 (A 21) (D 21) ["tokens", "at"] (yFault K) := by
  refine T.F_fault_at.ok sc_fault_at (fun vs H Q E h => ?_) (fun cdv A' outer s H vs Q E hr h => ?_)
  · obtain ⟨l, ts, a, rfl, _⟩ := h; rfl
  obtain ⟨l, ts, a, rfl, hT, q⟩ := h
  have hnd := sc_fault_at.nd
  refine ⟨_, (pss_cons (ps_if (pt_cmpR op_lt (pv 1) (pe_callB call_len_seq rfl T.z_len PySem.boot_len (pa_cons (pv 0) pa_nil)) (nomark _)) (pss_one (ps_ret pe_str)) pss_nil) (pss_one (ps_ret pe_str))), ?_⟩
  obtain ⟨vs, hl, _, hn, hat⟩ := hT.at
  refine ⟨_, rfl, _, rfl, l, _, rfl, .inl hl, _, _, rfl, rfl, _, rfl, ?_⟩
  unfold faultW at q
  refine ite2 (fun c => ?_) (fun c => ?_)
  · have ha : a < ts.length := by have := of_decide_eq_true c; omega
    rw [if_pos ha] at q
    exact q
  · have ha : ¬ a < ts.length := fun h => c (decide_eq_true (show (a : Int) < (vs.length : Int) by omega))
    rw [if_neg ha] at q
    exact q
theorem ok_row_at (T : Txt K mg A D) : FnOk P w K mg base (L2.CX P w) 3 (A 19) (D 19) ["tokens", "at", "gap", "closing"] (yRow K (A 101)) := by
  refine T.F_row_at.okX sc_row_at (fun vs H Q E h => ?_) (fun cdv A' outer s H vs Q E hr h => ?_)
  · obtain ⟨l, ts, a, g, c, rfl, _⟩ := h; rfl
  obtain ⟨l, ts, a, g, k, rfl, hT, q⟩ := h
  have hnd := sc_row_at.nd
  have G_is_pattern := ok_is_pattern (P := P) (w := w) (base := base) T
  have G_is_sign := ok_is_sign (P := P) (w := w) (base := base) T
  have G_fault_at := ok_fault_at (P := P) (w := w) (base := base) T
  have GI_QuestionFault := ok_QuestionFault (P := P) (w := w) (base := base) T
  obtain ⟨tM, hMOST_PATTERNS⟩ := T.c_MOST_PATTERNS
  refine ⟨_, (pss_cons (ps_set (i := 4) hnd rfl (Or.inl rfl) (pv 1)) (pss_cut (ps_while (passes_of rfl) (PW.pt (pw_and (pt_val (pe_call G_is_pattern (hr.mono (by first | decide | omega)) rfl T.m_is_pattern T.F_is_pattern.kp T.b_is_pattern .nil pass0 (pa_cons (pv 0) (pa_cons (pv 1) pa_nil)))) (pw_and1 (pt_cmpR op_lt (pe_op op_sub (pv 1) (pv 4)) (pe_glob (v := V.int _) rfl hMOST_PATTERNS ⟨_, rfl⟩) (nomark _))))) (pss_one (ps_aug (i := 1) hnd rfl (Or.inl rfl) pe_int ip_add))) (pss_cons (ps_if (PW.pt (pw_or (pt_cmpR op_eq (pv 1) (pv 4) (nomark _)) (pw_or1 (pt_not (pt_val (pe_call G_is_sign (hr.mono (by first | decide | omega)) rfl T.m_is_sign T.F_is_sign.kp T.b_is_sign .nil pass0 (pa_cons (pv 0) (pa_cons (pv 1) (pa_cons (pv 3) pa_nil))))))))) (pss_one (ps_raise rfl (takes_of rfl rfl rfl rfl) (pmk_oex T.ox_QuestionFault T.iC_QuestionFault T.tI_QuestionFault GI_QuestionFault (hr.mono (by first | decide | omega)) T.b_QuestionFault .nil pass0 rfl T.gC_QuestionFault (pa_cons (pv 1) (pa_cons (pe_call G_fault_at (hr.mono (by first | decide | omega)) rfl T.m_fault_at T.F_fault_at.kp T.b_fault_at .nil pass0 (pa_cons (pv 0) (pa_cons (pv 1) pa_nil))) pa_nil))))) pss_nil) (pss_one (ps_ret (pe_tup (pa_cons (pe_tup (pa_cons pe_str (pa_cons (pe_callTy call_tuple_of rfl T.z_tuple (by decide +kernel) (pa_cons (pe_slice sl_list (pv 0) (po_some (pv 4)) (po_some (pv 1))) pa_nil)) (pa_cons (pv 2) pa_nil)))) (pa_cons (pe_op op_add (pv 1) pe_int) pa_nil)))))))), ?_⟩
  refine ⟨_, rfl, ?_⟩
  refine ⟨fun σ H' => σ = [some (.ref l), some (.int ((a + patN ts a : Nat) : Int)), some (.int (g : Int)), some (.str (S [k])), some (.int (a : Int))] ∧ Same H H', ?_, ?_⟩
  · refine ⟨fun m σ H' => ∃ j, j + m = patN ts a ∧ σ = [some (.ref l), some (.int ((a + j : Nat) : Int)), some (.int (g : Int)), some (.str (S [k])), some (.int (a : Int))] ∧ Same H H', ⟨_, 0, Nat.zero_add _, rfl, Same.refl H⟩, ?_⟩
    rintro m σ H1 ⟨j, hj, rfl, s1⟩
    refine ⟨_, rfl, _, rfl, l, ts, a + j, rfl, hT.same s1, fun H2 s2 => ⟨_, rfl, ?_⟩⟩
    refine ite2 (fun c => ?_) (fun c => ?_)
    · refine ⟨_, rfl, _, rfl, _, _, rfl, rfl, _, _, rfl, rfl, _, rfl, ?_⟩
      refine ite2 (fun c2 => ?_) (fun c2 => ?_)
      · have c2' : ((a + j : Nat) : Int) - (a : Int) < 6 := of_decide_eq_true c2
        have hm : m ≠ 0 := fun e => by
          rcases patN_stop ts a with z | z
          · omega
          · rw [show patN ts a = j by omega, c] at z; cases z
        refine ⟨fun σ' H'' => ∃ j, j + (m - 1) = patN ts a ∧ σ' = [some (.ref l), some (.int ((a + j : Nat) : Int)), some (.int (g : Int)), some (.str (S [k])), some (.int (a : Int))] ∧ Same H H'', fun _ _ h => ⟨m - 1, by omega, h⟩, ?_⟩
        refine ⟨_, rfl, _, _, rfl, rfl, j + 1, by omega, ?_, s1.trans s2⟩
        rw [show ((a + (j + 1) : Nat) : Int) = ((a + j : Nat) : Int) + 1 by omega]
        rfl
      · have c2' : ¬ ((a + j : Nat) : Int) - (a : Int) < 6 := fun h => c2 (decide_eq_true h)
        have h6 := patN_le ts a
        rw [show patN ts a = j by omega]
        exact ⟨rfl, s1.trans s2⟩
    · have hm : patN ts a = j := by
        by_cases e : j < patN ts a
        · exact absurd (patN_get e) c
        · omega
      rw [hm]
      exact ⟨rfl, s1.trans s2⟩
  · rintro σ H1 ⟨rfl, s1⟩
    have hT1 := hT.same s1
    have hq : Out K (A 101) H1 (rowR ts a g (S [k])) Q E := q.same s1
    unfold rowR at hq
    refine ⟨_, rfl, _, rfl, rfl, _, rfl, ?_⟩
    refine ite2 (fun c => ?_) (fun c => ?_)
    · have e : patN ts a = 0 := by have := V.int.inj (of_decide_eq_true c); omega
      rw [if_pos (.inl e)] at hq
      exact ⟨_, rfl, _, rfl, _, rfl, l, ts, _, rfl, hT1, raise_use hq⟩
    · have e : patN ts a ≠ 0 := fun e => c (decide_eq_true (congrArg V.int (by omega)))
      refine ⟨_, rfl, _, rfl, _, rfl, l, ts, _, _, rfl, hT1, _, rfl, ?_⟩
      cases hs : isS ts (S [k]) (a + patN ts a) with
      | false =>
        rw [if_pos (.inr hs)] at hq
        exact ⟨_, rfl, _, rfl, _, rfl, l, ts, _, rfl, hT1, raise_use hq⟩
      | true =>
        rw [if_neg (by rintro (z | z); exact e z; rw [hs] at z; cases z)] at hq
        obtain ⟨⟨vs, h1, h2, h3⟩, h4⟩ := hT1
        have hd2 : DpAll K H1 (cutV vs (some (a : Int)) (some ((a + patN ts a : Nat) : Int))) (((ts.drop a).take (patN ts a)).map encT) := by
          rw [cutV_mid, Nat.add_sub_cancel_left, List.map_take, List.map_drop]
          exact DpAll.take (DpAll.drop h2 a) _
        refine ⟨_, rfl, _, rfl, _, rfl, _, rfl, _, rfl, l, vs, rfl, SqL.of h1, fun p hp => ?_⟩
        have sp := same_new (o := .lst (cutV vs (some (a : Int)) (some ((a + patN ts a : Nat) : Int)))) hp
        refine ⟨p, _, rfl, .inl ⟨SqL.of upd_same, fun u hu => ⟨_, rfl, (by show 3 ≤ sizeLine; decide), fun t ht => ?_⟩⟩⟩
        refine ⟨_, rfl, _, _, rfl, rfl, (by show 2 ≤ sizeLine; decide), fun t2 ht2 => ?_⟩
        have su := sp.trans (same_new (o := .tup (cutV vs (some (a : Int)) (some ((a + patN ts a : Nat) : Int)))) hu)
        have st := same_new (o := .tup [.str "row", .ref u, .int (g : Int)]) ht
        have st2 := same_new (o := .tup [.ref t, .int (((a + patN ts a : Nat) : Int) + 1)]) ht2
        have sa := (su.trans st).trans st2
        refine hq t2 (.ref t) _ sa (SqT.of ?_) ?_
        · rw [upd_same]; rfl
        · refine .tup (SqT.of (st2 _ _ upd_same)) (.cons (.str _) (.cons (.tup (SqT.of (st2 _ _ (st _ _ upd_same))) ?_) (.cons (.int _) .nil)))
          exact DpAll.same sa hd2
theorem ok_gap_at (T : Txt K mg A D) : FnOk P w K mg base (L2.CX P w) 3 (A 18) (D 18) ["tokens", "at"] (yGap K (A 101)) := by
  refine T.F_gap_at.okX sc_gap_at (fun vs H Q E h => ?_) (fun cdv A' outer s H vs Q E hr h => ?_)
  · obtain ⟨l, ts, a, rfl, _⟩ := h; rfl
  obtain ⟨l, ts, a, rfl, hT, q1, q2⟩ := h
  have hnd := sc_gap_at.nd
  have G_is_digit := ok_is_digit (P := P) (w := w) (base := base) T
  have G_fault_at := ok_fault_at (P := P) (w := w) (base := base) T
  have GI_QuestionFault := ok_QuestionFault (P := P) (w := w) (base := base) T
  refine ⟨_, (pss_cons (ps_if (pt_val (pe_call G_is_digit (hr.mono (by first | decide | omega)) rfl T.m_is_digit T.F_is_digit.kp T.b_is_digit .nil pass0 (pa_cons (pv 0) (pa_cons (pv 1) pa_nil)))) (pss_one (ps_ret (pe_callTy call_int_str rfl T.z_int (by decide +kernel) (pa_cons (pe_ix (r := rIxT K) ix_tup (pe_ix (r := rIxL K) ix_list (pv 0) (pv 1) (fun _ _ => rfl)) pe_int (fun _ _ => rfl)) pa_nil)))) pss_nil) (pss_one (ps_raise rfl (takes_of rfl rfl rfl rfl) (pmk_oex T.ox_QuestionFault T.iC_QuestionFault T.tI_QuestionFault GI_QuestionFault (hr.mono (by first | decide | omega)) T.b_QuestionFault .nil pass0 rfl T.gC_QuestionFault (pa_cons (pv 1) (pa_cons (pe_call G_fault_at (hr.mono (by first | decide | omega)) rfl T.m_fault_at T.F_fault_at.kp T.b_fault_at .nil pass0 (pa_cons (pv 0) (pa_cons (pv 1) pa_nil))) pa_nil)))))), ?_⟩
  obtain ⟨vs, hl, _, hn, hat⟩ := hT.at
  refine ⟨_, rfl, _, rfl, l, ts, a, rfl, hT, _, rfl, ?_⟩
  refine ite2 (fun c => ?_) (fun c => ?_)
  · have ha : a < ts.length := Nat.lt_of_not_le fun h => by rw [isD_none h] at c; cases c
    obtain ⟨q0, hq, hs⟩ := hat a ts[a] (List.getElem?_eq_getElem ha)
    have c' := c
    rw [isD_some (List.getElem?_eq_getElem ha), Bool.and_eq_true, Bool.and_eq_true, decide_eq_true_eq, decide_eq_true_eq, decide_eq_true_eq] at c'
    obtain ⟨k, hk⟩ := one_S c'.2.1
    refine ⟨_, rfl, _, rfl, l, _, _, _, rfl, rfl, hl, hq, q0, _, 1, _, rfl, rfl, hs, rfl, _, (gapN ts a : Int), rfl, ?_, (by rw [c'.2.1]; decide), q1 c⟩
    have hg : gapN ts a = k - 48 := by
      unfold gapN
      rw [List.getD_eq_getElem?_getD, List.getElem?_eq_getElem ha]
      show (tl ts[a].2).headD 0 - 48 = _
      rw [hk]; rfl
    rw [hg, hk]
    rw [hk] at c'
    exact int_digit k c'.2.2
  · exact ⟨_, rfl, _, rfl, _, rfl, l, ts, a, rfl, hT, raise_use (q2 (by simpa using c))⟩
end

inductive BR (ts : List Pat) (d a : Nat) : Rs Qu → Prop
  | bad {p w} : PQ ts d a (.bad p w) → BR ts d a (.bad p w)
  | shut {q b} : PQ ts d a (.ok q b) → isS ts ")" b = false → BR ts d a (.bad b (faultW ts b))
  | ok {q b} : PQ ts d a (.ok q b) → isS ts ")" b = true → BR ts d a (.ok q (b + 1))
theorem Same.spT {K : PySem.W.Frag} {H H' : Hp} {p : Addr} {xs : List V} (s : Same H H') (h : SqT K H p xs) : SqT K H' p xs := (TK.same s).seq h
section
variable {P : Program} {w : World} {K : PySem.W.Frag} {mg : Str → Option Value} {base : Heap} {A : Nat → Addr} {D : Nat → FuncData}
theorem ok_bracket_at (T : Txt K mg A D) (n : Nat) (G_question_at : FnOk P w K mg base (L2.CX P w) (5 * n + 3) (A 12) (D 12) ["tokens", "at", "depth"] (yRd K (A 101) PQ n)) : FnOk P w K mg base (L2.CX P w) (5 * n + 4) (A 20) (D 20) ["tokens", "at", "depth"] (yRd K (A 101) BR n) := by
  refine T.F_bracket_at.okX (k := 5 * n + 3) sc_bracket_at (fun vs H Q E h => ?_) (fun cdv A' outer s H vs Q E hr h => ?_)
  · obtain ⟨l, ts, a, d, r, rfl, _⟩ := h; rfl
  obtain ⟨l, ts, a, d, r, rfl, hT, hd, hn, hR, q⟩ := h
  have hnd := sc_bracket_at.nd
  have G_is_sign := ok_is_sign (P := P) (w := w) (base := base) T
  have G_fault_at := ok_fault_at (P := P) (w := w) (base := base) T
  have GI_QuestionFault := ok_QuestionFault (P := P) (w := w) (base := base) T
  refine ⟨_, (pss_cons (ps_asg (pe_callS G_question_at (hr.mono (by first | decide | omega)) rfl T.m_question_at T.F_question_at.kp T.b_question_at (fun σ => passAt (takes_of rfl rfl rfl rfl) σ) (pa_cons (pv 0) (pa_cons (pv 1) (pa_cons (pv 2) pa_nil)))) (pg_tup rfl (pgs_cons (pg_name (i := 3) hnd rfl (Or.inl rfl)) (pgs_cons (pg_name (i := 1) hnd rfl (Or.inl rfl)) pgs_nil)))) (pss_cons (ps_if (pt_not (pt_val (pe_call G_is_sign (hr.mono (by first | decide | omega)) rfl T.m_is_sign T.F_is_sign.kp T.b_is_sign .nil pass0 (pa_cons (pv 0) (pa_cons (pv 1) (pa_cons pe_str pa_nil)))))) (pss_one (ps_raise rfl (takes_of rfl rfl rfl rfl) (pmk_oex T.ox_QuestionFault T.iC_QuestionFault T.tI_QuestionFault GI_QuestionFault (hr.mono (by first | decide | omega)) T.b_QuestionFault .nil pass0 rfl T.gC_QuestionFault (pa_cons (pv 1) (pa_cons (pe_call G_fault_at (hr.mono (by first | decide | omega)) rfl T.m_fault_at T.F_fault_at.kp T.b_fault_at .nil pass0 (pa_cons (pv 0) (pa_cons (pv 1) pa_nil))) pa_nil))))) pss_nil) (pss_one (ps_ret (pe_tup (pa_cons (pv 3) (pa_cons (pe_op op_add (pv 1) pe_int) pa_nil))))))), ?_⟩
  cases hR with
  | bad h1 => exact ⟨_, rfl, _, rfl, _, rfl, l, ts, a, d, _, rfl, hT, hd, hn, h1, q⟩
  | shut h1 h2 =>
    refine ⟨_, rfl, _, rfl, _, rfl, l, ts, a, d, _, rfl, hT, hd, hn, h1, fun t v H1 s1 ht dv => ⟨t, _, rfl, ht, rfl, _, _, rfl, _, _, rfl, rfl, ?_⟩⟩
    refine ⟨_, rfl, _, rfl, l, ts, _, _, rfl, hT.same s1, _, rfl, ?_⟩
    rw [h2]
    exact ⟨_, rfl, _, rfl, _, rfl, l, ts, _, rfl, hT.same s1, raise_use (Raisd.same q s1)⟩
  | ok h1 h2 =>
    refine ⟨_, rfl, _, rfl, _, rfl, l, ts, a, d, _, rfl, hT, hd, hn, h1, fun t v H1 s1 ht dv => ⟨t, _, rfl, ht, rfl, _, _, rfl, _, _, rfl, rfl, ?_⟩⟩
    refine ⟨_, rfl, _, rfl, l, ts, _, _, rfl, hT.same s1, _, rfl, ?_⟩
    rw [h2]
    refine ⟨_, rfl, _, rfl, _, _, rfl, rfl, (by show 2 ≤ sizeLine; decide), fun t2 ht2 => ?_⟩
    exact q t2 v _ (s1.trans (same_new ht2)) (SqT.of upd_same) (Dp.same (same_new ht2) dv)
theorem ok_begins_clause (T : Txt K mg A D) : FnOk P w K mg base CX0 2 (A 15) (D 15) ["tokens", "at"] (fun vs H Q _ => ∃ (l : Addr) (ts : List Pat) (a : Nat), vs = [.ref l, .int (a : Int)] ∧ TkL K H l ts ∧ ∀ H', Same H H' → Q (.bl (begC ts a)) H') := by
  refine T.F_begins_clause.ok sc_begins_clause (fun vs H Q E h => ?_) (fun cdv A' outer s H vs Q E hr h => ?_)
  · obtain ⟨l, ts, a, rfl, _⟩ := h; rfl
  obtain ⟨l, ts, a, rfl, hT, q⟩ := h
  have hnd := sc_begins_clause.nd
  have G_is_sign := ok_is_sign (P := P) (w := w) (base := base) T
  have G_is_pattern := ok_is_pattern (P := P) (w := w) (base := base) T
  refine ⟨_, (pss_one (ps_ret (pe_or (pe_call G_is_pattern (hr.mono (by first | decide | omega)) rfl T.m_is_pattern T.F_is_pattern.kp T.b_is_pattern .nil pass0 (pa_cons (pv 0) (pa_cons (pv 1) pa_nil))) (pe_one (pe_call G_is_sign (hr.mono (by first | decide | omega)) rfl T.m_is_sign T.F_is_sign.kp T.b_is_sign .nil pass0 (pa_cons (pv 0) (pa_cons (pv 1) (pa_cons pe_str pa_nil)))))))), ?_⟩
  refine ⟨_, rfl, _, rfl, l, ts, a, rfl, hT, fun H1 s1 => ⟨_, rfl, ?_⟩⟩
  unfold begC at q
  refine ite2 (fun c => ?_) (fun c => ?_)
  · rw [c, Bool.true_or] at q
    exact q _ s1
  · rw [Bool.not_eq_true] at c
    rw [c, Bool.false_or] at q
    exact ⟨_, rfl, _, rfl, l, ts, a, clauseS, rfl, hT.same s1, q _ s1⟩
theorem neg_two (v : V) (q : Qu) {K : PySem.W.Frag} {H : Hp} {t : Addr} (h : SqT K H t [.str "not", v]) (d : Dp K H v (encU q)) : Dp K H (.ref t) (encU (.neg q)) := .tup h (.cons (.str _) (.cons d .nil))
theorem dash_le (ts : List Pat) (a : Nat) : dashN ts a ≤ ts.length := by
  have := (List.takeWhile_sublist (fun (t : Pat) => decide (t.1 = "sign") && decide ((tl t.2).headD 0 ∈ tl "-")) (l := ts.drop a)).length_le
  rw [List.length_drop] at this
  unfold dashN
  omega
theorem dash_get {ts : List Pat} {a j : Nat} (h : j < dashN ts a) : isS ts "-" (a + j) = true := by
  obtain ⟨t, h1, h2⟩ := tw_get h
  rw [List.getElem?_drop] at h1
  rw [isS_some h1]; exact h2
theorem dash_stop (ts : List Pat) (a : Nat) : isS ts "-" (a + dashN ts a) = false := by
  cases q : ts[a + dashN ts a]? with
  | none => exact isS_none (List.getElem?_eq_none_iff.mp q)
  | some t =>
    rw [isS_some q]
    refine tw_stop (f := fun (t : Pat) => decide (t.1 = "sign") && decide ((tl t.2).headD 0 ∈ tl "-")) (l := ts.drop a) ?_
    rw [List.getElem?_drop]; exact q
theorem ok_clause_at (T : Txt K mg A D) (n : Nat) (G_plain_clause_at : FnOk P w K mg base (L2.CX P w) (5 * n + 5) (A 17) (D 17) ["tokens", "at", "depth"] (yRd K (A 101) PP (n + 1))) : FnOk P w K mg base (L2.CX P w) (5 * n + 6) (A 16) (D 16) ["tokens", "at", "depth"] (yRd K (A 101) PC (n + 1)) := by
  refine T.F_clause_at.okX (k := 5 * n + 5) sc_clause_at (fun vs H Q E h => ?_) (fun cdv A' outer s H vs Q E hr h => ?_)
  · obtain ⟨l, ts, a, d, r, rfl, _⟩ := h; rfl
  obtain ⟨l, ts, a, d, r, rfl, hT, hd, hn, hR, q⟩ := h
  obtain ⟨r0, hRp, rfl⟩ : ∃ r0, PP ts d (a + dashN ts a) r0 ∧ r = negsR (dashN ts a) r0 := by cases hR with | mk hPP => exact ⟨_, hPP, rfl⟩
  have hnd := sc_clause_at.nd
  have G_is_sign := ok_is_sign (P := P) (w := w) (base := base) T
  refine ⟨_, (pss_cons (ps_set (i := 3) hnd rfl (Or.inl rfl) (pv 1)) (pss_cons (ps_while (passes_of rfl) (pt_val (pe_call G_is_sign (hr.mono (by first | decide | omega)) rfl T.m_is_sign T.F_is_sign.kp T.b_is_sign .nil pass0 (pa_cons (pv 0) (pa_cons (pv 1) (pa_cons pe_str pa_nil))))) (pss_one (ps_aug (i := 1) hnd rfl (Or.inl rfl) pe_int ip_add))) (pss_cons (ps_set (i := 4) hnd rfl (Or.inl rfl) (pe_op op_sub (pv 1) (pv 3))) (pss_cons (ps_asg (pe_callS G_plain_clause_at (hr.mono (by first | decide | omega)) rfl T.m_plain_clause_at T.F_plain_clause_at.kp T.b_plain_clause_at (fun σ => passAt (takes_of rfl rfl rfl rfl) σ) (pa_cons (pv 0) (pa_cons (pv 1) (pa_cons (pv 2) pa_nil)))) (pg_tup rfl (pgs_cons (pg_name (i := 5) hnd rfl (Or.inl rfl)) (pgs_cons (pg_name (i := 1) hnd rfl (Or.inl rfl)) pgs_nil)))) (pss_cons (ps_for (passes_of rfl) rfl (pi_range1 rfl T.z_range (pa_cons (pv 4) pa_nil)) (pg_name (i := 6) hnd rfl (Or.inl rfl)) (pss_one (ps_set (i := 5) hnd rfl (Or.inl rfl) (pe_tup (pa_cons pe_str (pa_cons (pv 5) pa_nil)))))) (pss_one (ps_ret (pe_tup (pa_cons (pv 5) (pa_cons (pv 1) pa_nil)))))))))), ?_⟩
  refine ⟨_, rfl, fun m σ H' => ∃ j, j + m = dashN ts a ∧ σ = [some (.ref l), some (.int ((a + j : Nat) : Int)), some (.int (d : Int)), some (.int (a : Int)), none, none, none] ∧ H' = H, ⟨_, 0, Nat.zero_add _, rfl, rfl⟩, ?_⟩
  rintro m σ H1 ⟨j, hj, rfl, rfl⟩
  refine ⟨_, rfl, _, rfl, l, ts, a + j, _, rfl, hT, _, rfl, ?_⟩
  refine ite2 (fun c => ?_) (fun c => ?_)
  · have hm : m ≠ 0 := fun e => by
      have := dash_stop ts a
      rw [show dashN ts a = j by omega, c] at this
      cases this
    refine ⟨fun σ' H'' => ∃ j, j + (m - 1) = dashN ts a ∧ σ' = [some (.ref l), some (.int ((a + j : Nat) : Int)), some (.int (d : Int)), some (.int (a : Int)), none, none, none] ∧ H'' = H1, fun _ _ h => ⟨m - 1, by omega, h⟩, ?_⟩
    refine ⟨_, rfl, _, _, rfl, rfl, j + 1, by omega, ?_, rfl⟩
    rw [show ((a + (j + 1) : Nat) : Int) = ((a + j : Nat) : Int) + 1 by omega]
    rfl
  · have hm : dashN ts a = j := by
      by_cases e : j < dashN ts a
      · exact absurd (dash_get e) c
      · omega
    subst hm
    refine ⟨_, rfl, _, rfl, _, _, rfl, rfl, ?_⟩
    refine ⟨_, rfl, _, rfl, _, rfl, l, ts, _, d, _, rfl, hT, hd, hn, hRp, ?_⟩
    cases r0 with
    | bad p w => exact q
    | ok q0 b =>
      intro t v H2 s2 ht dv
      refine ⟨t, _, rfl, ht, rfl, _, _, rfl, _, _, rfl, rfl, ?_⟩
      have hdl := dash_le ts a
      have htl := hT.2.1
      refine ⟨_, rfl, _, rfl, (by omega), (by omega), ?_⟩
      rw [show (((a + dashN ts a : Nat) : Int) - (a : Int)).toNat = dashN ts a by omega]
      refine for_range (n := dashN ts a) (fun i σ H' => ∃ (v : V) (c4 c6 : Option V), σ = [some (.ref l), some (.int (b : Int)), some (.int (d : Int)), some (.int (a : Int)), c4, some v, c6] ∧ Same H1 H' ∧ Dp K H' v (encU (negs i q0)))
        ⟨v, _, _, rfl, s2, dv⟩ ?_ ?_
      · rintro i σ H3 hi ⟨v3, c4, c6, rfl, s3, dv3⟩
        refine ⟨_, rfl, (by show 2 ≤ sizeLine; decide), fun t4 ht4 => ?_⟩
        exact ⟨_, _, _, rfl, s3.trans (same_new ht4), neg_two v3 _ (SqT.of upd_same) (Dp.same (same_new ht4) dv3)⟩
      · rintro σ H3 ⟨v3, c4, c6, rfl, s3, dv3⟩
        refine ⟨_, rfl, _, rfl, (by show 2 ≤ sizeLine; decide), fun t4 ht4 => ?_⟩
        exact q t4 v3 _ (s3.trans (same_new ht4)) (SqT.of upd_same) (Dp.same (same_new ht4) dv3)
/-- plain clauses -/
theorem ok_plain_clause_at (T : Txt K mg A D) (n : Nat) (G_bracket_at : FnOk P w K mg base (L2.CX P w) (5 * n + 4) (A 20) (D 20) ["tokens", "at", "depth"] (yRd K (A 101) BR n)) : FnOk P w K mg base (L2.CX P w) (5 * n + 5) (A 17) (D 17) ["tokens", "at", "depth"] (yRd K (A 101) PP (n + 1)) := by
  refine T.F_plain_clause_at.okX (k := 5 * n + 4) sc_plain_clause_at (fun vs H Q E h => ?_) (fun cdv A' outer s H vs Q E hr h => ?_)
  · obtain ⟨l, ts, a, d, r, rfl, _⟩ := h; rfl
  obtain ⟨l, ts, a, d, r, rfl, hT, hd, hn, hR, q⟩ := h
  have hnd := sc_plain_clause_at.nd
  have G_is_sign := ok_is_sign (P := P) (w := w) (base := base) T
  have G_is_pattern := ok_is_pattern (P := P) (w := w) (base := base) T
  have G_fault_at := ok_fault_at (P := P) (w := w) (base := base) T
  have G_row_at := ok_row_at (P := P) (w := w) (base := base) T
  have G_gap_at := ok_gap_at (P := P) (w := w) (base := base) T
  have GI_QuestionFault := ok_QuestionFault (P := P) (w := w) (base := base) T
  obtain ⟨tM, hMOST_BRACKETS⟩ := T.c_MOST_BRACKETS
  refine ⟨_, (pss_cons (ps_if (pt_val (pe_call G_is_pattern (hr.mono (by first | decide | omega)) rfl T.m_is_pattern T.F_is_pattern.kp T.b_is_pattern .nil pass0 (pa_cons (pv 0) (pa_cons (pv 1) pa_nil)))) (pss_one (ps_ret (pe_tup (pa_cons (pe_tup (pa_cons pe_str (pa_cons (pe_tup (pa_cons (pe_ix (r := rIxL K) ix_list (pv 0) (pv 1) (fun _ _ => rfl)) pa_nil)) (pa_cons pe_int pa_nil)))) (pa_cons (pe_op op_add (pv 1) pe_int) pa_nil))))) pss_nil) (pss_cons (ps_if (pt_val (pe_call G_is_sign (hr.mono (by first | decide | omega)) rfl T.m_is_sign T.F_is_sign.kp T.b_is_sign .nil pass0 (pa_cons (pv 0) (pa_cons (pv 1) (pa_cons pe_str pa_nil))))) (pss_one (ps_ret (pe_tup (pa_cons (pe_tup (pa_cons pe_str pa_nil)) (pa_cons (pe_op op_add (pv 1) pe_int) pa_nil))))) pss_nil) (pss_cons (ps_if (pt_val (pe_call G_is_sign (hr.mono (by first | decide | omega)) rfl T.m_is_sign T.F_is_sign.kp T.b_is_sign .nil pass0 (pa_cons (pv 0) (pa_cons (pv 1) (pa_cons pe_str pa_nil))))) (pss_one (ps_ret (pe_callS G_row_at (hr.mono (by first | decide | omega)) rfl T.m_row_at T.F_row_at.kp T.b_row_at (fun σ => passAt (takes_of rfl rfl rfl rfl) σ) (pa_cons (pv 0) (pa_cons (pe_op op_add (pv 1) pe_int) (pa_cons pe_int (pa_cons pe_str pa_nil))))))) pss_nil) (pss_cons (ps_if (pt_val (pe_call G_is_sign (hr.mono (by first | decide | omega)) rfl T.m_is_sign T.F_is_sign.kp T.b_is_sign .nil pass0 (pa_cons (pv 0) (pa_cons (pv 1) (pa_cons pe_str pa_nil))))) (pss_one (ps_ret (pe_callS G_row_at (hr.mono (by first | decide | omega)) rfl T.m_row_at T.F_row_at.kp T.b_row_at (fun σ => passAt (takes_of rfl rfl rfl rfl) σ) (pa_cons (pv 0) (pa_cons (pe_op op_add (pv 1) pe_int) (pa_cons (pe_callS G_gap_at (hr.mono (by first | decide | omega)) rfl T.m_gap_at T.F_gap_at.kp T.b_gap_at (fun σ => passAt (takes_of rfl rfl rfl rfl) σ) (pa_cons (pv 0) (pa_cons (pe_op op_add (pv 1) pe_int) pa_nil))) (pa_cons pe_str pa_nil))))))) pss_nil) (pss_cons (ps_if (PW.pt (pw_and (pt_val (pe_call G_is_sign (hr.mono (by first | decide | omega)) rfl T.m_is_sign T.F_is_sign.kp T.b_is_sign .nil pass0 (pa_cons (pv 0) (pa_cons (pv 1) (pa_cons pe_str pa_nil))))) (pw_and1 (pt_cmpR op_lt (pv 2) (pe_glob (v := V.int _) rfl hMOST_BRACKETS ⟨_, rfl⟩) (nomark _))))) (pss_one (ps_ret (pe_callS G_bracket_at (hr.mono (by first | decide | omega)) rfl T.m_bracket_at T.F_bracket_at.kp T.b_bracket_at (fun σ => passAt (takes_of rfl rfl rfl rfl) σ) (pa_cons (pv 0) (pa_cons (pe_op op_add (pv 1) pe_int) (pa_cons (pe_op op_add (pv 2) pe_int) pa_nil)))))) pss_nil) (pss_one (ps_raise rfl (takes_of rfl rfl rfl rfl) (pmk_oex T.ox_QuestionFault T.iC_QuestionFault T.tI_QuestionFault GI_QuestionFault (hr.mono (by first | decide | omega)) T.b_QuestionFault .nil pass0 rfl T.gC_QuestionFault (pa_cons (pv 1) (pa_cons (pe_call G_fault_at (hr.mono (by first | decide | omega)) rfl T.m_fault_at T.F_fault_at.kp T.b_fault_at .nil pass0 (pa_cons (pv 0) (pa_cons (pv 1) pa_nil))) pa_nil)))))))))), ?_⟩
  refine ⟨_, rfl, _, rfl, l, ts, a, rfl, hT, fun H1 s1 => ⟨_, rfl, ?_⟩⟩
  have hT1 := hT.same s1
  have q1 := q.same s1
  obtain ⟨vs, hl, _, hln, hat⟩ := hT1.at
  have h6 : decide ((d : Int) < 6) = decide (d < 6) := by rw [Bool.eq_iff_iff, decide_eq_true_eq, decide_eq_true_eq]; omega
  cases hR with
  | pat ht hP =>
    rename_i t
    rw [hP]
    refine iteT ?_
    obtain ⟨qa, hq, hs⟩ := hat a t ht
    refine ⟨_, rfl, _, rfl, l, _, _, _, rfl, rfl, hl, hq, (by show 1 ≤ sizeLine; decide), fun t1 ht1 => ⟨(by show 3 ≤ sizeLine; decide), fun t2 ht2 => ?_⟩⟩
    refine ⟨_, rfl, _, _, rfl, rfl, (by show 2 ≤ sizeLine; decide), fun t3 ht3 => ?_⟩
    have sa1 := same_new (o := .tup [.ref qa]) ht1
    have sa2 := same_new (o := .tup [.str "row", .ref t1, .int 0]) ht2
    have sa3 := same_new (o := .tup [.ref t2, .int ((a : Int) + 1)]) ht3
    refine q1 t3 (.ref t2) _ ((sa1.trans sa2).trans sa3) (SqT.of ?_) ?_
    · rw [upd_same]; rfl
    · refine .tup (SqT.of (sa3 _ _ upd_same)) (.cons (.str _) (.cons (.tup (SqT.of (sa3 _ _ (sa2 _ _ upd_same))) (.cons (.tup (Same.spT ((sa1.trans sa2).trans sa3) hs) (.cons (.str _) (.cons (.str _) .nil))) .nil)) (.cons (.int _) .nil)))
  | all hP h1 =>
    rw [hP]
    refine iteF ?_
    refine ⟨_, rfl, _, rfl, l, ts, a, _, rfl, hT1, _, rfl, ?_⟩
    rw [h1]
    refine iteT ?_
    refine ⟨(by show 1 ≤ sizeLine; decide), fun t2 ht2 => ?_⟩
    refine ⟨_, rfl, _, _, rfl, rfl, (by show 2 ≤ sizeLine; decide), fun t3 ht3 => ?_⟩
    have sa2 := same_new (o := .tup [.str "all"]) ht2
    have sa3 := same_new (o := .tup [.ref t2, .int ((a : Int) + 1)]) ht3
    refine q1 t3 (.ref t2) _ (sa2.trans sa3) (SqT.of ?_) (.tup (SqT.of (sa3 _ _ upd_same)) (.cons (.str _) .nil))
    rw [upd_same]; rfl
  | quo hP h1 h2 =>
    rw [hP]
    refine iteF ?_
    refine ⟨_, rfl, _, rfl, l, ts, a, _, rfl, hT1, _, rfl, ?_⟩
    rw [h1]
    refine iteF ?_
    refine ⟨_, rfl, _, rfl, l, ts, a, _, rfl, hT1, _, rfl, ?_⟩
    rw [h2]
    refine iteT ?_
    exact ⟨_, rfl, _, rfl, _, _, rfl, rfl, l, ts, a + 1, 0, 34, rfl, hT1, q1⟩
  | gapB hP h1 h2 h3 h4 =>
    rw [hP]
    refine iteF ?_
    refine ⟨_, rfl, _, rfl, l, ts, a, _, rfl, hT1, _, rfl, ?_⟩
    rw [h1]
    refine iteF ?_
    refine ⟨_, rfl, _, rfl, l, ts, a, _, rfl, hT1, _, rfl, ?_⟩
    rw [h2]
    refine iteF ?_
    refine ⟨_, rfl, _, rfl, l, ts, a, _, rfl, hT1, _, rfl, ?_⟩
    rw [h3]
    refine iteT ?_
    exact ⟨_, rfl, _, rfl, _, _, rfl, rfl, _, rfl, _, rfl, _, _, rfl, rfl, l, ts, a + 1, rfl, hT1, (fun z => by rw [h4] at z; cases z), fun _ => q1⟩
  | gap hP h1 h2 h3 h4 =>
    rw [hP]
    refine iteF ?_
    refine ⟨_, rfl, _, rfl, l, ts, a, _, rfl, hT1, _, rfl, ?_⟩
    rw [h1]
    refine iteF ?_
    refine ⟨_, rfl, _, rfl, l, ts, a, _, rfl, hT1, _, rfl, ?_⟩
    rw [h2]
    refine iteF ?_
    refine ⟨_, rfl, _, rfl, l, ts, a, _, rfl, hT1, _, rfl, ?_⟩
    rw [h3]
    refine iteT ?_
    exact ⟨_, rfl, _, rfl, _, _, rfl, rfl, _, rfl, _, rfl, _, _, rfl, rfl, l, ts, a + 1, rfl, hT1, (fun _ => ⟨l, ts, a + 2, gapN ts (a + 1), 62, rfl, hT1, q1⟩), fun z => by rw [h4] at z; cases z⟩
  | brB hP h1 h2 h3 h4 h5 h6' =>
    rw [hP]
    refine iteF ?_
    refine ⟨_, rfl, _, rfl, l, ts, a, _, rfl, hT1, _, rfl, ?_⟩
    rw [h1]
    refine iteF ?_
    refine ⟨_, rfl, _, rfl, l, ts, a, _, rfl, hT1, _, rfl, ?_⟩
    rw [h2]
    refine iteF ?_
    refine ⟨_, rfl, _, rfl, l, ts, a, _, rfl, hT1, _, rfl, ?_⟩
    rw [h3]
    refine iteF ?_
    refine ⟨_, rfl, _, rfl, l, ts, a, _, rfl, hT1, _, rfl, ?_⟩
    rw [h4]
    refine iteT ?_
    refine ⟨_, rfl, _, _, rfl, rfl, _, rfl, ?_⟩
    rw [h6, decide_eq_true h5]
    refine iteT ?_
    exact ⟨_, rfl, _, rfl, _, _, rfl, rfl, _, rfl, _, _, rfl, rfl, l, ts, a + 1, d + 1, _, rfl, hT1, by omega, by omega, BR.bad h6', q1⟩
  | brC hP h1 h2 h3 h4 h5 h6' h7 =>
    rw [hP]
    refine iteF ?_
    refine ⟨_, rfl, _, rfl, l, ts, a, _, rfl, hT1, _, rfl, ?_⟩
    rw [h1]
    refine iteF ?_
    refine ⟨_, rfl, _, rfl, l, ts, a, _, rfl, hT1, _, rfl, ?_⟩
    rw [h2]
    refine iteF ?_
    refine ⟨_, rfl, _, rfl, l, ts, a, _, rfl, hT1, _, rfl, ?_⟩
    rw [h3]
    refine iteF ?_
    refine ⟨_, rfl, _, rfl, l, ts, a, _, rfl, hT1, _, rfl, ?_⟩
    rw [h4]
    refine iteT ?_
    refine ⟨_, rfl, _, _, rfl, rfl, _, rfl, ?_⟩
    rw [h6, decide_eq_true h5]
    refine iteT ?_
    exact ⟨_, rfl, _, rfl, _, _, rfl, rfl, _, rfl, _, _, rfl, rfl, l, ts, a + 1, d + 1, _, rfl, hT1, by omega, by omega, BR.shut h6' h7, q1⟩
  | br hP h1 h2 h3 h4 h5 h6' h7 =>
    rw [hP]
    refine iteF ?_
    refine ⟨_, rfl, _, rfl, l, ts, a, _, rfl, hT1, _, rfl, ?_⟩
    rw [h1]
    refine iteF ?_
    refine ⟨_, rfl, _, rfl, l, ts, a, _, rfl, hT1, _, rfl, ?_⟩
    rw [h2]
    refine iteF ?_
    refine ⟨_, rfl, _, rfl, l, ts, a, _, rfl, hT1, _, rfl, ?_⟩
    rw [h3]
    refine iteF ?_
    refine ⟨_, rfl, _, rfl, l, ts, a, _, rfl, hT1, _, rfl, ?_⟩
    rw [h4]
    refine iteT ?_
    refine ⟨_, rfl, _, _, rfl, rfl, _, rfl, ?_⟩
    rw [h6, decide_eq_true h5]
    refine iteT ?_
    exact ⟨_, rfl, _, rfl, _, _, rfl, rfl, _, rfl, _, _, rfl, rfl, l, ts, a + 1, d + 1, _, rfl, hT1, by omega, by omega, BR.ok h6' h7, q1⟩
  | no hP h1 h2 h3 h4 =>
    rw [hP]
    refine iteF ?_
    refine ⟨_, rfl, _, rfl, l, ts, a, _, rfl, hT1, _, rfl, ?_⟩
    rw [h1]
    refine iteF ?_
    refine ⟨_, rfl, _, rfl, l, ts, a, _, rfl, hT1, _, rfl, ?_⟩
    rw [h2]
    refine iteF ?_
    refine ⟨_, rfl, _, rfl, l, ts, a, _, rfl, hT1, _, rfl, ?_⟩
    rw [h3]
    refine iteF ?_
    refine ⟨_, rfl, _, rfl, l, ts, a, _, rfl, hT1, _, rfl, ?_⟩
    cases h5 : isS ts "(" a with
    | false =>
      refine iteF ?_
      exact ⟨_, rfl, _, rfl, _, rfl, l, ts, a, rfl, hT1, raise_use q1⟩
    | true =>
      refine iteT ?_
      refine ⟨_, rfl, _, _, rfl, rfl, _, rfl, ?_⟩
      rw [h6, decide_eq_false (by rcases h4 with z | z; · rw [h5] at z; cases z
                                  · omega)]
      refine iteF ?_
      exact ⟨_, rfl, _, rfl, _, rfl, l, ts, a, rfl, hT1, raise_use q1⟩
end

def UAt (K : PySem.W.Frag) (H : Hp) (d : Addr) (qs : List Qu) : Prop := LAt K H d (qs.map encU)
def yMade (K : PySem.W.Frag) : Sp := fun vs H Q _ => ∃ (l : Addr) (o : Bool) (qs : List Qu), vs = [.str (if o = true then "or" else "and"), .ref l] ∧ UAt K H l qs ∧ qs ≠ [] ∧ ∀ v H', Same H H' → Dp K H' v (encU (madeU o qs)) → Q v H'
theorem madeU_two {o : Bool} {qs : List Qu} (h : qs.length ≠ 1) : madeU o qs = .bin o qs := by
  unfold madeU
  split
  · exact absurd rfl h
  · rfl
theorem isS_lt {ts : List Pat} {z : Str} {a : Nat} (h : isS ts z a = true) : a < ts.length := Nat.lt_of_not_le fun e => by rw [isS_none e] at h; cases h
theorem isP_lt {ts : List Pat} {a : Nat} (h : isP ts a = true) : a < ts.length := Nat.lt_of_not_le fun e => by rw [isP_none e] at h; cases h
theorem rowR_ok {ts : List Pat} {a g : Nat} {c : Str} {q : Qu} {b : Nat} (h : rowR ts a g c = .ok q b) : patN ts a ≠ 0 ∧ isS ts c (a + patN ts a) = true ∧ q = .row ((ts.drop a).take (patN ts a)) g ∧ b = a + patN ts a + 1 := by
  unfold rowR at h
  by_cases e : patN ts a = 0 ∨ isS ts c (a + patN ts a) = false
  · rw [if_pos e] at h; cases h
  · rw [if_neg e] at h
    injection h with h1 h2
    exact ⟨fun z => e (.inl z), by cases z : isS ts c (a + patN ts a) with | true => rfl | false => exact absurd (.inr z) e, h1.symm, h2.symm⟩
mutual
theorem PQ.adv {ts : List Pat} {d a : Nat} {r : Rs Qu} : PQ ts d a r → ∀ {q b}, r = .ok q b → a < b ∧ b ≤ ts.length
  | .bad _, _, _, e => nomatch e
  | .ok h1 h2, _, _, e => by
    have i1 := PA.adv h1 rfl
    have i2 := PQr.adv h2 e i1.2
    omega
theorem PQr.adv {ts : List Pat} {d b k : Nat} {qs : List Qu} {r : Rs Qu} : PQr ts d b qs k r → ∀ {q e}, r = .ok q e → b ≤ ts.length → b ≤ e ∧ e ≤ ts.length
  | .stop _, _, _, e, hb => by injection e with e1 e2; omega
  | .bad _ _, _, _, e, _ => nomatch e
  | .more _ h1 h2, _, _, e, hb => by
    have i1 := PA.adv h1 rfl
    have i2 := PQr.adv h2 e i1.2
    omega
theorem PA.adv {ts : List Pat} {d a : Nat} {r : Rs Qu} : PA ts d a r → ∀ {q b}, r = .ok q b → a < b ∧ b ≤ ts.length
  | .bad _, _, _, e => nomatch e
  | .ok h1 h2, _, _, e => by
    have i1 := PC.adv h1 rfl
    have i2 := PAr.adv h2 e i1.2
    omega
theorem PAr.adv {ts : List Pat} {d b k : Nat} {qs : List Qu} {r : Rs Qu} : PAr ts d b qs k r → ∀ {q e}, r = .ok q e → b ≤ ts.length → b ≤ e ∧ e ≤ ts.length
  | .stop _, _, _, e, hb => by injection e with e1 e2; omega
  | .bad _ _, _, _, e, _ => nomatch e
  | .more _ h1 h2, _, _, e, hb => by
    have i1 := PC.adv h1 rfl
    have i2 := PAr.adv h2 e i1.2
    omega
theorem PC.adv {ts : List Pat} {d a : Nat} {r : Rs Qu} : PC ts d a r → ∀ {q b}, r = .ok q b → a < b ∧ b ≤ ts.length
  | .mk (r := .bad _ _) _, _, _, e => nomatch e
  | .mk (r := .ok _ _) h, _, _, e => by
    have i1 := PP.adv h rfl
    injection e with e1 e2
    omega
theorem PP.adv {ts : List Pat} {d a : Nat} {r : Rs Qu} : PP ts d a r → ∀ {q b}, r = .ok q b → a < b ∧ b ≤ ts.length
  | .pat _ h, _, _, e => by have := isP_lt h; injection e with e1 e2; omega
  | .all _ h, _, _, e => by have := isS_lt h; injection e with e1 e2; omega
  | .quo _ _ _, _, _, e => by obtain ⟨_, h1, _, h2⟩ := rowR_ok e; have := isS_lt h1; omega
  | .gapB _ _ _ _ _, _, _, e => nomatch e
  | .gap _ _ _ _ _, _, _, e => by obtain ⟨_, h1, _, h2⟩ := rowR_ok e; have := isS_lt h1; omega
  | .brB _ _ _ _ _ _ _, _, _, e => nomatch e
  | .brC _ _ _ _ _ _ _ _, _, _, e => nomatch e
  | .br _ _ _ _ _ _ h1 h2, _, _, e => by
    have i1 := PQ.adv h1 rfl
    have := isS_lt h2
    injection e with e1 e2
    omega
  | .no _ _ _ _ _, _, _, e => nomatch e
end
section
variable {P : Program} {w : World} {K : PySem.W.Frag} {mg : Str → Option Value} {base : Heap} {A : Nat → Addr} {D : Nat → FuncData}
theorem ok_made_of (T : Txt K mg A D) : FnOk P w K mg base CX0 1 (A 14) (D 14) ["kind", "questions"] (yMade K) := by
  refine T.F_made_of.ok sc_made_of (fun vs H Q E h => ?_) (fun cdv A' outer s H vs Q E hr h => ?_)
  · obtain ⟨l, o, qs, rfl, _⟩ := h; rfl
  obtain ⟨l, o, qs, rfl, ⟨vs, h1, h2, h3⟩, hne, q⟩ := h
  have hnd := sc_made_of.nd
  refine ⟨_, (pss_cons (ps_if (pt_cmpR op_eq (pe_callB call_len_seq rfl T.z_len PySem.boot_len (pa_cons (pv 1) pa_nil)) pe_int (nomark _)) (pss_one (ps_ret (pe_ix (r := rIxL K) ix_list (pv 1) pe_int (fun _ _ => rfl)))) pss_nil) (pss_one (ps_ret (pe_tup (pa_cons (pv 0) (pa_cons (pe_callTy call_tuple_of rfl T.z_tuple (by decide +kernel) (pa_cons (pv 1) pa_nil)) pa_nil)))))), ?_⟩
  have hl : vs.length = qs.length := by rw [DpAll.len h2, List.length_map]
  refine ⟨_, rfl, l, _, rfl, .inl (SqL.of h1), rfl, _, rfl, ?_⟩
  refine ite2 (fun c => ?_) (fun c => ?_)
  · have e : qs.length = 1 := by have := V.int.inj (of_decide_eq_true c); omega
    obtain ⟨x, rfl⟩ := List.length_eq_one_iff.mp e
    obtain ⟨v, r, rfl, hv, hr2⟩ := DpAll.consI h2
    exact ⟨_, rfl, l, _, 0, _, rfl, rfl, SqL.of h1, atI_nat (j := 0) rfl, q v H (Same.refl H) hv⟩
  · have e : qs.length ≠ 1 := fun e => c (decide_eq_true (congrArg V.int (by omega)))
    rw [madeU_two e] at q
    refine ⟨_, rfl, _, rfl, l, vs, rfl, .inl ⟨SqL.of h1, fun p hp => ⟨(by show 2 ≤ sizeLine; decide), fun t ht => ?_⟩⟩⟩
    have s1 := same_new (o := .tup vs) hp
    have s2 := same_new (o := .tup [.str (if o = true then "or" else "and"), .ref p]) ht
    refine q (.ref t) _ (s1.trans s2) (.tup (SqT.of upd_same) (.cons (.str _) (.cons (.tup (SqT.of (s2 _ _ upd_same)) ?_) .nil)))
    rw [encUs_map]
    exact DpAll.same (s1.trans s2) h2
theorem ok_alternative_at (T : Txt K mg A D) (n : Nat) (G_clause_at : FnOk P w K mg base (L2.CX P w) (5 * n + 6) (A 16) (D 16) ["tokens", "at", "depth"] (yRd K (A 101) PC (n + 1))) : FnOk P w K mg base (L2.CX P w) (5 * n + 7) (A 13) (D 13) ["tokens", "at", "depth"] (yRd K (A 101) PA (n + 1)) := by
  refine T.F_alternative_at.okX (k := 5 * n + 6) sc_alternative_at (fun vs H Q E h => ?_) (fun cdv A' outer s H vs Q E hr h => ?_)
  · obtain ⟨l, ts, a, d, r, rfl, _⟩ := h; rfl
  obtain ⟨l, ts, a, d, r, rfl, hT, hd, hn, hR, q⟩ := h
  have hnd := sc_alternative_at.nd
  have G_begins_clause := ok_begins_clause (P := P) (w := w) (base := base) T
  have G_made_of := ok_made_of (P := P) (w := w) (base := base) T
  refine ⟨_, (pss_cons (ps_asg (pe_callS G_clause_at (hr.mono (by first | decide | omega)) rfl T.m_clause_at T.F_clause_at.kp T.b_clause_at (fun σ => passAt (takes_of rfl rfl rfl rfl) σ) (pa_cons (pv 0) (pa_cons (pv 1) (pa_cons (pv 2) pa_nil)))) (pg_tup rfl (pgs_cons (pg_name (i := 3) hnd rfl (Or.inl rfl)) (pgs_cons (pg_name (i := 1) hnd rfl (Or.inl rfl)) pgs_nil)))) (pss_cons (ps_set (i := 4) hnd rfl (Or.inl rfl) (pe_lst (pa_cons (pv 3) pa_nil))) (pss_cons (ps_while (passes_of rfl) (pt_val (pe_call G_begins_clause (hr.mono (by first | decide | omega)) rfl T.m_begins_clause T.F_begins_clause.kp T.b_begins_clause .nil pass0 (pa_cons (pv 0) (pa_cons (pv 1) pa_nil)))) (pss_cons (ps_asg (pe_callS G_clause_at (hr.mono (by first | decide | omega)) rfl T.m_clause_at T.F_clause_at.kp T.b_clause_at (fun σ => passAt (takes_of rfl rfl rfl rfl) σ) (pa_cons (pv 0) (pa_cons (pv 1) (pa_cons (pv 2) pa_nil)))) (pg_tup rfl (pgs_cons (pg_name (i := 3) hnd rfl (Or.inl rfl)) (pgs_cons (pg_name (i := 1) hnd rfl (Or.inl rfl)) pgs_nil)))) (pss_one (ps_expr (pe_bm PySem.F.plainAttrs_list PySem.F.slot_list_append PySem.F.type_list_append mt_append (pv 4) (pa_cons (pv 3) pa_nil)))))) (pss_one (ps_ret (pe_tup (pa_cons (pe_call G_made_of (hr.mono (by first | decide | omega)) rfl T.m_made_of T.F_made_of.kp T.b_made_of .nil pass0 (pa_cons pe_str (pa_cons (pv 4) pa_nil))) (pa_cons (pv 1) pa_nil)))))))), ?_⟩
  cases hR with
  | bad h1 => exact ⟨_, rfl, _, rfl, _, rfl, l, ts, a, d, _, rfl, hT, hd, hn, h1, q⟩
  | ok h1 h2 =>
    rename_i q0 b0 k0
    refine ⟨_, rfl, _, rfl, _, rfl, l, ts, a, d, _, rfl, hT, hd, hn, h1, fun t v H1 s1 ht dv => ⟨t, _, rfl, ht, rfl, _, _, rfl, _, _, rfl, rfl, ?_⟩⟩
    refine ⟨_, rfl, (by show 1 ≤ sizeLine; decide), fun p hp => ?_⟩
    have hp0 := s1.free hp
    refine ⟨fun m σ H' => ∃ (b : Nat) (qs : List Qu) (v : V), σ = [some (.ref l), some (.int (b : Int)), some (.int (d : Int)), some v, some (.ref p)] ∧ Same H H' ∧ UAt K H' p qs ∧ qs ≠ [] ∧ qs.length ≤ b ∧ b ≤ ts.length ∧ PAr ts d b qs m r,
      ⟨k0, b0, [q0], v, rfl, s1.trans (same_new hp), ⟨[v], upd_same, .cons (Dp.same (same_new hp) dv) .nil, fun x hx => by rw [List.mem_singleton.mp hx]; exact imm_encU _⟩, List.cons_ne_nil _ _, (by have := (PC.adv h1 rfl).1; show 1 ≤ b0; omega), (PC.adv h1 rfl).2, h2⟩, ?_⟩
    rintro m σ H2 ⟨b, qs, v2, rfl, s2, U2, hne, hql, hbl, hR2⟩
    have htl := hT.2.1
    refine ⟨_, rfl, _, rfl, l, ts, b, rfl, hT.same s2, fun H3 s3 => ⟨_, rfl, ?_⟩⟩
    cases hR2 with
    | stop hb =>
      rw [hb]
      refine iteF ?_
      refine ⟨_, rfl, p, false, qs, rfl, U2.same s3, hne, fun v4 H4 s4 dv4 => ?_⟩
      refine ⟨_, rfl, (by show 2 ≤ sizeLine; decide), fun t5 ht5 => ?_⟩
      exact q t5 v4 _ (((s2.trans s3).trans s4).trans (same_new ht5)) (SqT.of upd_same) (Dp.same (same_new ht5) dv4)
    | bad hb hbad =>
      rw [hb]
      refine iteT ⟨fun _ _ => False, fun _ _ z => z.elim, ?_⟩
      exact ⟨_, rfl, _, rfl, _, rfl, l, ts, b, d, _, rfl, hT.same (s2.trans s3), hd, hn, hbad, q.same (s2.trans s3)⟩
    | more hb h3 h4 =>
      rename_i q3 c3 k3
      rw [hb]
      have hA := PC.adv h3 rfl
      refine iteT ⟨fun σ' H'' => ∃ (b : Nat) (qs : List Qu) (v : V), σ' = [some (.ref l), some (.int (b : Int)), some (.int (d : Int)), some v, some (.ref p)] ∧ Same H H'' ∧ UAt K H'' p qs ∧ qs ≠ [] ∧ qs.length ≤ b ∧ b ≤ ts.length ∧ PAr ts d b qs k3 r, fun _ _ h => ⟨k3, Nat.lt_succ_self _, h⟩, ?_⟩
      refine ⟨_, rfl, _, rfl, _, rfl, l, ts, b, d, _, rfl, hT.same (s2.trans s3), hd, hn, h3, fun t3 v3 H4 s4 ht3 dv3 => ⟨t3, _, rfl, ht3, rfl, _, _, rfl, _, _, rfl, rfl, ?_⟩⟩
      obtain ⟨us, e1, e2, e3⟩ := U2.same (s3.trans s4)
      refine ⟨_, rfl, .inl ⟨rfl, _, SqL.of e1⟩, _, rfl, p, _, _, rfl, rfl, e1, (by rw [DpAll.len e2, List.length_map]; exact len_lt (by omega)), ?_⟩
      refine ⟨c3, qs ++ [q3], v3, rfl, same_upd ((s2.trans s3).trans s4) hp0, ?_, (by simp), (by rw [List.length_append, List.length_singleton]; omega), hA.2, h4⟩
      rw [UAt, List.map_append]
      exact LAt.push e1 e2 e3 dv3 (imm_encU _)
theorem ok_question_one (T : Txt K mg A D) (n : Nat) (G_alternative_at : FnOk P w K mg base (L2.CX P w) (5 * n + 7) (A 13) (D 13) ["tokens", "at", "depth"] (yRd K (A 101) PA (n + 1))) : FnOk P w K mg base (L2.CX P w) (5 * n + 8) (A 12) (D 12) ["tokens", "at", "depth"] (yRd K (A 101) PQ (n + 1)) := by
  refine T.F_question_at.okX (k := 5 * n + 7) sc_question_at (fun vs H Q E h => ?_) (fun cdv A' outer s H vs Q E hr h => ?_)
  · obtain ⟨l, ts, a, d, r, rfl, _⟩ := h; rfl
  obtain ⟨l, ts, a, d, r, rfl, hT, hd, hn, hR, q⟩ := h
  have hnd := sc_question_at.nd
  have G_is_sign := ok_is_sign (P := P) (w := w) (base := base) T
  have G_made_of := ok_made_of (P := P) (w := w) (base := base) T
  refine ⟨_, (pss_cons (ps_asg (pe_callS G_alternative_at (hr.mono (by first | decide | omega)) rfl T.m_alternative_at T.F_alternative_at.kp T.b_alternative_at (fun σ => passAt (takes_of rfl rfl rfl rfl) σ) (pa_cons (pv 0) (pa_cons (pv 1) (pa_cons (pv 2) pa_nil)))) (pg_tup rfl (pgs_cons (pg_name (i := 3) hnd rfl (Or.inl rfl)) (pgs_cons (pg_name (i := 1) hnd rfl (Or.inl rfl)) pgs_nil)))) (pss_cons (ps_set (i := 4) hnd rfl (Or.inl rfl) (pe_lst (pa_cons (pv 3) pa_nil))) (pss_cons (ps_while (passes_of rfl) (pt_val (pe_call G_is_sign (hr.mono (by first | decide | omega)) rfl T.m_is_sign T.F_is_sign.kp T.b_is_sign .nil pass0 (pa_cons (pv 0) (pa_cons (pv 1) (pa_cons pe_str pa_nil))))) (pss_cons (ps_asg (pe_callS G_alternative_at (hr.mono (by first | decide | omega)) rfl T.m_alternative_at T.F_alternative_at.kp T.b_alternative_at (fun σ => passAt (takes_of rfl rfl rfl rfl) σ) (pa_cons (pv 0) (pa_cons (pe_op op_add (pv 1) pe_int) (pa_cons (pv 2) pa_nil)))) (pg_tup rfl (pgs_cons (pg_name (i := 3) hnd rfl (Or.inl rfl)) (pgs_cons (pg_name (i := 1) hnd rfl (Or.inl rfl)) pgs_nil)))) (pss_one (ps_expr (pe_bm PySem.F.plainAttrs_list PySem.F.slot_list_append PySem.F.type_list_append mt_append (pv 4) (pa_cons (pv 3) pa_nil)))))) (pss_one (ps_ret (pe_tup (pa_cons (pe_call G_made_of (hr.mono (by first | decide | omega)) rfl T.m_made_of T.F_made_of.kp T.b_made_of .nil pass0 (pa_cons pe_str (pa_cons (pv 4) pa_nil))) (pa_cons (pv 1) pa_nil)))))))), ?_⟩
  cases hR with
  | bad h1 => exact ⟨_, rfl, _, rfl, _, rfl, l, ts, a, d, _, rfl, hT, hd, hn, h1, q⟩
  | ok h1 h2 =>
    rename_i q0 b0 k0
    refine ⟨_, rfl, _, rfl, _, rfl, l, ts, a, d, _, rfl, hT, hd, hn, h1, fun t v H1 s1 ht dv => ⟨t, _, rfl, ht, rfl, _, _, rfl, _, _, rfl, rfl, ?_⟩⟩
    refine ⟨_, rfl, (by show 1 ≤ sizeLine; decide), fun p hp => ?_⟩
    have hp0 := s1.free hp
    refine ⟨fun m σ H' => ∃ (b : Nat) (qs : List Qu) (v : V), σ = [some (.ref l), some (.int (b : Int)), some (.int (d : Int)), some v, some (.ref p)] ∧ Same H H' ∧ UAt K H' p qs ∧ qs ≠ [] ∧ qs.length ≤ b ∧ b ≤ ts.length ∧ PQr ts d b qs m r,
      ⟨k0, b0, [q0], v, rfl, s1.trans (same_new hp), ⟨[v], upd_same, .cons (Dp.same (same_new hp) dv) .nil, fun x hx => by rw [List.mem_singleton.mp hx]; exact imm_encU _⟩, List.cons_ne_nil _ _, (by have := (PA.adv h1 rfl).1; show 1 ≤ b0; omega), (PA.adv h1 rfl).2, h2⟩, ?_⟩
    rintro m σ H2 ⟨b, qs, v2, rfl, s2, U2, hne, hql, hbl, hR2⟩
    have htl := hT.2.1
    refine ⟨_, rfl, _, rfl, l, ts, b, _, rfl, hT.same s2, _, rfl, ?_⟩
    cases hR2 with
    | stop hb =>
      rw [hb]
      refine iteF ?_
      refine ⟨_, rfl, p, true, qs, rfl, U2, hne, fun v4 H4 s4 dv4 => ?_⟩
      refine ⟨_, rfl, (by show 2 ≤ sizeLine; decide), fun t5 ht5 => ?_⟩
      exact q t5 v4 _ ((s2.trans s4).trans (same_new ht5)) (SqT.of upd_same) (Dp.same (same_new ht5) dv4)
    | bad hb hbad =>
      rw [hb]
      refine iteT ⟨fun _ _ => False, fun _ _ z => z.elim, ?_⟩
      exact ⟨_, rfl, _, rfl, _, _, rfl, rfl, _, rfl, l, ts, (b + 1), d, _, rfl, hT.same s2, hd, hn, hbad, q.same s2⟩
    | more hb h3 h4 =>
      rename_i q3 c3 k3
      rw [hb]
      have hA := PA.adv h3 rfl
      refine iteT ⟨fun σ' H'' => ∃ (b : Nat) (qs : List Qu) (v : V), σ' = [some (.ref l), some (.int (b : Int)), some (.int (d : Int)), some v, some (.ref p)] ∧ Same H H'' ∧ UAt K H'' p qs ∧ qs ≠ [] ∧ qs.length ≤ b ∧ b ≤ ts.length ∧ PQr ts d b qs k3 r, fun _ _ h => ⟨k3, Nat.lt_succ_self _, h⟩, ?_⟩
      refine ⟨_, rfl, _, rfl, _, _, rfl, rfl, _, rfl, l, ts, (b + 1), d, _, rfl, hT.same s2, hd, hn, h3, fun t3 v3 H4 s4 ht3 dv3 => ⟨t3, _, rfl, ht3, rfl, _, _, rfl, _, _, rfl, rfl, ?_⟩⟩
      obtain ⟨us, e1, e2, e3⟩ := U2.same s4
      refine ⟨_, rfl, .inl ⟨rfl, _, SqL.of e1⟩, _, rfl, p, _, _, rfl, rfl, e1, (by rw [DpAll.len e2, List.length_map]; exact len_lt (by omega)), ?_⟩
      refine ⟨c3, qs ++ [q3], v3, rfl, same_upd (s2.trans s4) hp0, ?_, (by simp), (by rw [List.length_append, List.length_singleton]; omega), hA.2, h4⟩
      rw [UAt, List.map_append]
      exact LAt.push e1 e2 e3 dv3 (imm_encU _)
theorem fn_no {P : Program} {w : World} {K : PySem.W.Frag} {mg : Str → Option Value} {base : Heap} {CX : CXT} {k : Nat} {f : Addr} {fd : FuncData} {ps : List Str} {sp : Sp} (no : ∀ vs H Q E, ¬ sp vs H Q E) : FnOk P w K mg base CX k f fd ps sp :=
  ⟨fun vs H Q E h => absurd h (no vs H Q E), fun A outer s H args us vs Q E _ _ _ _ h => absurd h (no vs H Q E)⟩
theorem ok_question_at (T : Txt K mg A D) : ∀ n, FnOk P w K mg base (L2.CX P w) (5 * n + 3) (A 12) (D 12) ["tokens", "at", "depth"] (yRd K (A 101) PQ n)
  | 0 => fn_no fun vs H Q E h => by
    obtain ⟨l, ts, a, d, r, _, _, _, h1, _⟩ := h
    omega
  | n + 1 => ok_question_one T n (ok_alternative_at T n (ok_clause_at T n (ok_plain_clause_at T n (ok_bracket_at T n (ok_question_at T n)))))
def WQ (ts : List Pat) (r : Rs Qu) : Prop := ∃ r1, PQ ts 0 0 r1 ∧ r = (match r1 with | .bad p w => .bad p w | .ok q b => if b < ts.length then .bad b "unexpected" else .ok q b)
def OutV (K : PySem.W.Frag) (C : Addr) (H : Hp) (r : Rs Qu) (Q : VK) (E : XK) : Prop := match r with
  | .ok q b => ∀ v H', Same H H' → Dp K H' v (encU q) → Q v H'
  | .bad p w => Raisd C p w H E
theorem ok_whole_question (T : Txt K mg A D) : FnOk P w K mg base (L2.CX P w) 39 (A 11) (D 11) ["tokens"] (fun vs H Q E => ∃ (l : Addr) (ts : List Pat) (r : Rs Qu), vs = [.ref l] ∧ TkL K H l ts ∧ WQ ts r ∧ OutV K (A 101) H r Q E) := by
  refine T.F_whole_question.okX (k := 38) sc_whole_question (fun vs H Q E h => ?_) (fun cdv A' outer s H vs Q E hr h => ?_)
  · obtain ⟨l, ts, r, rfl, _⟩ := h; rfl
  obtain ⟨l, ts, r, rfl, hT, ⟨r1, hR, rfl⟩, q⟩ := h
  have hnd := sc_whole_question.nd
  have G_question_at := ok_question_at (P := P) (w := w) (base := base) T 7
  have GI_QuestionFault := ok_QuestionFault (P := P) (w := w) (base := base) T
  refine ⟨_, (pss_cons (ps_asg (pe_callS G_question_at (hr.mono (by first | decide | omega)) rfl T.m_question_at T.F_question_at.kp T.b_question_at (fun σ => passAt (takes_of rfl rfl rfl rfl) σ) (pa_cons (pv 0) (pa_cons pe_int (pa_cons pe_int pa_nil)))) (pg_tup rfl (pgs_cons (pg_name (i := 1) hnd rfl (Or.inl rfl)) (pgs_cons (pg_name (i := 2) hnd rfl (Or.inl rfl)) pgs_nil)))) (pss_cons (ps_if (pt_cmpR op_lt (pv 2) (pe_callB call_len_seq rfl T.z_len PySem.boot_len (pa_cons (pv 0) pa_nil)) (nomark _)) (pss_one (ps_raise rfl (takes_of rfl rfl rfl rfl) (pmk_oex T.ox_QuestionFault T.iC_QuestionFault T.tI_QuestionFault GI_QuestionFault (hr.mono (by first | decide | omega)) T.b_QuestionFault .nil pass0 rfl T.gC_QuestionFault (pa_cons (pv 2) (pa_cons pe_str pa_nil))))) pss_nil) (pss_one (ps_ret (pv 1))))), ?_⟩
  refine ⟨_, rfl, l, ts, 0, 0, r1, rfl, hT, (by decide), (by decide), hR, ?_⟩
  cases r1 with
  | bad p w => exact q
  | ok q0 b =>
    intro t v H1 s1 ht dv
    refine ⟨t, _, rfl, ht, rfl, _, _, rfl, _, _, rfl, rfl, ?_⟩
    obtain ⟨vs, hl, _, hln, hat⟩ := (hT.same s1).at
    refine ⟨_, rfl, _, rfl, l, _, rfl, .inl hl, _, _, rfl, rfl, _, rfl, ?_⟩
    by_cases hb : b < ts.length
    · rw [decide_eq_true (show (b : Int) < (vs.length : Int) by omega)]
      have q' : Raisd (A 101) b "unexpected" H E := by
        have q2 := q
        simp only [hb, if_true] at q2
        exact q2
      exact iteT ⟨_, rfl, raise_use (Raisd.same q' s1)⟩
    · rw [decide_eq_false (show ¬ (b : Int) < (vs.length : Int) by omega)]
      refine iteF ⟨_, rfl, ?_⟩
      have q2 := q
      simp only [hb, if_false] at q2
      exact q2 v _ s1 dv
end

theorem strF {A B : Prop} {a b : Str} (h : a ≠ b) (hb : B) : if decide (V.str a = V.str b) = true then A else B := by
  rw [if_neg fun c => h (V.str.inj (of_decide_eq_true c))]
  exact hb
theorem strT {A B : Prop} {a : Str} (ha : A) : if decide (V.str a = V.str a) = true then A else B := by
  rw [if_pos (decide_eq_true rfl)]
  exact ha
theorem dp_kind {K : PySem.W.Frag} {H : Hp} {v : V} {k : Str} {ds : List PyData} (h : Dp K H v (.tuple (.str k :: ds))) : ∃ a us, v = .ref a ∧ SqT K H a (.str k :: us) ∧ DpAll K H us ds := by
  obtain ⟨a, xs, rfl, h1, h2⟩ := Dp.tupI h
  obtain ⟨v, r, rfl, h3, h4⟩ := DpAll.consI h2
  rw [Dp.strI h3] at h1
  exact ⟨a, r, rfl, h1, h4⟩

/-! ### list.extend(tuple) -/
open PySem.Spec PyProof.Rows in
theorem ext_tup (l : Addr) (items : Array Value) (n : Nat) (b : Addr) (items2 : Array Value) (hlong : ¬ (!items.isEmpty && Builtin.List.listTooLong (items.size + items2.size)) = true) (hs1 : items.size ≤ sizeLine) (hs2 : items.size + items2.size ≤ sizeLine + 1) :
    Meets (Builtin.«list.extend» ⟨[.ref l, .ref b], []⟩) (fun _ R s => s.heap.get? l = some { cls := .type "list", dict := none, data := .seq items n, slots := #[] } ∧ (∃ o n2, s.heap.get? b = some o ∧ o.cls = .type "tuple" ∧ o.data = .seq items2 n2) ∧ R (.ok (.ret Value.none)) { s with heap := s.heap.update l (Obj.mapSeq fun x => x ++ items2), toks := s.toks }) := by
  intro prog w A R s ⟨hl, ⟨o, n2, ho, hc, hd⟩, h⟩
  show wpAny _ A.in1 (Builtin.List.listExtendWith (.ref l) (.ref b) .none) _ _ s
  unfold Builtin.List.listExtendWith
  refine wpAny_bind (wpAny_typeOf ⟨o, ho, hc⟩ ?_)
  have h1 : (Builtin.List.listSameRef (.ref l) (.ref b) || Value.type "tuple" == Value.type "list" || Value.type "tuple" == Value.type "tuple") = true := by simp
  simp only [h1, if_true]
  refine wpAny_bind ?_
  unfold Builtin.List.listItems
  refine wpAny_bind (wpAny_seqItems ho hd (wpAny_pure ?_))
  refine wpAny_bind ?_
  refine wpAny_bind (wpAny_seqItems hl rfl (wpAny_pure ?_))
  rw [if_neg hlong]
  show wpAny _ A.in1 (updateSeq l (· ++ items2) >>= fun _ => ret Value.none) _ _ s
  refine wpAny_bind (wpAny_updateSeq hl rfl ?_ (hz := hs1) (_hz' := by rw [Array.size_append]; exact hs2))
  exact wpAny_pure h
def rExtT (K : PySem.W.Frag) : V → List V → Hp → VK → Prop := fun x vs H Q => ∃ l b xs zs, x = .ref l ∧ vs = [.ref b] ∧ H l = some (.lst xs) ∧ SqT K H b zs ∧ xs.length + zs.length ≤ sizeLine ∧ Q .non (upd H l (.lst (xs ++ zs)))
open PySem.Spec PyProof.Rows in
theorem mt_extendT {X : Cx} : MtM X "list.extend" (rExtT X.K) := by
  intro pins s σ H x vs v us Q I rx rv h
  obtain ⟨l, b, xs, zs, rfl, rfl, hH, hB, hz, q⟩ := h
  cases rx
  obtain ⟨u, rfl, ru⟩ := rv.one
  cases ru
  obtain ⟨z, its, n, r, hl, e⟩ := I.lstM hH
  obtain ⟨its2, r2, ⟨o2, ho2, hc2, n2, hd2⟩, z2⟩ := I.tuple hB
  have hl2 := r2.length
  have hsz : its.toArray.size + its2.toArray.size ≤ sizeLine := by rw [List.size_toArray, List.size_toArray]; omega
  have hlong : ¬ (!its.toArray.isEmpty && Builtin.List.listTooLong (its.toArray.size + its2.toArray.size)) = true := by
    rw [notLongL hsz, Bool.and_false]
    exact Bool.false_ne_true
  refine call_meets F.slot_list_extend ⟨_, e, rfl⟩ F.entry_list_extend (F.args_list_extend_2 _ _)
    (ext_tup l its.toArray n b its2.toArray hlong (by rw [List.size_toArray]; omega) (by omega)) ⟨e, ⟨o2, n2, ho2, hc2, hd2⟩, ?_⟩
  refine ⟨.non, _, I.lset (its' := its ++ its2) hH e (by simp) (r.append r2) ?_, rfl, q⟩
  rw [List.length_append]
  omega

def partsU : Qu → List Qu
  | .neg q => [q]
  | .bin _ qs => qs
  | _ => []
mutual
def subsR : Qu → List Qu
  | .all => [.all]
  | .row ps g => [.row ps g]
  | .neg q => .neg q :: subsR q
  | .bin o qs => .bin o qs :: subsRs qs
def subsRs : List Qu → List Qu
  | [] => []
  | q :: r => subsRs r ++ subsR q
end
theorem subsRs_eq : ∀ qs : List Qu, subsRs qs = qs.reverse.flatMap subsR
  | [] => rfl
  | q :: r => by
    show subsRs r ++ subsR q = _
    rw [subsRs_eq r, List.reverse_cons, List.flatMap_append, List.flatMap_singleton]
theorem subsR_eq (q : Qu) : subsR q = q :: (partsU q).reverse.flatMap subsR := by
  cases q with
  | all => rfl
  | row ps g => rfl
  | neg q =>
    show Qu.neg q :: subsR q = Qu.neg q :: ([q] : List Qu).reverse.flatMap subsR
    rw [List.reverse_singleton, List.flatMap_singleton]
  | bin o qs =>
    show Qu.bin o qs :: subsRs qs = _
    rw [subsRs_eq]; rfl
def yParts (K : PySem.W.Frag) : Sp := fun vs H Q _ => ∃ (v : V) (q : Qu), vs = [v] ∧ Dp K H v (encU q) ∧ ∀ p H' xs, Same H H' → SqT K H' p xs → DpAll K H' xs ((partsU q).map encU) → Q (.ref p) H'
theorem DpAll.appI {K : PySem.W.Frag} {H : Hp} : ∀ {ds es : List PyData} {vs : List V}, DpAll K H vs (ds ++ es) → ∃ v1 v2, vs = v1 ++ v2 ∧ DpAll K H v1 ds ∧ DpAll K H v2 es
  | [], _, _, h => ⟨[], _, rfl, .nil, h⟩
  | d :: ds, _, _, h => by
    obtain ⟨v, r, rfl, h1, h2⟩ := DpAll.consI h
    obtain ⟨v1, v2, rfl, h3, h4⟩ := DpAll.appI h2
    exact ⟨v :: v1, v2, rfl, .cons h1 h3, h4⟩
theorem strDec {a b : Str} : decide (V.str a = V.str b) = decide (a = b) := by
  rw [Bool.eq_iff_iff, decide_eq_true_eq, decide_eq_true_eq]
  exact ⟨V.str.inj, congrArg V.str⟩
section
variable {P : Program} {w : World} {K : PySem.W.Frag} {mg : Str → Option Value} {base : Heap} {A : Nat → Addr} {D : Nat → FuncData}
theorem ok_parts_of (T : Txt K mg A D) : FnOk P w K mg base CX0 1 (A 10) (D 10) ["question"] (yParts K) := by
  refine T.F_parts_of.ok sc_parts_of (fun vs H Q E h => ?_) (fun cdv A' outer s H vs Q E hr h => ?_)
  · obtain ⟨v, q, rfl, _⟩ := h; rfl
  obtain ⟨v, q, rfl, hd, fin⟩ := h
  have hnd := sc_parts_of.nd
  refine ⟨_, (pss_cons (ps_if (pt_cmpR op_eq (pe_ix (r := rIxT K) ix_tup (pv 0) pe_int (fun _ _ => rfl)) pe_str (nomark _)) (pss_one (ps_ret (pe_tup (pa_cons (pe_ix (r := rIxT K) ix_tup (pv 0) pe_int (fun _ _ => rfl)) pa_nil)))) pss_nil) (pss_cons (ps_if (pt_cmpR op_in_seq (pe_ix (r := rIxT K) ix_tup (pv 0) pe_int (fun _ _ => rfl)) (pe_tup (pa_cons pe_str (pa_cons pe_str pa_nil))) (by rfl)) (pss_one (ps_ret (pe_ix (r := rIxT K) ix_tup (pv 0) pe_int (fun _ _ => rfl)))) pss_nil) (pss_one (ps_ret (pe_tup pa_nil))))), ?_⟩
  cases q with
  | all =>
    obtain ⟨aq, us, rfl, haq, hus⟩ := dp_kind (show Dp K H v (.tuple [.str "all"]) from hd)
    refine ⟨_, rfl, aq, _, 0, _, rfl, rfl, haq, atI_nat (j := 0) rfl, rfl, _, rfl, strF (by decide) ?_⟩
    refine ⟨_, rfl, aq, _, 0, _, rfl, rfl, haq, atI_nat (j := 0) rfl, (by show 2 ≤ sizeLine; decide), fun t ht => ?_⟩
    refine ⟨t, _, rfl, .inr (SqT.of upd_same), rfl, rfl, _, rfl, ?_⟩
    rw [show inV (V.str "all") [.str "and", .str "or"] = false by decide +kernel]
    refine iteF ⟨(by show 0 ≤ sizeLine; decide), fun t2 ht2 => ?_⟩
    exact fin t2 _ [] ((same_new ht).trans (same_new ht2)) (SqT.of upd_same) .nil
  | row ps g =>
    obtain ⟨aq, us, rfl, haq, hus⟩ := dp_kind (show Dp K H v (.tuple [.str "row", encPs ps, .int (g : Int)]) from hd)
    refine ⟨_, rfl, aq, _, 0, _, rfl, rfl, haq, atI_nat (j := 0) rfl, rfl, _, rfl, strF (by decide) ?_⟩
    refine ⟨_, rfl, aq, _, 0, _, rfl, rfl, haq, atI_nat (j := 0) rfl, (by show 2 ≤ sizeLine; decide), fun t ht => ?_⟩
    refine ⟨t, _, rfl, .inr (SqT.of upd_same), rfl, rfl, _, rfl, ?_⟩
    rw [show inV (V.str "row") [.str "and", .str "or"] = false by decide +kernel]
    refine iteF ⟨(by show 0 ≤ sizeLine; decide), fun t2 ht2 => ?_⟩
    exact fin t2 _ [] ((same_new ht).trans (same_new ht2)) (SqT.of upd_same) .nil
  | neg q =>
    obtain ⟨aq, us, rfl, haq, hus⟩ := dp_kind (show Dp K H v (.tuple [.str "not", encU q]) from hd)
    obtain ⟨v1, us2, rfl, hv1, hnil⟩ := DpAll.consI hus
    refine ⟨_, rfl, aq, _, 0, _, rfl, rfl, haq, atI_nat (j := 0) rfl, rfl, _, rfl, strT ?_⟩
    refine ⟨_, rfl, aq, _, 1, _, rfl, rfl, haq, atI_nat (j := 1) rfl, (by show 1 ≤ sizeLine; decide), fun t ht => ?_⟩
    exact fin t _ [v1] (same_new ht) (SqT.of upd_same) (.cons (Dp.same (same_new ht) hv1) .nil)
  | bin o qs =>
    obtain ⟨aq, us, rfl, haq, hus⟩ := dp_kind (show Dp K H v (.tuple [.str (if o = true then "or" else "and"), .tuple (encUs qs)]) from hd)
    obtain ⟨v1, us2, rfl, hv1, hnil⟩ := DpAll.consI hus
    obtain ⟨a1, xs, rfl, ha1, hxs⟩ := Dp.tupI hv1
    refine ⟨_, rfl, aq, _, 0, _, rfl, rfl, haq, atI_nat (j := 0) rfl, rfl, _, rfl, strF (by cases o <;> decide) ?_⟩
    refine ⟨_, rfl, aq, _, 0, _, rfl, rfl, haq, atI_nat (j := 0) rfl, (by show 2 ≤ sizeLine; decide), fun t ht => ?_⟩
    refine ⟨t, _, rfl, .inr (SqT.of upd_same), rfl, rfl, _, rfl, ?_⟩
    rw [show inV (V.str (if o = true then "or" else "and")) [.str "and", .str "or"] = true by cases o <;> decide +kernel]
    refine iteT ?_
    have st := same_new (o := .tup [.str "and", .str "or"]) ht
    refine ⟨_, rfl, aq, _, 1, _, rfl, rfl, (Same.spT st haq), atI_nat (j := 1) rfl, ?_⟩
    rw [encUs_map] at hxs
    exact fin a1 _ xs st (Same.spT st ha1) (DpAll.same st hxs)
def ySubs (K : PySem.W.Frag) : Sp := fun vs H Q _ => ∃ (v : V) (q : Qu), vs = [v] ∧ Dp K H v (encU q) ∧ (subsR q).length ≤ 1000000 ∧ ∀ p H', Same H H' → H p = none → UAt K H' p (subsR q) → Q (.ref p) H'
theorem flat_ge : ∀ qs : List Qu, qs.length ≤ (qs.flatMap subsR).length
  | [] => Nat.le_refl _
  | q :: r => by
    rw [List.flatMap_cons, List.length_append, subsR_eq, List.length_cons, List.length_cons]
    have := flat_ge r
    omega
theorem ok_questions_in (T : Txt K mg A D) : FnOk P w K mg base CX0 2 (A 9) (D 9) ["question"] (ySubs K) := by
  refine T.F_questions_in.ok sc_questions_in (fun vs H Q E h => ?_) (fun cdv A' outer s H vs Q E hr h => ?_)
  · obtain ⟨v, q, rfl, _⟩ := h; rfl
  obtain ⟨v, q, rfl, hd, hsz, fin⟩ := h
  have hnd := sc_questions_in.nd
  have G_parts_of := ok_parts_of (P := P) (w := w) (base := base) T
  refine ⟨_, (pss_cons (ps_set (i := 1) hnd rfl (Or.inl rfl) (pe_lst pa_nil)) (pss_cons (ps_set (i := 2) hnd rfl (Or.inl rfl) (pe_lst (pa_cons (pv 0) pa_nil))) (pss_cons (ps_while PassesOwn.never (pt_truth (pv 2) (by intro _; rfl)) (pss_cons (ps_set (i := 3) hnd rfl (Or.inl rfl) (pe_bm0 PySem.F.plainAttrs_list PySem.F.slot_list_pop PySem.F.type_list_pop mt_pop (pv 2))) (pss_cons (ps_expr (pe_bm PySem.F.plainAttrs_list PySem.F.slot_list_append PySem.F.type_list_append mt_append (pv 1) (pa_cons (pv 3) pa_nil))) (pss_one (ps_expr (pe_bm PySem.F.plainAttrs_list PySem.F.slot_list_extend PySem.F.type_list_extend mt_extendT (pv 2) (pa_cons (pe_call G_parts_of (hr.mono (by first | decide | omega)) rfl T.m_parts_of T.F_parts_of.kp T.b_parts_of .nil pass0 (pa_cons (pv 3) pa_nil)) pa_nil))))))) (pss_one (ps_ret (pv 1)))))), ?_⟩
  refine ⟨(by decide), fun f hf => ?_⟩
  refine ⟨_, rfl, (by show 1 ≤ sizeLine; decide), fun g hg => ?_⟩
  have sf := same_new (o := .lst []) hf
  have sg := sf.trans (same_new (o := .lst [v]) hg)
  have hgf : g ≠ f := fun e => by rw [e, upd_same] at hg; cases hg
  have hg0 : H g = none := sf.free hg
  refine ⟨fun m σ H' => ∃ (fs ws : List Qu) (c3 : Option V), σ = [some v, some (.ref f), some (.ref g), c3] ∧ Same H H' ∧ UAt K H' f fs ∧ UAt K H' g ws ∧ fs ++ ws.reverse.flatMap subsR = subsR q ∧ m = (ws.reverse.flatMap subsR).length,
    ⟨_, [], [q], none, rfl, sg, LAt.nil (by rw [upd_ne hgf.symm]; exact upd_same), ⟨[v], upd_same, .cons (Dp.same sg hd) .nil, fun x hx => by rw [List.mem_singleton.mp hx]; exact imm_encU _⟩, (by rw [List.nil_append, List.reverse_singleton, List.flatMap_singleton]), rfl⟩, ?_⟩
  rintro m σ H1 ⟨fs, ws, c3, rfl, s1, F1, G1, hinv, rfl⟩
  obtain ⟨vg, g1, g2, g3⟩ := G1
  have hlg : vg.length = ws.length := by rw [DpAll.len g2, List.length_map]
  refine ⟨_, rfl, _, .inl ⟨vg, SqL.of g1, rfl⟩, ?_⟩
  have hlen : fs.length + (ws.reverse.flatMap subsR).length = (subsR q).length := by rw [← hinv, List.length_append]
  rcases List.eq_nil_or_concat ws with rfl | ⟨ws', x, rfl⟩
  · have e : vg = [] := List.eq_nil_of_length_eq_zero hlg
    subst e
    refine iteF ⟨_, rfl, ?_⟩
    rw [List.reverse_nil, List.flatMap_nil, List.append_nil] at hinv
    rw [← hinv] at fin
    exact fin f H1 s1 hf F1
  · rw [List.concat_eq_append] at hinv hlen hlg g2 g3 ⊢
    rw [List.map_append] at g2
    obtain ⟨vs', us, rfl, d1, d2⟩ := DpAll.appI g2
    obtain ⟨vx, us2, rfl, dvx, dn⟩ := DpAll.consI d2
    rw [DpAll.nilI dn] at g1 hlg ⊢
    rw [List.length_append, List.length_append] at hlg
    have hl' : vs'.length = ws'.length := by simpa using hlg
    rw [show (!(vs' ++ [vx]).isEmpty) = true by simp]
    have hrev : (ws' ++ [x]).reverse.flatMap subsR = x :: ((partsU x).reverse.flatMap subsR ++ ws'.reverse.flatMap subsR) := by
      rw [List.reverse_append, List.reverse_singleton, List.flatMap_append, List.flatMap_singleton, subsR_eq]; rfl
    rw [hrev] at hinv hlen ⊢
    have hge := flat_ge ws'.reverse
    have hge2 := flat_ge (partsU x).reverse
    rw [List.length_reverse] at hge hge2
    rw [List.length_cons, List.length_append] at hlen
    refine iteT ⟨fun σ' H' => ∃ (fs ws : List Qu) (c3 : Option V), σ' = [some v, some (.ref f), some (.ref g), c3] ∧ Same H H' ∧ UAt K H' f fs ∧ UAt K H' g ws ∧ fs ++ ws.reverse.flatMap subsR = subsR q ∧ (ws.reverse.flatMap subsR).length < (x :: ((partsU x).reverse.flatMap subsR ++ ws'.reverse.flatMap subsR)).length,
      fun σ' H' ⟨fs, ws, c, h1, h2, h3, h4, h5, h6⟩ => ⟨_, h6, fs, ws, c, h1, h2, h3, h4, h5, rfl⟩, ?_⟩
    refine ⟨_, rfl, .inl ⟨rfl, _, SqL.of g1⟩, g, _, vx, rfl, rfl, g1, (by simp), ?_⟩
    rw [List.dropLast_concat]
    obtain ⟨vf, f1, f2, f3⟩ := F1
    have k2 : TK H1 (upd H1 g (.lst vs')) := TK.updL (TK.refl H1) g1
    have f1' : upd H1 g (.lst vs') f = some (.lst vf) := by rw [upd_ne hgf.symm]; exact f1
    have k3 : TK H1 (upd (upd H1 g (.lst vs')) f (.lst (vf ++ [vx]))) := TK.updL k2 f1'
    have hvf : vf.length = fs.length := by rw [DpAll.len f2, List.length_map]
    have s3 : Same H (upd (upd H1 g (.lst vs')) f (.lst (vf ++ [vx]))) := same_upd (same_upd s1 hg0) hf
    have dvx3 := Dp.keep k3 dvx (imm_encU x)
    refine ⟨_, rfl, .inl ⟨rfl, _, SqL.of f1'⟩, _, rfl, f, _, _, rfl, rfl, f1', (by rw [hvf]; exact len_lt (by omega)), ?_⟩
    have g4 : upd (upd H1 g (.lst vs')) f (.lst (vf ++ [vx])) g = some (.lst vs') := by rw [upd_ne hgf]; exact upd_same
    refine ⟨_, rfl, .inl ⟨rfl, _, SqL.of g4⟩, _, rfl, vx, x, rfl, dvx3, fun p H4 xs s4 hp4 hxs => ?_⟩
    have g5 := s4 _ _ g4
    have f5 : H4 f = some (.lst (vf ++ [vx])) := s4 _ _ upd_same
    have hxl : xs.length = (partsU x).length := by rw [DpAll.len hxs, List.length_map]
    refine ⟨g, p, _, _, rfl, rfl, g5, hp4, (by rw [hl', hxl]; show _ ≤ 16777216; omega), ?_⟩
    have k5 : TK H4 (upd H4 g (.lst (vs' ++ xs))) := TK.updL (TK.refl H4) g5
    refine ⟨fs ++ [x], ws' ++ partsU x, some vx, rfl, same_upd (s3.trans s4) hg0, ⟨vf ++ [vx], by rw [upd_ne hgf.symm]; exact f5, ?_, ?_⟩, ⟨vs' ++ xs, upd_same, ?_, ?_⟩, ?_, ?_⟩
    · rw [List.map_append]
      exact DpAll.keep k5 (DpAll.same s4 (DpAll.app (DpAll.keep k3 f2 f3) (.cons dvx3 .nil))) (fun y hy => by
        rcases List.mem_append.mp hy with hy | hy
        · exact f3 y hy
        · rw [List.mem_singleton.mp hy]; exact imm_encU x)
    · intro y hy
      obtain ⟨z, _, rfl⟩ := List.mem_map.mp hy
      exact imm_encU z
    · rw [List.map_append]
      refine DpAll.keep k5 (DpAll.app (DpAll.same s4 (DpAll.keep k3 d1 fun y hy => ?_)) hxs) fun y hy => ?_
      · obtain ⟨z, _, rfl⟩ := List.mem_map.mp hy
        exact imm_encU z
      · rw [← List.map_append] at hy
        obtain ⟨z, _, rfl⟩ := List.mem_map.mp hy
        exact imm_encU z
    · intro y hy
      obtain ⟨z, _, rfl⟩ := List.mem_map.mp hy
      exact imm_encU z
    · rw [List.reverse_append, List.flatMap_append, List.append_assoc]
      exact hinv
    · rw [List.reverse_append, List.flatMap_append, List.length_cons]
      exact Nat.lt_succ_self _
def ySize (K : PySem.W.Frag) : Sp := fun vs H Q _ => ∃ (v : V) (q : Qu), vs = [v] ∧ Dp K H v (encU q) ∧ (subsR q).length ≤ 1000000 ∧ ∀ H', Same H H' → Q (.int ((subsR q).length : Int)) H'
theorem ok_size (T : Txt K mg A D) : FnOk P w K mg base CX0 3 (A 8) (D 8) ["question"] (ySize K) := by
  refine T.F_size.ok sc_size (fun vs H Q E h => ?_) (fun cdv A' outer s H vs Q E hr h => ?_)
  · obtain ⟨v, q, rfl, _⟩ := h; rfl
  obtain ⟨v, q, rfl, hd, hsz, fin⟩ := h
  have hnd := sc_size.nd
  have G_questions_in := ok_questions_in (P := P) (w := w) (base := base) T
  refine ⟨_, (pss_one (ps_ret (pe_callB call_len_seq rfl T.z_len PySem.boot_len (pa_cons (pe_call G_questions_in (hr.mono (by first | decide | omega)) rfl T.m_questions_in T.F_questions_in.kp T.b_questions_in .nil pass0 (pa_cons (pv 0) pa_nil)) pa_nil)))), ?_⟩
  refine ⟨_, rfl, v, q, rfl, hd, hsz, fun p H1 s1 _ ⟨vs, h1, h2, _⟩ => ⟨p, vs, rfl, .inl (SqL.of h1), ?_⟩⟩
  rw [show vs.length = (subsR q).length by rw [DpAll.len h2, List.length_map]]
  exact fin H1 s1
/-- what is read of the tokens -/
def RQ (ts : List Pat) (r : Rs Qu) : Prop := ∃ r1, WQ ts r1 ∧ (∀ q b, r1 = .ok q b → (subsR q).length ≤ 1000000) ∧ r = (match r1 with | .bad p w => .bad p w | .ok q b => if 24 < (subsR q).length then .bad ts.length "size" else .ok q b)
theorem ok_read_question (T : Txt K mg A D) : FnOk P w K mg base (L2.CX P w) 40 (A 7) (D 7) ["text"] (fun vs H Q E => ∃ (z : Str) (ts : List Pat) (r : Rs Qu), vs = [.str z] ∧ z.length ≤ 100000 ∧ Toks (tl z) ts ∧ WF ts ∧ RQ ts r ∧ OutV K (A 101) H r Q E) := by
  refine T.F_read_question.okX (k := 39) sc_read_question (fun vs H Q E h => ?_) (fun cdv A' outer s H vs Q E hr h => ?_)
  · obtain ⟨l, ts, r, rfl, _⟩ := h; rfl
  obtain ⟨z, ts, r, rfl, hz, hTk, hW, ⟨r1, hR, hbig, rfl⟩, q⟩ := h
  have hnd := sc_read_question.nd
  have G_tokens_of := ok_tokens_of (P := P) (w := w) (base := base) T
  have G_whole_question := ok_whole_question (P := P) (w := w) (base := base) T
  have G_size := ok_size (P := P) (w := w) (base := base) T
  have GI_QuestionFault := ok_QuestionFault (P := P) (w := w) (base := base) T
  obtain ⟨tM, hLARGEST_SIZE⟩ := T.c_LARGEST_SIZE
  refine ⟨_, (pss_cons (ps_set (i := 1) hnd rfl (Or.inl rfl) (pe_call G_tokens_of (hr.mono (by first | decide | omega)) rfl T.m_tokens_of T.F_tokens_of.kp T.b_tokens_of .nil pass0 (pa_cons (pv 0) pa_nil))) (pss_cons (ps_set (i := 2) hnd rfl (Or.inl rfl) (pe_callS G_whole_question (hr.mono (by first | decide | omega)) rfl T.m_whole_question T.F_whole_question.kp T.b_whole_question (fun σ => passAt (takes_of rfl rfl rfl rfl) σ) (pa_cons (pv 1) pa_nil))) (pss_cons (ps_if (pt_cmpR op_gt (pe_call G_size (hr.mono (by first | decide | omega)) rfl T.m_size T.F_size.kp T.b_size .nil pass0 (pa_cons (pv 2) pa_nil)) (pe_glob (v := V.int _) rfl hLARGEST_SIZE ⟨_, rfl⟩) (nomark _)) (pss_one (ps_raise rfl (takes_of rfl rfl rfl rfl) (pmk_oex T.ox_QuestionFault T.iC_QuestionFault T.tI_QuestionFault GI_QuestionFault (hr.mono (by first | decide | omega)) T.b_QuestionFault .nil pass0 rfl T.gC_QuestionFault (pa_cons (pe_callB call_len_seq rfl T.z_len PySem.boot_len (pa_cons (pv 1) pa_nil)) (pa_cons pe_str pa_nil))))) pss_nil) (pss_one (ps_ret (pv 2)))))), ?_⟩
  refine ⟨_, rfl, z, ts, rfl, hz, hTk, fun l H1 s1 hl0 L1 => ?_⟩
  have hT : TkL K H1 l ts := ⟨L1, hW⟩
  refine ⟨_, rfl, l, ts, r1, rfl, hT, hR, ?_⟩
  cases r1 with
  | bad p w => exact Raisd.same q s1
  | ok q0 b =>
    intro v H2 s2 dv
    have hq0 := hbig _ _ rfl
    refine ⟨_, rfl, v, q0, rfl, dv, hq0, fun H3 s3 => ⟨_, _, rfl, rfl, _, rfl, ?_⟩⟩
    by_cases hb : 24 < (subsR q0).length
    · rw [decide_eq_true (show (24 : Int) < ((subsR q0).length : Int) by omega)]
      have q' : Raisd (A 101) ts.length "size" H E := by
        have q2 := q
        simp only [hb, if_true] at q2
        exact q2
      obtain ⟨vs, h1, h2, _⟩ := (L1.same (s2.trans s3))
      refine iteT ⟨_, rfl, l, vs, rfl, .inl (SqL.of h1), ?_⟩
      rw [show vs.length = ts.length by rw [DpAll.len h2, List.length_map]]
      exact raise_use (Raisd.same q' ((s1.trans s2).trans s3))
    · rw [decide_eq_false (show ¬ (24 : Int) < ((subsR q0).length : Int) by omega)]
      refine iteF ⟨_, rfl, ?_⟩
      have q2 := q
      simp only [hb, if_false] at q2
      exact q2 v _ ((s1.trans s2).trans s3) (Dp.same s3 dv)
end

open TL
theorem atI_mem {α : Type} {l : List α} {r : Int} (h0 : 0 ≤ r) (h1 : r < (l.length : Int)) : ∃ c, atI l r = some c ∧ c ∈ l := by
  obtain ⟨n, rfl⟩ := Int.eq_ofNat_of_zero_le h0
  have hn : n < l.length := by omega
  exact ⟨l[n], atI_nat (List.getElem?_eq_getElem hn), List.getElem_mem hn⟩
theorem tl_sgn (c : Nat) : tl (⟨#[c]⟩ : Str) = [c] := rfl

def ySpLaw (K : PySem.W.Frag) : Sp := fun vs H Q _ => ∃ (a : Addr) (ns : List Int), vs = [.ref a] ∧ SqL K H a (ns.map V.int) ∧ ns.length ≤ 63 ∧ ∀ H', Q (.bl true) H'
theorem box_new {H1 : Hp} {p bx : Addr} {ds : List Int} (hp : H1 p = some (.lst (ds.map V.int))) (hb : H1 bx = none) : BoxAt (upd H1 bx (.lst [.ref p, .int 0])) bx p :=
  ⟨ds, 0, upd_same, by rw [upd_ne (ne_of_none hp hb)]; exact hp⟩
theorem pick2 {a b : V} {r : Int} (h0 : 0 ≤ r) (h1 : r < 2) : atI [a, b] r = some (if r = 0 then a else b) := by
  by_cases e : r = 0
  · subst e; rfl
  · have e1 : r = 1 := by omega
    subst e1; rfl
theorem pick2i {x y r : Int} (h0 : 0 ≤ r) (h1 : r < 2) : atI [V.int x, V.int y] r = some (V.int (if r = 0 then x else y)) := by
  rw [pick2 h0 h1]; split <;> rfl
theorem pick2s {x y : Str} {r : Int} (h0 : 0 ≤ r) (h1 : r < 2) : atI [V.str x, V.str y] r = some (V.str (if r = 0 then x else y)) := by
  rw [pick2 h0 h1]; split <;> rfl
theorem atI_map {α β : Type} {f : α → β} {l : List α} {r : Int} {x : α} (h0 : 0 ≤ r) (h : atI l r = some x) : atI (l.map f) r = some (f x) := by
  obtain ⟨n, rfl⟩ := Int.eq_ofNat_of_zero_le h0
  by_cases hn : n < l.length
  · have e : atI l (n : Int) = some l[n] := atI_nat (List.getElem?_eq_getElem hn)
    have e2 : l[n] = x := Option.some.inj (e.symm.trans h)
    exact atI_nat (by rw [List.getElem?_map, List.getElem?_eq_getElem hn, e2]; rfl)
  · unfold atI ixN at h
    rw [if_pos h0, if_neg (by omega)] at h
    cases h

/-! ### drawn words, patterns, questions -/
def WordOK (x : Str) : Prop := 1 ≤ x.length ∧ x.length ≤ 12 ∧ ∀ c ∈ tl x, c ∈ tl smallS
def PatOK (t : Pat) : Prop := (t.1 = "word" ∨ t.1 = "start") ∧ WordOK t.2
def yWord (K : PySem.W.Frag) : Sp := fun vs H Q _ => ∃ (b p : Addr), vs = [.ref b] ∧ BoxAt H b p ∧
  ∀ (x : Str) (H' : Hp), WordOK x → BoxAt H' b p → Kp b H H' → Q (.str x) H'
def yPat (K : PySem.W.Frag) : Sp := fun vs H Q _ => ∃ (b p : Addr), vs = [.ref b] ∧ BoxAt H b p ∧
  ∀ (q : Addr) (t : Pat) (H' : Hp), PatOK t → Dp K H' (.ref q) (encT t) → BoxAt H' b p → Kp b H H' → Q (.ref q) H'
def words12 : List Str := ["a", "ab", "abc", "b", "ba", "mill", "mills", "weir", "0", "a0", "z9", "bab"]
theorem kinds3 {x : Str} (h : x ∈ (["word", "start", "word"] : List Str)) : x = "word" ∨ x = "start" := by
  rcases List.mem_cons.mp h with h | h
  · exact .inl h
  · rcases List.mem_cons.mp h with h | h
    · exact .inr h
    · exact .inl (List.mem_singleton.mp h)
theorem words12_len : ∀ x ∈ words12, 1 ≤ x.length ∧ x.length ≤ 12 ∧ ∀ c ∈ tl x, c ∈ tl smallS := by decide +kernel
theorem Kp.none {b : Addr} {H H' : Hp} {l : Addr} (k : Kp b H H') (h : H' l = none) (n : l ≠ b) : H l = none := by
  cases q : H l with
  | none => rfl
  | some o => rw [k l o q n] at h; cases h
section
variable {P : Program} {w : World} {K : PySem.W.Frag} {mg : Str → Option Value} {base : Heap} {A : Nat → Addr} {D : Nat → FuncData}
theorem ok_lword (T : Txt K mg A D) : FnOk P w K mg base CX0 2 (A 29) (D 29) ["box"] (yWord K) := by
  refine T.F__law_word.ok sc__law_word (fun vs H Q E h => ?_) (fun cdv A' outer s H vs Q E hr h => ?_)
  · obtain ⟨b, p, rfl, _⟩ := h; rfl
  obtain ⟨b, p, rfl, B, q⟩ := h
  have hnd := sc__law_word.nd
  have G__law_draw := ok_draw (P := P) (w := w) (base := base) T
  refine ⟨_, (pss_cons (ps_set (i := 1) hnd rfl (Or.inl rfl) (pe_call G__law_draw (hr.mono (by first | decide | omega)) rfl T.m__law_draw T.F__law_draw.kp T.b__law_draw .nil pass0 (pa_cons (pv 0) (pa_cons pe_int pa_nil)))) (pss_cons (ps_if (pt_cmpR op_gt (pv 1) pe_int (nomark _)) (pss_one (ps_ret (pe_ix (r := rIxL K) ix_list (pe_lst (pa_cons pe_str (pa_cons pe_str (pa_cons pe_str (pa_cons pe_str (pa_cons pe_str (pa_cons pe_str (pa_cons pe_str (pa_cons pe_str (pa_cons pe_str (pa_cons pe_str (pa_cons pe_str (pa_cons pe_str pa_nil))))))))))))) (pe_call G__law_draw (hr.mono (by first | decide | omega)) rfl T.m__law_draw T.F__law_draw.kp T.b__law_draw .nil pass0 (pa_cons (pv 0) (pa_cons pe_int pa_nil))) (fun _ _ => rfl)))) pss_nil) (pss_cons (ps_set (i := 2) hnd rfl (Or.inl rfl) pe_str) (pss_cons (ps_for PassesOwn.never rfl (pi_range1 rfl T.z_range (pa_cons (pe_op op_add pe_int (pe_call G__law_draw (hr.mono (by first | decide | omega)) rfl T.m__law_draw T.F__law_draw.kp T.b__law_draw .nil pass0 (pa_cons (pv 0) (pa_cons (pe_ix (r := rIxL K) ix_list (pe_lst (pa_cons pe_int (pa_cons pe_int pa_nil))) (pe_call G__law_draw (hr.mono (by first | decide | omega)) rfl T.m__law_draw T.F__law_draw.kp T.b__law_draw .nil pass0 (pa_cons (pv 0) (pa_cons pe_int pa_nil))) (fun _ _ => rfl)) pa_nil)))) pa_nil)) (pg_name (i := 3) hnd rfl (Or.inl rfl)) (pss_one (ps_set (i := 2) hnd rfl (Or.inl rfl) (pe_op op_add_str (pv 2) (pe_ix ix_str pe_str (pe_call G__law_draw (hr.mono (by first | decide | omega)) rfl T.m__law_draw T.F__law_draw.kp T.b__law_draw .nil pass0 (pa_cons (pv 0) (pa_cons pe_int pa_nil))) (fun _ _ => rfl)))))) (pss_one (ps_ret (pv 2))))))), ?_⟩
  refine ⟨_, rfl, b, p, _, rfl, B, (by decide), fun r1 H1 h10 h11 B1 k1 => ?_⟩
  refine ⟨_, rfl, _, _, rfl, rfl, _, rfl, ?_⟩
  refine ite2 (fun _ => ?_) (fun _ => ?_)
  · refine ⟨(by show 12 ≤ sizeLine; decide), fun l4 hl4 => ⟨_, rfl, b, p, _, rfl, B1.keep (same_new hl4), (by decide), fun r3 H3 h30 h31 B3 k3 => ?_⟩⟩
    obtain ⟨x, hx, hm⟩ := atI_mem (l := words12) h30 h31
    exact ⟨l4, _, r3, _, rfl, rfl, SqL.of (k3 _ _ upd_same (B1.ne hl4).1), atI_map h30 hx, q x H3 (words12_len x hm) B3 ((k1.trans (Kp.of (same_new hl4))).trans k3)⟩
  · refine ⟨_, rfl, (by show 2 ≤ sizeLine; decide), fun l4 hl4 => ⟨_, rfl, b, p, _, rfl, B1.keep (same_new hl4), (by decide), fun r3 H3 h30 h31 B3 k3 => ?_⟩⟩
    refine ⟨l4, _, r3, _, rfl, rfl, SqL.of (k3 _ _ upd_same (B1.ne hl4).1), pick2i h30 h31, b, p, _, rfl, B3, (by split <;> decide), fun r4 H4 h40 h41 B4 k4 => ?_⟩
    have h42 : r4 < 12 := by split at h41 <;> omega
    have kk := ((k1.trans (Kp.of (same_new hl4))).trans k3).trans k4
    refine ⟨_, _, rfl, rfl, _, rfl, (by omega), (by omega), ?_⟩
    refine for_range (n := (1 + r4).toNat) (fun i σ H' => ∃ (t : Str) (kv : Option V), σ = [some (.ref b), some (.int r1), some (.str t), kv] ∧ BoxAt H' b p ∧ Kp b H H' ∧ t.length = i ∧ ∀ c ∈ tl t, c ∈ tl smallS)
      ⟨_, none, rfl, B4, kk, rfl, fun c hc => nomatch hc⟩ ?_ ?_
    · rintro i σ H5 hi ⟨t, kv, rfl, B5, k5, hl, hs⟩
      refine ⟨_, rfl, _, rfl, b, p, _, rfl, B5, (by decide), fun r H6 h0 h1 B6 k6 => ?_⟩
      obtain ⟨c, hc, hm⟩ := atI_mem (l := tl ("abcdefghijklmnopqrstuvwxyz0123456789" : Str)) h0 h1
      refine ⟨_, r, c, rfl, rfl, (by decide +kernel), hc, _, _, rfl, rfl, (by show t.length + 1 ≤ 16777216; omega), ?_⟩
      refine ⟨_, _, rfl, B6, k5.trans k6, ?_, fun d hd => ?_⟩
      · rw [len_tl, tl_append, tl_sgn, List.length_append, List.length_singleton, ← len_tl, hl]
      · rw [tl_append, tl_sgn] at hd
        rcases List.mem_append.mp hd with hd | hd
        · exact hs d hd
        · rw [List.mem_singleton.mp hd]; exact small_LS _ hm
    · rintro σ H5 ⟨t, kv, rfl, B5, k5, hl, hs⟩
      exact ⟨_, rfl, q t H5 ⟨by omega, by omega, hs⟩ B5 k5⟩
theorem ok_lpattern (T : Txt K mg A D) : FnOk P w K mg base CX0 3 (A 30) (D 30) ["box"] (yPat K) := by
  refine T.F__law_pattern.ok sc__law_pattern (fun vs H Q E h => ?_) (fun cdv A' outer s H vs Q E hr h => ?_)
  · obtain ⟨b, p, rfl, _⟩ := h; rfl
  obtain ⟨b, p, rfl, B, q⟩ := h
  have hnd := sc__law_pattern.nd
  have G__law_draw := ok_draw (P := P) (w := w) (base := base) T
  have G__law_word := ok_lword (P := P) (w := w) (base := base) T
  refine ⟨_, (pss_one (ps_ret (pe_tup (pa_cons (pe_ix (r := rIxL K) ix_list (pe_lst (pa_cons pe_str (pa_cons pe_str (pa_cons pe_str pa_nil)))) (pe_call G__law_draw (hr.mono (by first | decide | omega)) rfl T.m__law_draw T.F__law_draw.kp T.b__law_draw .nil pass0 (pa_cons (pv 0) (pa_cons pe_int pa_nil))) (fun _ _ => rfl)) (pa_cons (pe_call G__law_word (hr.mono (by first | decide | omega)) rfl T.m__law_word T.F__law_word.kp T.b__law_word .nil pass0 (pa_cons (pv 0) pa_nil)) pa_nil))))), ?_⟩
  refine ⟨(by show 3 ≤ sizeLine; decide), fun l4 hl4 => ⟨_, rfl, b, p, _, rfl, B.keep (same_new hl4), (by decide), fun r3 H3 h30 h31 B3 k3 => ?_⟩⟩
  obtain ⟨x, hx, hm⟩ := atI_mem (l := (["word", "start", "word"] : List Str)) h30 h31
  refine ⟨l4, _, r3, _, rfl, rfl, SqL.of (k3 _ _ upd_same (B.ne hl4).1), atI_map h30 hx, _, rfl, b, p, rfl, B3, fun t H4 ht B4 k4 => ?_⟩
  refine ⟨(by show 2 ≤ sizeLine; decide), fun q1 hq1 => ?_⟩
  have s4 := same_new (o := .tup [.str x, .str t]) hq1
  exact q q1 (x, t) _ ⟨kinds3 hm, ht⟩ (.tup (SqT.of upd_same) (.cons (.str _) (.cons (.str _) .nil))) (B4.keep s4) ((((Kp.of (same_new hl4)).trans k3).trans k4).trans (Kp.of s4))
end
def Dl : Nat → Qu → Prop
  | 0, _ => False
  | _ + 1, .all => True
  | _ + 1, .row ps g => 1 ≤ ps.length ∧ ps.length ≤ 6 ∧ g ≤ 3 ∧ ∀ t ∈ ps, PatOK t
  | n + 1, .neg q => Dl n q
  | n + 1, .bin _ qs => 2 ≤ qs.length ∧ qs.length ≤ 3 ∧ ∀ q ∈ qs, Dl n q
theorem kp_updN {b d : Addr} {H H' : Hp} {o : HO} (k : Kp b H H') (h : H d = none) : Kp b H (upd H' d o) := fun c u hc n => by rw [upd_ne (ne_of_none hc h)]; exact k c u hc n
theorem ite_dup {c : Prop} [Decidable c] {A X : Prop} (main : A) (rest : A → ¬ c → X) : if c then A else X := by
  split
  · exact main
  · exact rest main ‹_›
def yQuest (K : PySem.W.Frag) : Nat → Sp
  | 0 => fun _ _ _ _ => False
  | d + 1 => fun vs H Q _ => ∃ (b p : Addr), vs = [.ref b, .int (d : Int), .bl false] ∧ BoxAt H b p ∧
    ∀ v H' (q : Qu), Dl (d + 1) q → Dp K H' v (encU q) → BoxAt H' b p → Kp b H H' → Q v H'
section
variable {P : Program} {w : World} {K : PySem.W.Frag} {mg : Str → Option Value} {base : Heap} {A : Nat → Addr} {D : Nat → FuncData}
theorem ok_lquestion (T : Txt K mg A D) : ∀ d, FnOk P w K mg base CX0 (d + 3) (A 31) (D 31) ["box", "depth", "simple"] (yQuest K d)
  | 0 => ⟨fun vs H Q E h => h.elim, fun A outer s H args us vs Q E _ _ _ _ h => h.elim⟩
  | d + 1 => by
    have G__law_question := ok_lquestion T d
    have G__law_draw := ok_draw (P := P) (w := w) (base := base) T
    have G__law_pattern := ok_lpattern (P := P) (w := w) (base := base) T
    refine T.F__law_question.ok (k := d + 3) sc__law_question (fun vs H Q E h => ?_) (fun cdv A' outer s H vs Q E hr h => ?_)
    · obtain ⟨b, p, rfl, _⟩ := h; rfl
    obtain ⟨b, p, rfl, B, fin⟩ := h
    have hnd := sc__law_question.nd
    refine ⟨_, (pss_cons (ps_set (i := 4) hnd rfl (Or.inl rfl) (pe_call G__law_draw (hr.mono (by first | decide | omega)) rfl T.m__law_draw T.F__law_draw.kp T.b__law_draw .nil pass0 (pa_cons (pv 0) (pa_cons pe_int pa_nil)))) (pss_cons (ps_if (PW.pt (pw_or (pt_cmpR op_eq (pv 1) pe_int (nomark _)) (pw_or1 (pt_cmpR op_lt (pv 4) pe_int (nomark _))))) (pss_cons (ps_if (pt_cmpR op_eq (pe_call G__law_draw (hr.mono (by first | decide | omega)) rfl T.m__law_draw T.F__law_draw.kp T.b__law_draw .nil pass0 (pa_cons (pv 0) (pa_cons pe_int pa_nil))) pe_int (nomark _)) (pss_one (ps_ret (pe_tup (pa_cons pe_str pa_nil)))) pss_nil) (pss_cons (ps_set (i := 5) hnd rfl (Or.inl rfl) pe_int) (pss_cons (ps_set (i := 6) hnd rfl (Or.inl rfl) pe_int) (pss_cut (ps_if (PW.pt (pw_and (pt_not (pt_val (pv 2))) (pw_and1 (pt_cmpR op_eq (pe_call G__law_draw (hr.mono (by first | decide | omega)) rfl T.m__law_draw T.F__law_draw.kp T.b__law_draw .nil pass0 (pa_cons (pv 0) (pa_cons pe_int pa_nil))) pe_int (nomark _))))) (pss_cons (ps_set (i := 5) hnd rfl (Or.inl rfl) (pe_op op_add (pe_op op_add pe_int (pe_call G__law_draw (hr.mono (by first | decide | omega)) rfl T.m__law_draw T.F__law_draw.kp T.b__law_draw .nil pass0 (pa_cons (pv 0) (pa_cons pe_int pa_nil)))) (pe_op op_mul pe_int (pe_op op_fdiv (pe_call G__law_draw (hr.mono (by first | decide | omega)) rfl T.m__law_draw T.F__law_draw.kp T.b__law_draw .nil pass0 (pa_cons (pv 0) (pa_cons pe_int pa_nil))) pe_int)))) (pss_one (ps_set (i := 6) hnd rfl (Or.inl rfl) (pe_op op_mul (pe_call G__law_draw (hr.mono (by first | decide | omega)) rfl T.m__law_draw T.F__law_draw.kp T.b__law_draw .nil pass0 (pa_cons (pv 0) (pa_cons pe_int pa_nil))) (pe_op op_fdiv (pe_call G__law_draw (hr.mono (by first | decide | omega)) rfl T.m__law_draw T.F__law_draw.kp T.b__law_draw .nil pass0 (pa_cons (pv 0) (pa_cons pe_int pa_nil))) pe_int))))) pss_nil) (pss_one (ps_ret (pe_tup (pa_cons pe_str (pa_cons (pe_callTy call_tuple_of rfl T.z_tuple (by decide +kernel) (pa_cons (pe_lc (own := [("k", 3)]) rfl hnd (pi_range1 rfl T.z_range (pa_cons (pv 5) pa_nil)) (blkOk_by (own := [("k", 3)]) (N := N__law_question) (sc := defScope s__law_question) (by decide +kernel)) (fun _ _ _ _ _ => (pg_name (i := 3) hnd rfl (Or.inl rfl))) (fun _ _ _ _ _ => pts_nil) (fun _ _ _ _ _ => (pe_call G__law_pattern (hr.mono (by first | decide | omega)) rfl T.m__law_pattern T.F__law_pattern.kp T.b__law_pattern .nil pass0 (pa_cons (pv 0) pa_nil)))) pa_nil)) (pa_cons (pv 6) pa_nil)))))))))) pss_nil) (pss_cons (ps_if (pt_cmpR op_eq (pv 4) pe_int (nomark _)) (pss_one (ps_ret (pe_tup (pa_cons pe_str (pa_cons (pe_call G__law_question (hr.mono (by first | decide | omega)) rfl T.m__law_question T.F__law_question.kp T.b__law_question .nil pass0 (pa_cons (pv 0) (pa_cons (pe_op op_sub (pv 1) pe_int) (pa_cons (pv 2) pa_nil)))) pa_nil))))) pss_nil) (pss_cons (ps_setLc (i := 7) (own := [("k", 3)]) rfl hnd rfl rfl (sw_true rfl rfl rfl (by decide +kernel)) (pi_range1 rfl T.z_range (pa_cons (pe_op op_add pe_int (pe_op op_fdiv (pe_call G__law_draw (hr.mono (by first | decide | omega)) rfl T.m__law_draw T.F__law_draw.kp T.b__law_draw .nil pass0 (pa_cons (pv 0) (pa_cons pe_int pa_nil))) pe_int)) pa_nil)) (blkOk_by (own := [("k", 3)]) (N := N__law_question) (sc := defScope s__law_question) (by decide +kernel)) (fun _ _ _ _ _ => (pg_name (i := 3) hnd rfl (Or.inl rfl))) (fun _ _ _ _ _ => pts_nil) (fun _ _ _ _ _ => (pe_call G__law_question (hr.mono (by first | decide | omega)) rfl T.m__law_question T.F__law_question.kp T.b__law_question .nil pass0 (pa_cons (pv 0) (pa_cons (pe_op op_sub (pv 1) pe_int) (pa_cons (pv 2) pa_nil)))))) (pss_one (ps_ret (pe_tup (pa_cons (pe_ix (r := rIxL K) ix_list (pe_lst (pa_cons pe_str (pa_cons pe_str pa_nil))) (pe_op op_mod (pe_callTy call_int1 rfl T.z_int (by decide +kernel) (pa_cons (pv 4) pa_nil)) pe_int) (fun _ _ => rfl)) (pa_cons (pe_callTy call_tuple_of rfl T.z_tuple (by decide +kernel) (pa_cons (pv 7) pa_nil)) pa_nil))))))))), ?_⟩
    refine ⟨_, rfl, b, p, 8, rfl, B, (by decide), fun r H1 h10 h11 B1 k1 => ?_⟩
    refine ⟨_, rfl, rfl, _, rfl, ?_⟩
    refine ite_dup ?_ (fun mn c1 => ?_)
    · refine ⟨_, rfl, b, p, 9, rfl, B1, (by decide), fun r2 H2 h20 h21 B2 k2 => ⟨rfl, _, rfl, ?_⟩⟩
      refine ite2 (fun c2 => ?_) (fun c2 => ?_)
      · refine ⟨(by show 1 ≤ sizeLine; decide), fun t ht => ?_⟩
        have s3 := same_new (o := .tup [.str "all"]) ht
        exact fin (.ref t) _ Qu.all True.intro (.tup (SqT.of upd_same) (.cons (.str _) .nil)) (B2.keep s3) ((k1.trans k2).trans (Kp.of s3))
      · refine ⟨fun σ H' => ∃ (m g : Nat), σ = [some (.ref b), some (.int (d : Int)), some (.bl false), none, some (.int r), some (.int (m : Int)), some (.int (g : Int)), none] ∧ BoxAt H' b p ∧ Kp b H H' ∧ 1 ≤ m ∧ m ≤ 6 ∧ g ≤ 3, ?_, ?_⟩
        · refine ⟨_, rfl, _, rfl, ?_⟩
          refine iteT ?_
          refine ⟨_, rfl, b, p, 2, rfl, B2, (by decide), fun r3 H3 h30 h31 B3 k3 => ⟨rfl, _, rfl, ?_⟩⟩
          have k03 := (k1.trans k2).trans k3
          refine ite2 (fun c3 => ?_) (fun c3 => ?_)
          · refine ⟨_, rfl, b, p, 4, rfl, B3, (by decide), fun r4 H4 h40 h41 B4 k4 => ⟨_, _, rfl, rfl, _, rfl, b, p, 6, rfl, B4, (by decide), fun r5 H5 h50 h51 B5 k5 => ⟨_, _, rfl, rfl, ⟨by decide, by decide⟩, _, _, rfl, rfl, .inl ⟨by decide, by decide⟩, _, _, rfl, rfl, ?_⟩⟩⟩
            refine ⟨_, rfl, b, p, 4, rfl, B5, (by decide), fun r6 H6 h60 h61 B6 k6 => ⟨_, rfl, b, p, 3, rfl, B6, (by decide), fun r7 H7 h70 h71 B7 k7 => ⟨_, _, rfl, rfl, ⟨by decide, by decide⟩, _, _, rfl, rfl, .inl ⟨by omega, by omega⟩, ?_⟩⟩⟩
            obtain ⟨m, hm⟩ := Int.eq_ofNat_of_zero_le (show 0 ≤ 1 + r4 + 2 * (r5 / 5) by omega)
            have hz : 0 ≤ r6 * (r7 / 2) ∧ r6 * (r7 / 2) ≤ 3 := by
              rcases (show r7 / 2 = 0 ∨ r7 / 2 = 1 by omega) with e | e <;> rw [e] <;> omega
            obtain ⟨g, hg⟩ := Int.eq_ofNat_of_zero_le hz.1
            refine ⟨m, g, ?_, B7, (((k03.trans k4).trans k5).trans k6).trans k7, by omega, by omega, by omega⟩
            show [some (V.ref b), some (V.int (d : Int)), some (V.bl false), none, some (V.int r), some (V.int (1 + r4 + 2 * (r5 / 5))), some (V.int (r6 * (r7 / 2))), none] = _
            rw [hm, hg]
          · exact ⟨1, 0, rfl, B3, k03, by omega, by omega, by omega⟩
        · rintro σ H3 ⟨m, g, rfl, B3, k3, hm1, hm6, hg⟩
          refine ⟨_, rfl, _, rfl, (by omega), (by omega), fun DD hDD => ?_⟩
          obtain ⟨hDb, hDp⟩ := B3.ne hDD
          have hD0 := k3.none hDD hDb
          refine lc_it (walk_range (n := ((m : Nat) : Int).toNat)) (fun i H' => BoxAt H' b p ∧ Kp b H H' ∧ ∃ ps : List Pat, LAt K H' DD (ps.map encT) ∧ (∀ t ∈ ps, PatOK t) ∧ ps.length = i)
            ⟨B3.updO hDb hDp, kp_updN k3 hD0, [], LAt.nil upd_same, (fun q hq => nomatch hq), rfl⟩ (fun _ _ _ _ => trivial) ?_ ?_
          · rintro i x H4 H5 hi ⟨B4, k4, ps, L4, ok4, n4⟩ ⟨rfl, rfl⟩
            refine ⟨rfl, ?_⟩
            refine ⟨_, rfl, b, p, rfl, B4, fun q1 t H6 ht dt B6 k6 => ?_⟩
            obtain ⟨vs, e1, e2, e3⟩ := L4.kp B4 k6 hDb
            refine ⟨_, e1, ?_, B6.updO hDb hDp, kp_updN (k4.trans k6) hD0, ps ++ [t], ?_, fun t2 ht2 => ?_, by rw [List.length_append, List.length_singleton, n4]⟩
            · rw [DpAll.len e2, List.length_map]; exact len_lt (by omega)
            · rw [List.map_append]
              exact LAt.push e1 e2 e3 dt (imm_encT _)
            · rcases List.mem_append.mp ht2 with h | h
              · exact ok4 t2 h
              · rw [List.mem_singleton.mp h]; exact ht
          · rintro H4 ⟨B4, k4, ps, ⟨vs, e1, e2, e3⟩, ok4, n4⟩
            refine ⟨DD, vs, rfl, .inl ⟨SqL.of e1, fun q2 hq2 => ?_⟩⟩
            have sq := same_new (o := .tup vs) hq2
            refine ⟨_, rfl, (by show 3 ≤ sizeLine; decide), fun t ht => ?_⟩
            have st := same_new (o := .tup [.str "row", .ref q2, .int (g : Int)]) ht
            refine fin (.ref t) _ (Qu.row ps g) ⟨by omega, by omega, by omega, ok4⟩ ?_ ((B4.keep sq).keep st) ((k4.trans (Kp.of sq)).trans (Kp.of st))
            exact .tup (SqT.of upd_same) (.cons (.str _) (.cons (.tup ((TK.same st).seq (SqT.of upd_same)) (DpAll.same (sq.trans st) e2)) (.cons (.int _) .nil)))
    · refine ⟨_, rfl, _, _, rfl, rfl, _, rfl, ?_⟩
      refine ite2 (fun _ => mn) (fun c2 => ?_)
      obtain ⟨e, rfl⟩ : ∃ e, d = e + 1 := ⟨d - 1, by
        have : ¬ (d : Int) = 0 := fun z => c1 (decide_eq_true (congrArg V.int z))
        omega⟩
      have ee : (((e + 1 : Nat) : Int) - 1) = (e : Int) := by omega
      have ev : [V.ref b, V.int (((e + 1 : Nat) : Int) - 1), V.bl false] = [V.ref b, V.int (e : Int), V.bl false] := by rw [ee]
      refine ⟨_, rfl, rfl, _, rfl, ?_⟩
      refine ite2 (fun c3 => ?_) (fun c3 => ?_)
      · refine ⟨_, rfl, _, rfl, _, _, rfl, rfl, _, rfl, b, p, ev, B1, fun v H2 q ok dq B2 k2 => ?_⟩
        refine ⟨(by show 2 ≤ sizeLine; decide), fun t ht => ?_⟩
        have st := same_new (o := .tup [.str "not", v]) ht
        exact fin (.ref t) _ (Qu.neg q) ok (.tup (SqT.of upd_same) (.cons (.str _) (.cons (Dp.same st dq) .nil))) (B2.keep st) ((k1.trans k2).trans (Kp.of st))
      · refine ⟨_, rfl, b, p, 3, rfl, B1, (by decide), fun r2 H2 h20 h21 B2 k2 => ⟨_, _, rfl, rfl, ⟨by decide, by decide⟩, _, _, rfl, rfl, _, rfl, (by omega), (by omega), fun DD hDD => ?_⟩⟩
        have k02 := k1.trans k2
        obtain ⟨hDb, hDp⟩ := B2.ne hDD
        have hD0 := k02.none hDD hDb
        refine lc_it (walk_range (n := (2 + r2 / 2).toNat)) (fun i H' => BoxAt H' b p ∧ Kp b H H' ∧ ∃ qs : List Qu, LAt K H' DD (qs.map encU) ∧ (∀ q ∈ qs, Dl (e + 1) q) ∧ qs.length = i)
          ⟨B2.updO hDb hDp, kp_updN k02 hD0, [], LAt.nil upd_same, (fun q hq => nomatch hq), rfl⟩ (fun _ _ _ _ => trivial) ?_ ?_
        · rintro i x H4 H5 hi ⟨B4, k4, qs, L4, ok4, n4⟩ ⟨rfl, rfl⟩
          refine ⟨rfl, ?_⟩
          refine ⟨_, rfl, _, rfl, _, _, rfl, rfl, _, rfl, b, p, ev, B4, fun v H6 q ok dq B6 k6 => ?_⟩
          obtain ⟨vs, e1, e2, e3⟩ := L4.kp B4 k6 hDb
          refine ⟨_, e1, ?_, B6.updO hDb hDp, kp_updN (k4.trans k6) hD0, qs ++ [q], ?_, fun t2 ht2 => ?_, by rw [List.length_append, List.length_singleton, n4]⟩
          · rw [DpAll.len e2, List.length_map]; exact len_lt (by omega)
          · rw [List.map_append]
            exact LAt.push e1 e2 e3 dq (imm_encU _)
          · rcases List.mem_append.mp ht2 with h | h
            · exact ok4 t2 h
            · rw [List.mem_singleton.mp h]; exact ok
        · rintro H4 ⟨B4, k4, qs, ⟨vs, e1, e2, e3⟩, ok4, n4⟩
          refine ⟨(by show 2 ≤ sizeLine; decide), fun l4 hl4 => ?_⟩
          have sl := same_new (o := .lst [.str "and", .str "or"]) hl4
          have hx : atI [V.str "and", V.str "or"] (r % 2) = some (.str (if decide (r % 2 = 1) = true then "or" else "and")) := by
            rcases (show r % 2 = 0 ∨ r % 2 = 1 by omega) with z | z <;> rw [z] <;> rfl
          refine ⟨_, rfl, .inl ⟨r, rfl, _, _, rfl, rfl, (by show (0 : Int) < 2; decide), l4, _, _, _, rfl, rfl, SqL.of upd_same, hx, ?_⟩⟩
          refine ⟨_, rfl, DD, vs, rfl, .inl ⟨SqL.of (sl _ _ e1), fun q2 hq2 => ?_⟩⟩
          have sq := sl.trans (same_new (o := .tup vs) hq2)
          refine ⟨(by show 2 ≤ sizeLine; decide), fun t ht => ?_⟩
          have st := same_new (o := .tup [.str (if decide (r % 2 = 1) = true then "or" else "and"), .ref q2]) ht
          refine fin (.ref t) _ (Qu.bin (decide (r % 2 = 1)) qs) ⟨by omega, by omega, ok4⟩ ?_ ((B4.keep sq).keep st) ((k4.trans (Kp.of sq)).trans (Kp.of st))
          exact .tup (SqT.of upd_same) (.cons (.str _) (.cons (.tup ((TK.same st).seq (SqT.of upd_same)) (by rw [encUs_map]; exact DpAll.same (sq.trans st) e2)) .nil))
end

/-! ### what is written is read -/
def sg (c : Nat) : Pat := ("sign", S [c])
def dg (g : Nat) : Pat := ("word", S [48 + g])
def IsPt (t : Pat) : Prop := t.1 = "word" ∨ t.1 = "start"
def sepT (o : Bool) : List Pat := if o = true then [sg 124] else []
def jnT (o : Bool) : List (List Pat) → List Pat
  | [] => []
  | u :: us => u ++ us.flatMap fun v => sepT o ++ v
def freeQ (b : Bool) : Qu → Prop
  | .bin o _ => b = false ∧ o = false
  | _ => True
mutual
inductive Wr : Nat → Qu → List Pat → Prop
  | one {n t} : IsPt t → Wr n (.row [t] 0) [t]
  | quo {n ps} : 1 ≤ ps.length → ps.length ≤ 6 → (∀ t ∈ ps, IsPt t) → Wr n (.row ps 0) (sg 34 :: (ps ++ [sg 34]))
  | gap {n ps g} : 1 ≤ ps.length → ps.length ≤ 6 → g ≤ 9 → (∀ t ∈ ps, IsPt t) → Wr n (.row ps g) (sg 60 :: dg g :: (ps ++ [sg 62]))
  | all {n} : Wr n .all [sg 64]
  | neg {n q u} : WrI n true q u → Wr n (.neg q) (sg 45 :: u)
  | bin {n o qs us} : WrL n o qs us → 2 ≤ qs.length → Wr n (.bin o qs) (jnT o us)
inductive WrI : Nat → Bool → Qu → List Pat → Prop
  | op {n b q u} : freeQ b q → Wr n q u → WrI n b q u
  | br {n b q u} : Wr n q u → WrI (n + 1) b q (sg 40 :: (u ++ [sg 41]))
inductive WrL : Nat → Bool → List Qu → List (List Pat) → Prop
  | nil {n o} : WrL n o [] []
  | cons {n o q u qs us} : WrI n (!o) q u → WrL n o qs us → WrL n o (q :: qs) (u :: us)
end
def At (ts : List Pat) (a : Nat) (u : List Pat) : Prop := ∃ post, ts.drop a = u ++ post
theorem At.hd {ts : List Pat} {a : Nat} {t : Pat} {u : List Pat} (h : At ts a (t :: u)) : ts[a]? = some t := by
  obtain ⟨post, h⟩ := h
  have e := congrArg (fun l => l[0]?) h
  simpa using e
theorem At.tail {ts : List Pat} {a : Nat} {t : Pat} {u : List Pat} (h : At ts a (t :: u)) : At ts (a + 1) u := by
  obtain ⟨post, h⟩ := h
  exact ⟨post, by rw [← List.drop_drop, h]; rfl⟩
theorem At.left {ts : List Pat} {a : Nat} {u v : List Pat} (h : At ts a (u ++ v)) : At ts a u := by
  obtain ⟨post, h⟩ := h
  exact ⟨v ++ post, by rw [h, List.append_assoc]⟩
theorem At.right {ts : List Pat} {a : Nat} {u v : List Pat} (h : At ts a (u ++ v)) : At ts (a + u.length) v := by
  obtain ⟨post, h⟩ := h
  exact ⟨post, by rw [← List.drop_drop, h, List.append_assoc, List.drop_left]⟩
theorem isS_sg {ts : List Pat} {a c : Nat} (h : ts[a]? = some (sg c)) (z : Str) : isS ts z a = decide (c ∈ tl z) := by
  rw [isS_some h]
  show (decide (("sign" : Str) = "sign") && decide ((tl (S [c])).headD 0 ∈ tl z)) = _
  rw [decide_eq_true rfl, Bool.true_and]; rfl
theorem isP_sg {ts : List Pat} {a c : Nat} (h : ts[a]? = some (sg c)) : isP ts a = false := by
  rw [isP_some h]
  show (decide (("sign" : Str) = "word") || decide (("sign" : Str) = "start")) = false
  decide +kernel
theorem isP_pt {ts : List Pat} {a : Nat} {t : Pat} (h : ts[a]? = some t) (k : IsPt t) : isP ts a = true := by
  rw [isP_some h]
  rcases k with k | k <;> rw [k] <;> decide +kernel
theorem isS_pt {ts : List Pat} {a : Nat} {t : Pat} (h : ts[a]? = some t) (k : IsPt t) (z : Str) : isS ts z a = false := by
  rw [isS_some h]
  have e : decide (t.1 = "sign") = false := by rcases k with k | k <;> rw [k] <;> decide +kernel
  rw [e, Bool.false_and]
theorem isS_sub {ts : List Pat} {z y : Str} {a : Nat} (h : isS ts z a = true) (hs : ∀ c ∈ tl z, c ∈ tl y) : isS ts y a = true := by
  have hl := isS_lt h
  rw [isS_some (List.getElem?_eq_getElem hl)] at h ⊢
  rw [Bool.and_eq_true, decide_eq_true_eq, decide_eq_true_eq] at h ⊢
  exact ⟨h.1, hs _ h.2⟩
theorem dash_zero {ts : List Pat} {a : Nat} (h : isS ts "-" a = false) : dashN ts a = 0 := by
  cases e : dashN ts a with
  | zero => rfl
  | succ n =>
    have := dash_get (ts := ts) (a := a) (j := 0) (by omega)
    rw [Nat.add_zero, h] at this
    cases this
theorem dash_succ {ts : List Pat} {a : Nat} (h : isS ts "-" a = true) : dashN ts a = dashN ts (a + 1) + 1 := by
  have hl := isS_lt h
  rw [isS_some (List.getElem?_eq_getElem hl)] at h
  unfold dashN
  rw [List.drop_eq_getElem_cons hl, List.takeWhile_cons]
  rw [if_pos h]; rfl
theorem PC.of_pp {ts : List Pat} {d a : Nat} {r : Rs Qu} (h : isS ts "-" a = false) (p : PP ts d a r) : PC ts d a r := by
  have e := dash_zero h
  have := PC.mk (ts := ts) (d := d) (a := a) (r := r) (by rw [e]; exact p)
  rw [e] at this
  cases r <;> exact this
theorem PC.neg {ts : List Pat} {d a b : Nat} {q : Qu} (h : isS ts "-" a = true) (p : PC ts d (a + 1) (.ok q b)) : PC ts d a (.ok (.neg q) b) := by
  have e := dash_succ h
  obtain ⟨r0, hp, er⟩ : ∃ r0, PP ts d (a + 1 + dashN ts (a + 1)) r0 ∧ Rs.ok q b = negsR (dashN ts (a + 1)) r0 := by
    generalize hr : Rs.ok q b = r at p
    cases p with | mk hPP => exact ⟨_, hPP, rfl⟩
  have hp2 : PP ts d (a + dashN ts a) r0 := by rw [e, show a + (dashN ts (a + 1) + 1) = a + 1 + dashN ts (a + 1) by omega]; exact hp
  have := PC.mk hp2
  rw [e] at this
  cases r0 with
  | bad p w => cases er
  | ok q0 b0 =>
    injection er with e1 e2
    rw [e1, e2]
    exact this
theorem PC.begC {ts : List Pat} {d a b : Nat} {q : Qu} (h : PC ts d a (.ok q b)) : begC ts a = true := by
  unfold Z.begC
  cases hd : isS ts "-" a with
  | true => rw [isS_sub hd (y := clauseS) (by decide +kernel), Bool.or_true]
  | false =>
    generalize hr : Rs.ok q b = r at h
    cases h with
    | mk hPP =>
      rw [dash_zero hd, Nat.add_zero] at hPP
      cases hPP with
      | pat _ h => rw [h, Bool.true_or]
      | all _ h => rw [isS_sub h (y := clauseS) (by decide +kernel), Bool.or_true]
      | quo _ _ h => rw [isS_sub h (y := clauseS) (by decide +kernel), Bool.or_true]
      | gapB _ _ _ h _ => rw [isS_sub h (y := clauseS) (by decide +kernel), Bool.or_true]
      | gap _ _ _ h _ => rw [isS_sub h (y := clauseS) (by decide +kernel), Bool.or_true]
      | brB _ _ _ _ h _ => rw [isS_sub h (y := clauseS) (by decide +kernel), Bool.or_true]
      | brC _ _ _ _ h _ => rw [isS_sub h (y := clauseS) (by decide +kernel), Bool.or_true]
      | br _ _ _ _ h _ => rw [isS_sub h (y := clauseS) (by decide +kernel), Bool.or_true]
      | no _ _ _ _ _ => rw [dash_zero hd] at hr; cases hr
theorem PA.of_pc {ts : List Pat} {d a b : Nat} {q : Qu} (p : PC ts d a (.ok q b)) (h : begC ts b = false) : PA ts d a (.ok q b) := .ok p (.stop h)
theorem PQ.of_pa {ts : List Pat} {d a b : Nat} {q : Qu} (p : PA ts d a (.ok q b)) (h : isS ts "|" b = false) : PQ ts d a (.ok q b) := .ok p (.stop h)
theorem takeW_app {f : Pat → Bool} : ∀ {ps : List Pat} {x : Pat} {post : List Pat}, (∀ t ∈ ps, f t = true) → f x = false → (ps ++ x :: post).takeWhile f = ps
  | [], x, post, _, h => by
    show List.takeWhile f (x :: post) = []
    rw [List.takeWhile_cons, h]; rfl
  | p :: r, x, post, hp, h => by
    show List.takeWhile f (p :: (r ++ x :: post)) = _
    rw [List.takeWhile_cons, hp p List.mem_cons_self, takeW_app (fun t ht => hp t (List.mem_cons_of_mem _ ht)) h]; rfl
theorem row_at_run {ts : List Pat} {a g c : Nat} {ps : List Pat} (h : At ts a (ps ++ [sg c])) (h1 : 1 ≤ ps.length) (h6 : ps.length ≤ 6) (hp : ∀ t ∈ ps, IsPt t) : rowR ts a g (S [c]) = .ok (.row ps g) (a + ps.length + 1) := by
  have hs := (At.right h).hd
  obtain ⟨post, h⟩ := h
  have e : (ts.drop a).takeWhile (fun (t : Pat) => decide (t.1 = "word") || decide (t.1 = "start")) = ps := by
    rw [h, List.append_assoc]
    refine takeW_app (fun t ht => ?_) (by show (decide (("sign" : Str) = "word") || decide (("sign" : Str) = "start")) = false; decide +kernel)
    rcases hp t ht with k | k <;> rw [k] <;> decide +kernel
  have en : patN ts a = ps.length := by
    unfold patN
    rw [e]; omega
  unfold rowR
  rw [en, isS_sg hs, if_neg (by
    rintro (z | z)
    · omega
    · rw [decide_eq_true (show c ∈ tl (S [c]) from List.mem_singleton.mpr rfl)] at z; cases z), h, List.append_assoc, List.take_left]
def Rn (ts : List Pat) (d a : Nat) (q : Qu) (b : Nat) : Prop := match q with
  | .bin false _ => begC ts b = false → PA ts d a (.ok q b)
  | .bin true _ => begC ts b = false → isS ts "|" b = false → PQ ts d a (.ok q b)
  | _ => PC ts d a (.ok q b)
theorem Rn.pq {ts : List Pat} {d a b : Nat} {q : Qu} (h : Rn ts d a q b) (h1 : begC ts b = false) (h2 : isS ts "|" b = false) : PQ ts d a (.ok q b) := by
  cases q with
  | all => exact .of_pa (.of_pc h h1) h2
  | row ps g => exact .of_pa (.of_pc h h1) h2
  | neg q => exact .of_pa (.of_pc h h1) h2
  | bin o qs =>
    cases o with
    | false => exact .of_pa (h h1) h2
    | true => exact h h1 h2
theorem Rn.pa {ts : List Pat} {d a b : Nat} {q : Qu} (h : Rn ts d a q b) (hf : freeQ false q) (h1 : begC ts b = false) : PA ts d a (.ok q b) := by
  cases q with
  | all => exact .of_pc h h1
  | row ps g => exact .of_pc h h1
  | neg q => exact .of_pc h h1
  | bin o qs =>
    obtain ⟨_, rfl⟩ : false = false ∧ o = false := hf
    exact h h1
theorem Rn.pc {ts : List Pat} {d a b : Nat} {q : Qu} (h : Rn ts d a q b) (hf : freeQ true q) : PC ts d a (.ok q b) := by
  cases q with
  | all => exact h
  | row ps g => exact h
  | neg q => exact h
  | bin o qs =>
    obtain ⟨e, _⟩ : true = false ∧ o = false := hf
    cases e
def RnI (ts : List Pat) (d a : Nat) (b : Bool) (q : Qu) (e : Nat) : Prop := if b = true then PC ts d a (.ok q e) else (begC ts e = false → PA ts d a (.ok q e))
theorem begC_sg {ts : List Pat} {a c : Nat} (h : ts[a]? = some (sg c)) (hc : ¬ c ∈ tl clauseS) : begC ts a = false := by
  unfold Z.begC
  rw [isP_sg h, isS_sg h, decide_eq_false hc]; rfl
theorem madeU_app {o : Bool} {acc qs : List Qu} (h : 2 ≤ (acc ++ qs).length) : madeU o (acc ++ qs) = .bin o (acc ++ qs) := madeU_two (by omega)

mutual
theorem Wr.run {ts : List Pat} : ∀ {n : Nat} {q : Qu} {u : List Pat}, Wr n q u → ∀ {d a : Nat}, d + n ≤ 6 → At ts a u → Rn ts d a q (a + u.length)
  | _, _, _, .one (t := t) ht, d, a, _, h => by
    have h0 := h.hd
    refine PC.of_pp (isS_pt h0 ht _) ?_
    exact .pat h0 (isP_pt h0 ht)
  | _, _, _, .quo (ps := ps) h1 h6 hp, d, a, _, h => by
    have h0 := h.hd
    refine PC.of_pp (by rw [isS_sg h0]; decide +kernel) ?_
    have p := PP.quo (ts := ts) (d := d) (a := a) (isP_sg h0) (by rw [isS_sg h0]; decide +kernel) (by rw [isS_sg h0]; decide +kernel)
    rw [show (Str.ofString "\"") = S [34] by decide +kernel, row_at_run h.tail h1 h6 hp] at p
    have e : a + (sg 34 :: (ps ++ [sg 34])).length = a + 1 + ps.length + 1 := by simp; omega
    rw [e]; exact p
  | _, _, _, .gap (ps := ps) (g := g) h1 h6 hg hp, d, a, _, h => by
    have h0 := h.hd
    have hd := h.tail.hd
    refine PC.of_pp (by rw [isS_sg h0]; decide +kernel) ?_
    have hD : isD ts (a + 1) = true ∧ gapN ts (a + 1) = g := by
      constructor
      · rw [isD_some hd]
        have : ∀ g : Nat, g ≤ 9 → (decide ((dg g).1 = "word") && (decide ((dg g).2.length = 1) && decide ((tl (dg g).2).headD 0 ∈ tl digitsS))) = true := by decide +kernel
        exact this g hg
      · unfold gapN
        rw [List.getD_eq_getElem?_getD, hd]
        show 48 + g - 48 = g
        omega
    have p := PP.gap (ts := ts) (d := d) (a := a) (isP_sg h0) (by rw [isS_sg h0]; decide +kernel) (by rw [isS_sg h0]; decide +kernel) (by rw [isS_sg h0]; decide +kernel) hD.1
    rw [show (Str.ofString ">") = S [62] by decide +kernel, hD.2, row_at_run h.tail.tail h1 h6 hp] at p
    have e : a + (sg 60 :: dg g :: (ps ++ [sg 62])).length = a + 2 + ps.length + 1 := by simp; omega
    rw [e]; exact p
  | _, _, _, .all, d, a, _, h => by
    have h0 := h.hd
    refine PC.of_pp (by rw [isS_sg h0]; decide +kernel) ?_
    exact .all (isP_sg h0) (by rw [isS_sg h0]; decide +kernel)
  | _, _, _, .neg (q := q) (u := u) hi, d, a, hn, h => by
    have h0 := h.hd
    have i := WrI.run hi hn h.tail
    have p := PC.neg (by rw [isS_sg h0]; decide +kernel) i
    have e : a + (sg 45 :: u).length = a + 1 + u.length := by simp; omega
    rw [e]; exact p
  | _, _, _, .bin (o := false) .nil h2, d, a, hn, h => absurd h2 (by decide)
  | _, _, _, .bin (o := false) (.cons (q := q) (u := u) (qs := qs) (us := us) hi hr) h2, d, a, hn, h => by
    intro hb
    have ha : At ts a (u ++ us.flatMap fun v => sepT false ++ v) := h
    have hb' : begC ts (a + u.length + (us.flatMap fun v => sepT false ++ v).length) = false := by
      rw [Nat.add_assoc, ← List.length_append]; exact hb
    have i : PC ts d a (.ok q (a + u.length)) := WrI.run hi hn ha.left
    obtain ⟨k, p⟩ := WrL.runA hr rfl hn (acc := [q]) ha.right hb' (show 2 ≤ ([q] ++ qs).length from h2)
    have := PA.ok i p
    rw [Nat.add_assoc, ← List.length_append] at this
    exact this
  | _, _, _, .bin (o := true) .nil h2, d, a, hn, h => absurd h2 (by decide)
  | _, _, _, .bin (o := true) (.cons (q := q) (u := u) (qs := qs) (us := us) hi hr) h2, d, a, hn, h => by
    intro hb hbar
    have ha : At ts a (u ++ us.flatMap fun v => sepT true ++ v) := h
    have hb' : begC ts (a + u.length + (us.flatMap fun v => sepT true ++ v).length) = false := by
      rw [Nat.add_assoc, ← List.length_append]; exact hb
    have hbar' : isS ts "|" (a + u.length + (us.flatMap fun v => sepT true ++ v).length) = false := by
      rw [Nat.add_assoc, ← List.length_append]; exact hbar
    have i : begC ts (a + u.length) = false → PA ts d a (.ok q (a + u.length)) := WrI.run hi hn ha.left
    obtain ⟨hc, k, p⟩ := WrL.runQ hr rfl hn (acc := [q]) ha.right hb' hbar' (show 2 ≤ ([q] ++ qs).length from h2)
    have := PQ.ok (i hc) p
    rw [Nat.add_assoc, ← List.length_append] at this
    exact this
termination_by n q u => (sizeOf q, 0)
theorem WrI.run {ts : List Pat} : ∀ {n : Nat} {b : Bool} {q : Qu} {u : List Pat}, WrI n b q u → ∀ {d a : Nat}, d + n ≤ 6 → At ts a u → RnI ts d a b q (a + u.length)
  | _, true, _, _, .op hf hw, d, a, hn, h => (Wr.run hw hn h).pc hf
  | _, false, _, _, .op hf hw, d, a, hn, h => fun hb => (Wr.run hw hn h).pa hf hb
  | _, b, q, _, .br (u := u) hw, d, a, hn, h => by
    have h0 := h.hd
    have ht := h.tail
    have hz := ht.right.hd
    have e : a + (sg 40 :: (u ++ [sg 41])).length = a + 1 + u.length + 1 := by simp; omega
    have i := (Wr.run hw (d := d + 1) (a := a + 1) (by omega) ht.left).pq (begC_sg hz (by decide +kernel)) (by rw [isS_sg hz]; decide +kernel)
    have p : PC ts d a (.ok q (a + 1 + u.length + 1)) := PC.of_pp (by rw [isS_sg h0]; decide +kernel)
      (.br (isP_sg h0) (by rw [isS_sg h0]; decide +kernel) (by rw [isS_sg h0]; decide +kernel) (by rw [isS_sg h0]; decide +kernel) (by rw [isS_sg h0]; decide +kernel) (by omega) i (by rw [isS_sg hz]; decide +kernel))
    rw [e]
    cases b with
    | true => exact p
    | false => exact fun hb => .of_pc p hb
termination_by n b q u => (sizeOf q, 1)
theorem WrL.runA {ts : List Pat} : ∀ {n : Nat} {o : Bool} {qs : List Qu} {us : List (List Pat)}, WrL n o qs us → o = false → ∀ {d a : Nat} {acc : List Qu}, d + n ≤ 6 → At ts a (us.flatMap fun v => sepT false ++ v) → begC ts (a + (us.flatMap fun v => sepT false ++ v).length) = false → 2 ≤ (acc ++ qs).length →
    ∃ k, PAr ts d a acc k (.ok (.bin false (acc ++ qs)) (a + (us.flatMap fun v => sepT false ++ v).length))
  | _, _, _, _, .nil, _, d, a, acc, _, _, hb, h2 => by
    rw [List.append_nil] at h2 ⊢
    refine ⟨0, ?_⟩
    have e := madeU_two (o := false) (qs := acc) (by omega)
    rw [← e]
    exact .stop hb
  | _, _, _, _, .cons (q := q) (u := u) (qs := qs) (us := us) hi hr, ho, d, a, acc, hn, h, hb, h2 => by
    subst ho
    have ha : At ts a (u ++ us.flatMap fun v => sepT false ++ v) := h
    have hb' : begC ts (a + u.length + (us.flatMap fun v => sepT false ++ v).length) = false := by
      rw [Nat.add_assoc, ← List.length_append]; exact hb
    have i : PC ts d a (.ok q (a + u.length)) := WrI.run hi hn ha.left
    obtain ⟨k, p⟩ := WrL.runA hr rfl hn (acc := acc ++ [q]) ha.right hb' (by rw [List.append_assoc]; exact h2)
    refine ⟨k + 1, ?_⟩
    have := PAr.more i.begC i p
    rw [Nat.add_assoc, ← List.length_append, List.append_assoc] at this
    exact this
termination_by n o qs us => (sizeOf qs, 0)
theorem WrL.runQ {ts : List Pat} : ∀ {n : Nat} {o : Bool} {qs : List Qu} {us : List (List Pat)}, WrL n o qs us → o = true → ∀ {d a : Nat} {acc : List Qu}, d + n ≤ 6 → At ts a (us.flatMap fun v => sepT true ++ v) → begC ts (a + (us.flatMap fun v => sepT true ++ v).length) = false → isS ts "|" (a + (us.flatMap fun v => sepT true ++ v).length) = false → 2 ≤ (acc ++ qs).length →
    begC ts a = false ∧ ∃ k, PQr ts d a acc k (.ok (.bin true (acc ++ qs)) (a + (us.flatMap fun v => sepT true ++ v).length))
  | _, _, _, _, .nil, _, d, a, acc, _, _, hb, hbar, h2 => by
    rw [List.append_nil] at h2 ⊢
    refine ⟨hb, 0, ?_⟩
    have e := madeU_two (o := true) (qs := acc) (by omega)
    rw [← e]
    exact .stop hbar
  | _, _, _, _, .cons (q := q) (u := u) (qs := qs) (us := us) hi hr, ho, d, a, acc, hn, h, hb, hbar, h2 => by
    subst ho
    have ha : At ts a (sg 124 :: (u ++ us.flatMap fun v => sepT true ++ v)) := h
    have h0 := ha.hd
    have el : a + ((u :: us).flatMap fun v => sepT true ++ v).length = a + 1 + u.length + (us.flatMap fun v => sepT true ++ v).length := by
      rw [List.flatMap_cons, List.length_append, List.length_append]
      show a + (1 + u.length + _) = _
      omega
    rw [el] at hb hbar ⊢
    have i : begC ts (a + 1 + u.length) = false → PA ts d (a + 1) (.ok q (a + 1 + u.length)) := WrI.run hi hn ha.tail.left
    obtain ⟨hc, k, p⟩ := WrL.runQ hr rfl hn (acc := acc ++ [q]) ha.tail.right hb hbar (by rw [List.append_assoc]; exact h2)
    refine ⟨begC_sg h0 (by decide +kernel), k + 1, ?_⟩
    have := PQr.more (by rw [isS_sg h0]; decide +kernel) (i hc) p
    rw [List.append_assoc] at this
    exact this
termination_by n o qs us => (sizeOf qs, 0)
end
theorem Wr.whole {q : Qu} {ts : List Pat} {n : Nat} (h : Wr n q ts) (hn : n ≤ 6) : WQ ts (.ok q ts.length) := by
  have e : begC ts (0 + ts.length) = false := by
    unfold begC
    rw [isP_none (by omega), isS_none (by omega)]; rfl
  have r := (h.run (ts := ts) (d := 0) (a := 0) (by omega) ⟨[], by simp⟩).pq e (isS_none (by omega))
  rw [Nat.zero_add] at r
  exact ⟨_, r, by simp⟩

/-! ### the string of a question -/
def freeB (b : Bool) : Qu → Bool
  | .bin o _ => !b && !o
  | _ => true
theorem freeB_iff {b : Bool} {q : Qu} : freeB b q = true ↔ freeQ b q := by
  cases q with
  | bin o qs => cases b <;> cases o <;> simp [freeB, freeQ]
  | _ => exact ⟨fun _ => True.intro, fun _ => rfl⟩
def tkRow (ps : List Pat) (g : Nat) : List Pat := if 0 < g then sg 60 :: dg g :: (ps ++ [sg 62]) else if 1 < ps.length then sg 34 :: (ps ++ [sg 34]) else ps
def wrapT (b : Bool) (q : Qu) (u : List Pat) : List Pat := if freeB b q = true then u else sg 40 :: (u ++ [sg 41])
mutual
def tkU : Qu → List Pat
  | .all => [sg 64]
  | .row ps g => tkRow ps g
  | .neg q => sg 45 :: wrapT true q (tkU q)
  | .bin o qs => jnT o (tkIns o qs)
def tkIns (o : Bool) : List Qu → List (List Pat)
  | [] => []
  | q :: r => wrapT (!o) q (tkU q) :: tkIns o r
end
def chT (t : Pat) : List Nat := if t.1 = "start" then tl t.2 ++ [42] else tl t.2
def rowL (ps : List Pat) (g : Nat) : List Nat := if 0 < g then 60 :: (48 + g) :: 32 :: (joinL [32] (ps.map chT) ++ [62]) else if 1 < ps.length then 34 :: (joinL [32] (ps.map chT) ++ [34]) else joinL [32] (ps.map chT)
def wrapL (b : Bool) (q : Qu) (u : List Nat) : List Nat := if freeB b q = true then u else 40 :: (u ++ [41])
def sepL (o : Bool) : List Nat := if o = true then [32, 124, 32] else [32]
mutual
def wrL : Qu → List Nat
  | .all => [64]
  | .row ps g => rowL ps g
  | .neg q => 45 :: wrapL true q (wrL q)
  | .bin o qs => joinL (sepL o) (wrLs o qs)
def wrLs (o : Bool) : List Qu → List (List Nat)
  | [] => []
  | q :: r => wrapL (!o) q (wrL q) :: wrLs o r
end
theorem patOK_pt {t : Pat} (h : PatOK t) : IsPt t := h.1
theorem wrap_wr {n m : Nat} {b : Bool} {q : Qu} {u : List Pat} (h : ∀ k, n ≤ k → Wr k q u) (hm : n + 1 ≤ m) : WrI m b q (wrapT b q u) := by
  unfold wrapT
  split
  · rename_i hf
    exact .op (freeB_iff.mp hf) (h m (by omega))
  · obtain ⟨k, rfl⟩ : ∃ k, m = k + 1 := ⟨m - 1, by omega⟩
    exact .br (h k (by omega))
theorem wr_list {n m : Nat} {o : Bool} (hm : n + 1 ≤ m) : ∀ {qs : List Qu}, (∀ q ∈ qs, ∀ k, n ≤ k → Wr k q (tkU q)) → WrL m o qs (tkIns o qs)
  | [], _ => .nil
  | q :: r, h => .cons (wrap_wr (h q List.mem_cons_self) hm) (wr_list hm fun x hx => h x (List.mem_cons_of_mem _ hx))
theorem wr_tk : ∀ {n : Nat} {q : Qu}, Dl n q → ∀ k, n ≤ k → Wr k q (tkU q)
  | 0, _, h, _, _ => h.elim
  | n + 1, .all, _, k, _ => .all
  | n + 1, .row ps g, h, k, _ => by
    obtain ⟨h1, h6, hg, hp⟩ : 1 ≤ ps.length ∧ ps.length ≤ 6 ∧ g ≤ 3 ∧ ∀ t ∈ ps, PatOK t := h
    show Wr k _ (tkRow ps g)
    unfold tkRow
    split
    · exact .gap h1 h6 (by omega) fun t ht => patOK_pt (hp t ht)
    · have e : g = 0 := by omega
      subst e
      split
      · exact .quo h1 h6 fun t ht => patOK_pt (hp t ht)
      · obtain ⟨t, rfl⟩ := List.length_eq_one_iff.mp (show ps.length = 1 by omega)
        exact .one (patOK_pt (hp t List.mem_cons_self))
  | n + 1, .neg q, h, k, hk => .neg (wrap_wr (n := n) (fun k hk => wr_tk (show Dl n q from h) k hk) hk)
  | n + 1, .bin o qs, h, k, hk => by
    obtain ⟨h2, h3, hq⟩ : 2 ≤ qs.length ∧ qs.length ≤ 3 ∧ ∀ q ∈ qs, Dl n q := h
    exact .bin (wr_list (n := n) hk fun q hm k hk => wr_tk (hq q hm) k hk) h2
def TokS (cs : List Nat) (ts : List Pat) : Prop := ∀ r tr, NoStick r → Toks r tr → Toks (cs ++ r) (ts ++ tr)
def TokF (cs : List Nat) (ts : List Pat) : Prop := ∀ r tr, Toks r tr → Toks (cs ++ r) (ts ++ tr)
theorem TokF.s {cs : List Nat} {ts : List Pat} (h : TokF cs ts) : TokS cs ts := fun r tr _ => h r tr
theorem TokF.app {a b : List Nat} {ta tb : List Pat} (h : TokF a ta) (k : TokF b tb) : TokF (a ++ b) (ta ++ tb) := fun r tr hr => by
  rw [List.append_assoc, List.append_assoc]
  exact h _ _ (k _ _ hr)
theorem TokF.appS {a b : List Nat} {ta tb : List Pat} (h : TokF a ta) (k : TokS b tb) : TokS (a ++ b) (ta ++ tb) := fun r tr hn hr => by
  rw [List.append_assoc, List.append_assoc]
  exact h _ _ (k _ _ hn hr)
theorem nostick_cons {c : Nat} {r : List Nat} (h1 : ¬ c ∈ tl smallS) (h2 : c ≠ 42) : NoStick (c :: r) := fun d hd => by
  have e : c = d := Option.some.inj hd
  rw [← e]; exact ⟨h1, h2⟩
theorem TokS.appF {a b : List Nat} {c : Nat} {ta tb : List Pat} (h : TokS a ta) (h1 : ¬ c ∈ tl smallS) (h2 : c ≠ 42) (k : TokF (c :: b) tb) : TokF (a ++ c :: b) (ta ++ tb) := fun r tr hr => by
  rw [List.append_assoc, List.append_assoc]
  exact h _ _ (nostick_cons h1 h2) (k _ _ hr)
theorem tokF_sg {c : Nat} (hc : c ∈ tl signsS) : TokF [c] [sg c] := fun r tr h => (ok_sign hc).run r tr (fun ⟨d, hd, hs⟩ => by
  have e : c = d := Option.some.inj hd
  rw [← e] at hs
  exact absurd hc (fun z => sign_small c z hs)) h
theorem tokF_sp : TokF [32] [] := fun r tr h => .sp h
theorem tokS_pat {t : Pat} (h : PatOK t) : TokS (chT t) [t] := by
  obtain ⟨hk, h1, h2, h3⟩ := h
  have hl := len_tl t.2
  have hne : tl t.2 ≠ [] := fun e => by rw [e] at hl; simp at hl; omega
  have hSt := S_tl t.2
  unfold chT
  rcases hk with hk | hk
  · rw [if_neg (by rw [hk]; decide)]
    have k := ok_word h3 hne (by omega)
    rw [hSt] at k
    have e : t = (("word", t.2) : Pat) := by rw [← hk]
    rw [e]
    exact fun r tr hn hr => k.run r tr (fun _ => hn) hr
  · rw [if_pos hk]
    have k := ok_start h3 hne (by omega)
    rw [hSt] at k
    have e : t = (("start", t.2) : Pat) := by rw [← hk]
    rw [e]
    intro r tr hn hr
    have := k.run r tr (fun _ => hn) hr
    rw [tl_append] at this
    exact this
theorem tokS_join {s : List Nat} {st : List Pat} {c : Nat} {s' : List Nat} (hs : s = c :: s') (h1 : ¬ c ∈ tl smallS) (h2 : c ≠ 42) (hf : TokF s st) : ∀ {xs : List (List Nat × List Pat)}, xs ≠ [] → (∀ x ∈ xs, TokS x.1 x.2) → TokS (joinL s (xs.map (·.1))) (match xs with | [] => [] | x :: r => x.2 ++ r.flatMap fun v => st ++ v.2)
  | [], h, _ => absurd rfl h
  | [x], _, h => by
    have := h x List.mem_cons_self
    show TokS x.1 (x.2 ++ [])
    rw [List.append_nil]; exact this
  | x :: y :: r, _, h => by
    have ih := tokS_join hs h1 h2 hf (xs := y :: r) (List.cons_ne_nil _ _) (fun z hz => h z (List.mem_cons_of_mem _ hz))
    have hx := h x List.mem_cons_self
    show TokS (x.1 ++ (s ++ joinL s ((y :: r).map (·.1)))) (x.2 ++ ((st ++ y.2) ++ r.flatMap fun v => st ++ v.2))
    intro q tr hn hr
    rw [List.append_assoc, List.append_assoc, List.append_assoc, List.append_assoc, List.append_assoc]
    refine hx _ _ (by rw [hs]; exact nostick_cons h1 h2) (hf _ _ ?_)
    have := ih q tr hn hr
    rw [List.append_assoc] at this
    exact this
theorem sp_ok : ¬ 32 ∈ tl smallS := by decide +kernel
theorem tokS_pats {ps : List Pat} (h : ps ≠ []) (hp : ∀ t ∈ ps, PatOK t) : TokS (joinL [32] (ps.map chT)) ps := by
  have := tokS_join (s := [32]) rfl sp_ok (by decide) tokF_sp (xs := ps.map fun t => (chT t, [t])) (by simpa using h) (fun x hx => by
    obtain ⟨t, ht, rfl⟩ := List.mem_map.mp hx
    exact tokS_pat (hp t ht))
  rw [List.map_map] at this
  cases ps with
  | nil => exact absurd rfl h
  | cons t r =>
    have e : (match (t :: r).map (fun t => (chT t, [t])) with | [] => [] | x :: r => x.2 ++ r.flatMap fun v => [] ++ v.2) = t :: r := by
      show [t] ++ (r.map fun t => (chT t, [t])).flatMap (fun v => [] ++ v.2) = t :: r
      have : ∀ l : List Pat, (l.map fun t => (chT t, [t])).flatMap (fun v => [] ++ v.2) = l := fun l => by
        induction l with
        | nil => rfl
        | cons a l ih => rw [List.map_cons, List.flatMap_cons, ih]; rfl
      rw [this]; rfl
    rw [e] at this
    exact this
theorem tokS_row {ps : List Pat} {g : Nat} (h1 : 1 ≤ ps.length) (hg : g ≤ 3) (hp : ∀ t ∈ ps, PatOK t) : TokS (rowL ps g) (tkRow ps g) := by
  have hne : ps ≠ [] := List.length_pos_iff.mp h1
  have hps := tokS_pats hne hp
  unfold rowL tkRow
  split
  · have hd : TokS [48 + g] [dg g] := tokS_pat (t := dg g) ⟨.inl rfl, by
      have : ∀ g : Nat, g ≤ 9 → (1 ≤ (dg g).2.length ∧ (dg g).2.length ≤ 12 ∧ ∀ c ∈ tl (dg g).2, c ∈ tl smallS) := by decide +kernel
      exact this g (by omega)⟩
    have a := (tokF_sg (c := 60) (by decide +kernel)).app (hd.appF (c := 32) sp_ok (by decide) (tokF_sp.app (b := joinL [32] (ps.map chT) ++ [62]) (hps.appF (c := 62) (by decide +kernel) (by decide) (tokF_sg (c := 62) (by decide +kernel)))))
    exact a.s
  · split
    · exact ((tokF_sg (c := 34) (by decide +kernel)).app (hps.appF (c := 34) (by decide +kernel) (by decide) (tokF_sg (c := 34) (by decide +kernel)))).s
    · exact hps
theorem tokS_wrap {b : Bool} {q : Qu} {cs : List Nat} {ts : List Pat} (h : TokS cs ts) : TokS (wrapL b q cs) (wrapT b q ts) := by
  unfold wrapL wrapT
  split
  · exact h
  · exact ((tokF_sg (c := 40) (by decide +kernel)).app (h.appF (c := 41) (by decide +kernel) (by decide) (tokF_sg (c := 41) (by decide +kernel)))).s
theorem wrLs_eq (o : Bool) : ∀ qs : List Qu, wrLs o qs = (qs.map fun q => (wrapL (!o) q (wrL q), wrapT (!o) q (tkU q))).map (·.1)
  | [] => rfl
  | q :: r => by
    show wrapL (!o) q (wrL q) :: wrLs o r = _
    rw [wrLs_eq o r]; rfl
theorem tkIns_eq (o : Bool) : ∀ qs : List Qu, tkIns o qs = (qs.map fun q => (wrapL (!o) q (wrL q), wrapT (!o) q (tkU q))).map (·.2)
  | [] => rfl
  | q :: r => by
    show wrapT (!o) q (tkU q) :: tkIns o r = _
    rw [tkIns_eq o r]; rfl
theorem tokS_wr : ∀ {n : Nat} {q : Qu}, Dl n q → TokS (wrL q) (tkU q)
  | 0, _, h => h.elim
  | n + 1, .all, _ => (tokF_sg (by decide +kernel)).s
  | n + 1, .row ps g, h => by
    obtain ⟨h1, h6, hg, hp⟩ : 1 ≤ ps.length ∧ ps.length ≤ 6 ∧ g ≤ 3 ∧ ∀ t ∈ ps, PatOK t := h
    exact tokS_row h1 hg hp
  | n + 1, .neg q, h => (tokF_sg (c := 45) (by decide +kernel)).appS (tokS_wrap (tokS_wr (show Dl n q from h)))
  | n + 1, .bin o qs, h => by
    obtain ⟨h2, h3, hq⟩ : 2 ≤ qs.length ∧ qs.length ≤ 3 ∧ ∀ q ∈ qs, Dl n q := h
    show TokS (joinL (sepL o) (wrLs o qs)) (jnT o (tkIns o qs))
    rw [wrLs_eq, tkIns_eq]
    have hf : TokF (sepL o) (sepT o) := by
      cases o with
      | false => exact tokF_sp
      | true => exact tokF_sp.app ((tokF_sg (c := 124) (by decide +kernel)).app tokF_sp)
    have hs : ∃ s', sepL o = 32 :: s' := by cases o <;> exact ⟨_, rfl⟩
    obtain ⟨s', hs⟩ := hs
    have hx : ∀ x ∈ (qs.map fun q => (wrapL (!o) q (wrL q), wrapT (!o) q (tkU q))), TokS x.1 x.2 := fun x hx => by
      obtain ⟨q, hm, rfl⟩ := List.mem_map.mp hx
      exact tokS_wrap (tokS_wr (hq q hm))
    have hne : (qs.map fun q => (wrapL (!o) q (wrL q), wrapT (!o) q (tkU q))) ≠ [] := fun e => by
      have := congrArg List.length e
      rw [List.length_map] at this
      simp at this
      rw [this] at h2
      exact absurd h2 (by decide)
    have := tokS_join hs sp_ok (by decide) hf hne hx
    revert this
    generalize (qs.map fun q => (wrapL (!o) q (wrL q), wrapT (!o) q (tkU q))) = xs
    intro this
    cases xs with
    | nil => exact this
    | cons x r =>
      show TokS _ (x.2 ++ (r.map (·.2)).flatMap fun v => sepT o ++ v)
      rw [List.flatMap_map]
      exact this
theorem toks_wr {n : Nat} {q : Qu} (h : Dl n q) : Toks (wrL q) (tkU q) := by
  have := tokS_wr h [] [] (fun c hc => nomatch hc) .nil
  rw [List.append_nil, List.append_nil] at this
  exact this

theorem sum_le {α : Type} {f : α → Nat} {B : Nat} : ∀ {l : List α}, (∀ x ∈ l, f x ≤ B) → (l.map f).sum ≤ l.length * B
  | [], _ => Nat.zero_le _
  | x :: r, h => by
    have h1 := h x List.mem_cons_self
    have h2 := sum_le (l := r) fun y hy => h y (List.mem_cons_of_mem _ hy)
    rw [List.map_cons, List.sum_cons, List.length_cons, Nat.add_mul, Nat.one_mul]
    omega
theorem joinL_len (s : List Nat) : ∀ l : List (List Nat), (joinL s l).length ≤ (l.map fun x => x.length + s.length).sum
  | [] => Nat.zero_le _
  | [p] => by show p.length ≤ _; simp
  | p :: q :: r => by
    have ih := joinL_len s (q :: r)
    show (p ++ (s ++ joinL s (q :: r))).length ≤ _
    rw [List.length_append, List.length_append, List.map_cons, List.sum_cons]
    omega
theorem jnT_len (o : Bool) (l : List (List Pat)) : (jnT o l).length ≤ (l.map fun x => x.length + 1).sum := by
  have hs : (sepT o).length ≤ 1 := by cases o <;> decide
  have fl : ∀ l : List (List Pat), (l.flatMap fun v => sepT o ++ v).length ≤ (l.map fun x => x.length + 1).sum := fun l => by
    induction l with
    | nil => exact Nat.zero_le _
    | cons u r ih =>
      rw [List.flatMap_cons, List.length_append, List.length_append, List.map_cons, List.sum_cons]
      omega
  cases l with
  | nil => exact Nat.zero_le _
  | cons u r =>
    show (u ++ r.flatMap fun v => sepT o ++ v).length ≤ _
    rw [List.length_append, List.map_cons, List.sum_cons]
    have := fl r
    omega
theorem pat_len {t : Pat} (h : PatOK t) : (chT t).length ≤ 13 := by
  have hl := len_tl t.2
  have h2 := h.2.2.1
  unfold chT
  split
  · rw [List.length_append, List.length_singleton]; omega
  · omega
theorem row_len {ps : List Pat} {g : Nat} (h6 : ps.length ≤ 6) (hp : ∀ t ∈ ps, PatOK t) : (rowL ps g).length ≤ 100 ∧ (joinL [32] (ps.map chT)).length ≤ 84 := by
  have h1 := joinL_len [32] (ps.map chT)
  rw [List.map_map] at h1
  have h2 : (ps.map ((fun x : List Nat => x.length + ([32] : List Nat).length) ∘ chT)).sum ≤ ps.length * 14 := sum_le fun t ht => by
    have := pat_len (hp t ht)
    show (chT t).length + 1 ≤ 14
    omega
  have h3 : ps.length * 14 ≤ 84 := by omega
  refine ⟨?_, by omega⟩
  unfold rowL
  split
  · simp only [List.length_cons, List.length_append, List.length_nil]; omega
  · split
    · simp only [List.length_cons, List.length_append, List.length_nil]; omega
    · omega
theorem wrapL_len (b : Bool) (q : Qu) (u : List Nat) : (wrapL b q u).length ≤ u.length + 2 := by
  unfold wrapL
  split
  · omega
  · simp
theorem wrapT_len (b : Bool) (q : Qu) (u : List Pat) : (wrapT b q u).length ≤ u.length + 2 := by
  unfold wrapT
  split
  · omega
  · simp
theorem wrLs_map (o : Bool) : ∀ qs : List Qu, wrLs o qs = qs.map fun q => wrapL (!o) q (wrL q)
  | [] => rfl
  | q :: r => by
    show wrapL (!o) q (wrL q) :: wrLs o r = _
    rw [wrLs_map o r]; rfl
theorem tkIns_map (o : Bool) : ∀ qs : List Qu, tkIns o qs = qs.map fun q => wrapT (!o) q (tkU q)
  | [] => rfl
  | q :: r => by
    show wrapT (!o) q (tkU q) :: tkIns o r = _
    rw [tkIns_map o r]; rfl
theorem pow_pos4 (n : Nat) : 1 ≤ 4 ^ n := Nat.pow_pos (by decide)
theorem wr_len : ∀ {n : Nat} {q : Qu}, Dl n q → (wrL q).length ≤ 100 * 4 ^ n ∧ (tkU q).length ≤ 10 * 4 ^ n ∧ (subsR q).length ≤ 4 ^ n
  | 0, _, h => h.elim
  | n + 1, .all, _ => by
    have := pow_pos4 n
    refine ⟨?_, ?_, ?_⟩ <;> show 1 ≤ _ <;> rw [Nat.pow_succ] <;> omega
  | n + 1, .row ps g, h => by
    obtain ⟨h1, h6, hg, hp⟩ : 1 ≤ ps.length ∧ ps.length ≤ 6 ∧ g ≤ 3 ∧ ∀ t ∈ ps, PatOK t := h
    have := pow_pos4 n
    have hr := (row_len (g := g) h6 hp).1
    refine ⟨?_, ?_, ?_⟩
    · show (rowL ps g).length ≤ _
      rw [Nat.pow_succ]; omega
    · show (tkRow ps g).length ≤ _
      have : (tkRow ps g).length ≤ 10 := by
        unfold tkRow
        split
        · simp only [List.length_cons, List.length_append, List.length_nil]; omega
        · split
          · simp only [List.length_cons, List.length_append, List.length_nil]; omega
          · omega
      rw [Nat.pow_succ]; omega
    · show 1 ≤ _
      rw [Nat.pow_succ]; omega
  | n + 1, .neg q, h => by
    have i := wr_len (show Dl n q from h)
    have := pow_pos4 n
    have h1 := wrapL_len true q (wrL q)
    have h2 := wrapT_len true q (tkU q)
    refine ⟨?_, ?_, ?_⟩
    · show (wrapL true q (wrL q)).length + 1 ≤ _
      rw [Nat.pow_succ]; omega
    · show (wrapT true q (tkU q)).length + 1 ≤ _
      rw [Nat.pow_succ]; omega
    · show (subsR q).length + 1 ≤ _
      rw [Nat.pow_succ]; omega
  | n + 1, .bin o qs, h => by
    obtain ⟨h2, h3, hq⟩ : 2 ≤ qs.length ∧ qs.length ≤ 3 ∧ ∀ q ∈ qs, Dl n q := h
    have i : ∀ q ∈ qs, _ := fun q hm => wr_len (hq q hm)
    have := pow_pos4 n
    have hs : (sepL o).length ≤ 3 := by cases o <;> decide
    refine ⟨?_, ?_, ?_⟩
    · show (joinL (sepL o) (wrLs o qs)).length ≤ _
      rw [wrLs_map]
      have a := joinL_len (sepL o) (qs.map fun q => wrapL (!o) q (wrL q))
      rw [List.map_map] at a
      have b : (qs.map ((fun x : List Nat => x.length + (sepL o).length) ∘ fun q => wrapL (!o) q (wrL q))).sum ≤ qs.length * (100 * 4 ^ n + 5) := sum_le fun q hm => by
        have := (i q hm).1
        have := wrapL_len (!o) q (wrL q)
        show (wrapL (!o) q (wrL q)).length + (sepL o).length ≤ _
        omega
      have c : qs.length * (100 * 4 ^ n + 5) ≤ 3 * (100 * 4 ^ n + 5) := Nat.mul_le_mul_right _ h3
      rw [Nat.pow_succ]; omega
    · show (jnT o (tkIns o qs)).length ≤ _
      rw [tkIns_map]
      have a := jnT_len o (qs.map fun q => wrapT (!o) q (tkU q))
      rw [List.map_map] at a
      have b : (qs.map ((fun x : List Pat => x.length + 1) ∘ fun q => wrapT (!o) q (tkU q))).sum ≤ qs.length * (10 * 4 ^ n + 3) := sum_le fun q hm => by
        have := (i q hm).2.1
        have := wrapT_len (!o) q (tkU q)
        show (wrapT (!o) q (tkU q)).length + 1 ≤ _
        omega
      have c : qs.length * (10 * 4 ^ n + 3) ≤ 3 * (10 * 4 ^ n + 3) := Nat.mul_le_mul_right _ h3
      rw [Nat.pow_succ]; omega
    · show (subsRs qs).length + 1 ≤ _
      rw [subsRs_eq, List.length_flatMap]
      have b : (qs.reverse.map fun q => (subsR q).length).sum ≤ qs.reverse.length * 4 ^ n := sum_le fun q hm => (i q (List.mem_reverse.mp hm)).2.2
      rw [List.length_reverse] at b
      have c : qs.length * 4 ^ n ≤ 3 * 4 ^ n := Nat.mul_le_mul_right _ h3
      rw [Nat.pow_succ]; omega
def TkOK (t : Pat) : Prop := PatOK t ∨ ∃ c, c ∈ tl signsS ∧ t = sg c
theorem tkOK_dg {g : Nat} (h : g ≤ 9) : TkOK (dg g) := .inl ⟨.inl rfl, by
  have : ∀ g : Nat, g ≤ 9 → (1 ≤ (dg g).2.length ∧ (dg g).2.length ≤ 12 ∧ ∀ c ∈ tl (dg g).2, c ∈ tl smallS) := by decide +kernel
  exact this g h⟩
theorem tkOK_wf {ts : List Pat} (hl : ts.length ≤ 100000) (h : ∀ t ∈ ts, TkOK t) : WF ts := ⟨hl, fun t ht => by
  rcases h t ht with ⟨k, _, k2, _⟩ | ⟨c, _, rfl⟩
  · refine ⟨by omega, fun e => ?_⟩
    rcases k with k | k <;> rw [k] at e <;> exact absurd e (by decide)
  · exact ⟨(show 1 ≤ 100000 by decide), fun _ => ⟨c, rfl⟩⟩⟩
theorem tk_ok : ∀ {n : Nat} {q : Qu}, Dl n q → ∀ t ∈ tkU q, TkOK t
  | 0, _, h, _, _ => h.elim
  | n + 1, .all, _, t, ht => .inr ⟨64, by decide +kernel, List.mem_singleton.mp ht⟩
  | n + 1, .row ps g, h, t, ht => by
    obtain ⟨h1, h6, hg, hp⟩ : 1 ≤ ps.length ∧ ps.length ≤ 6 ∧ g ≤ 3 ∧ ∀ t ∈ ps, PatOK t := h
    have ht : t ∈ tkRow ps g := ht
    unfold tkRow at ht
    have hin : ∀ c, c ∈ tl signsS → t ∈ ps ++ [sg c] → TkOK t := fun c hc hm => by
      rcases List.mem_append.mp hm with hm | hm
      · exact .inl (hp t hm)
      · exact .inr ⟨c, hc, List.mem_singleton.mp hm⟩
    split at ht
    · rcases List.mem_cons.mp ht with rfl | ht
      · exact .inr ⟨_, by decide +kernel, rfl⟩
      · rcases List.mem_cons.mp ht with rfl | ht
        · exact tkOK_dg (by omega)
        · exact hin _ (by decide +kernel) ht
    · split at ht
      · rcases List.mem_cons.mp ht with rfl | ht
        · exact .inr ⟨_, by decide +kernel, rfl⟩
        · exact hin _ (by decide +kernel) ht
      · exact .inl (hp t ht)
  | n + 1, .neg q, h, t, ht => by
    have i := tk_ok (show Dl n q from h)
    rcases List.mem_cons.mp (show t ∈ sg 45 :: wrapT true q (tkU q) from ht) with rfl | ht
    · exact .inr ⟨_, by decide +kernel, rfl⟩
    · unfold wrapT at ht
      split at ht
      · exact i t ht
      · rcases List.mem_cons.mp ht with rfl | ht
        · exact .inr ⟨_, by decide +kernel, rfl⟩
        · rcases List.mem_append.mp ht with ht | ht
          · exact i t ht
          · exact .inr ⟨_, by decide +kernel, List.mem_singleton.mp ht⟩
  | n + 1, .bin o qs, h, t, ht => by
    obtain ⟨h2, h3, hq⟩ : 2 ≤ qs.length ∧ qs.length ≤ 3 ∧ ∀ q ∈ qs, Dl n q := h
    have ht : t ∈ jnT o (tkIns o qs) := ht
    rw [tkIns_map] at ht
    have hw : ∀ u ∈ (qs.map fun q => wrapT (!o) q (tkU q)), ∀ t ∈ u, TkOK t := fun u hu t ht => by
      obtain ⟨q, hm, rfl⟩ := List.mem_map.mp hu
      have i := tk_ok (hq q hm)
      unfold wrapT at ht
      split at ht
      · exact i t ht
      · rcases List.mem_cons.mp ht with rfl | ht
        · exact .inr ⟨_, by decide +kernel, rfl⟩
        · rcases List.mem_append.mp ht with ht | ht
          · exact i t ht
          · exact .inr ⟨_, by decide +kernel, List.mem_singleton.mp ht⟩
    revert ht hw
    generalize (qs.map fun q => wrapT (!o) q (tkU q)) = us
    intro ht hw
    cases us with
    | nil => cases ht
    | cons u us =>
      rcases List.mem_append.mp ht with ht | ht
      · exact hw u List.mem_cons_self t ht
      · obtain ⟨v, hv, ht⟩ := List.mem_flatMap.mp ht
        rcases List.mem_append.mp ht with ht | ht
        · cases o with
          | false => cases ht
          | true => exact .inr ⟨_, by decide +kernel, List.mem_singleton.mp ht⟩
        · exact hw v (List.mem_cons_of_mem _ hv) t ht

/-! ### a blank, so many times -/
theorem rep_fold (c : Nat) : ∀ (n : Nat) (a : Array Nat), (List.replicate n (#[c] : Array Nat)).foldl (· ++ ·) a = a ++ (List.replicate n c).toArray
  | 0, a => by simp
  | n + 1, a => by
    rw [List.replicate_succ, List.foldl_cons, rep_fold c n, List.replicate_succ]
    apply Array.toList_inj.mp
    rw [Array.toList_append, Array.toList_append, Array.toList_append, List.append_assoc]
    rfl
section
variable {X : Cx}
def rMulSp : R2 := fun x y H Q => ∃ (c n : Nat), x = .str ⟨#[c]⟩ ∧ y = .int (n : Int) ∧ n ≤ 1000 ∧ Q (.str ⟨(List.replicate n c).toArray⟩) H
theorem op_mul_sp : OpR X (binaryOp .Mult) rMulSp := by
  intro pins s σ H x y v u Q I rx ry h
  obtain ⟨c, n, rfl, rfl, hn, q⟩ := h
  obtain ⟨t, rfl⟩ := rx
  obtain ⟨t', rfl⟩ := ry
  refine PySem.P.mul_str ?_ ?_ ?_ ?_
  · rw [decide_eq_false (by omega), decide_eq_false (by omega)]; rfl
  · intro h1 _ h2
    have h3 : (1 : Int) ≤ (2 ^ 63 - 1) / (n : Int) := Int.le_ediv_of_mul_le (by omega) (by omega)
    have h4 : (((⟨#[c]⟩ : Str).length : Nat) : Int) = 1 := rfl
    omega
  · intro h1 _
    have h4 : (⟨#[c]⟩ : Str).length = 1 := rfl
    rw [h4, Int.toNat_natCast, Nat.one_mul]
    exact PyProof.Rows.short24 (by omega)
  · by_cases h1 : (n : Int) < 1
    · rw [if_pos h1]
      have e : n = 0 := by omega
      subst e
      exact ⟨by decide, .str ⟨#[]⟩, H, I.tok _, ⟨_, rfl⟩, q⟩
    · rw [if_neg h1]
      by_cases h2 : ((n : Int) == 1 || (⟨#[c]⟩ : Str).length == 0) = true
      · rw [if_pos h2]
        have e : n = 1 := by
          rcases Bool.or_eq_true_iff.mp h2 with h | h
          · have := eq_of_beq h; omega
          · have := eq_of_beq h; exact absurd (show (1 : Nat) = 0 from this) (by decide)
        subst e
        exact ⟨.str ⟨#[c]⟩, H, I, ⟨_, rfl⟩, q⟩
      · rw [if_neg h2]
        have e : ((List.replicate (n : Int).toNat (⟨#[c]⟩ : Str).cps).foldl (· ++ ·) #[]) = (List.replicate n c).toArray := by
          rw [Int.toNat_natCast]
          show (List.replicate n (#[c] : Array Nat)).foldl (· ++ ·) #[] = _
          rw [rep_fold]; simp
        rw [e]
        refine ⟨?_, .str ⟨(List.replicate n c).toArray⟩, H, I.tok _, ⟨_, rfl⟩, q⟩
        show (List.replicate n c).toArray.size ≤ 16777216
        rw [List.size_toArray, List.length_replicate]
        omega
end

/-! ### the program writes -/
def yPatT (K : PySem.W.Frag) : Sp := fun vs H Q _ => ∃ (v : V) (t : Pat), vs = [v] ∧ Dp K H v (encT t) ∧ PatOK t ∧ Q (.str (S (chT t))) H
theorem joinS {s : Str} {sl : List Nat} (hs : tl s = sl) (l : List (List Nat)) : Txt.join s (l.map S) = S (joinL sl l) := by
  apply ext_tl
  rw [join_eq, tl_join, hs, tl_S, List.map_map]
  congr 1
  exact List.map_id' _
theorem digit_str : ∀ g : Nat, g ≤ 9 → Str.ofString (toString ((g : Nat) : Int)) = S [48 + g] := by decide +kernel
theorem log_small {g : Nat} (h : g ≤ 3) : ((g : Nat) : Int).natAbs.log2 < 1920 := by
  have : ∀ g : Nat, g ≤ 3 → ((g : Nat) : Int).natAbs.log2 < 1920 := by decide +kernel
  exact this g h

def kd : Qu → Str
  | .all => "all"
  | .row _ _ => "row"
  | .neg _ => "not"
  | .bin o _ => if o = true then "or" else "and"
def kindsV (b : Bool) : List V := if b = true then [.str "and", .str "or"] else [.str "or"]
theorem dp_head {K : PySem.W.Frag} {H : Hp} {v : V} {q : Qu} (h : Dp K H v (encU q)) : ∃ a us, v = .ref a ∧ SqT K H a (.str (kd q) :: us) := by
  have : ∃ ds, encU q = .tuple (.str (kd q) :: ds) := by cases q <;> exact ⟨_, rfl⟩
  obtain ⟨ds, e⟩ := this
  rw [e] at h
  obtain ⟨a, us, h1, h2, _⟩ := dp_kind h
  exact ⟨a, us, h1, h2⟩
theorem kd_in (b : Bool) (q : Qu) : inV (V.str (kd q)) (kindsV b) = !freeB b q := by
  cases q with
  | all => cases b <;> rfl
  | row ps g => cases b <;> rfl
  | neg q => cases b <;> rfl
  | bin o qs => cases b <;> cases o <;> rfl
theorem kinds_flat (b : Bool) : (kindsV b).all flatV = true := by cases b <;> rfl
def yWr (K : PySem.W.Frag) (n : Nat) : Sp := fun vs H Q _ => ∃ (v : V) (q : Qu), vs = [v] ∧ Dl n q ∧ n ≤ 5 ∧ Dp K H v (encU q) ∧ ∀ H', Same H H' → Q (.str (S (wrL q))) H'
def yPartT (K : PySem.W.Frag) (n : Nat) : Sp := fun vs H Q _ => ∃ (v : V) (q : Qu) (b : Bool) (kt : Addr), vs = [v, .ref kt] ∧ Dl n q ∧ n ≤ 5 ∧ Dp K H v (encU q) ∧ (SqT K H kt (kindsV b) ∨ SqL K H kt (kindsV b)) ∧ ∀ H', Same H H' → Q (.str (S (wrapL b q (wrL q)))) H'
theorem str_app (a b : Str) : (a ++ b).length = a.length + b.length := by rw [len_tl, len_tl, len_tl, tl_append, List.length_append]
theorem S_len (l : List Nat) : (S l).length = l.length := len_tl _
theorem pow_le5 {n : Nat} (h : n ≤ 5) : 4 ^ n ≤ 1024 := by
  have : ∀ n : Nat, n ≤ 5 → 4 ^ n ≤ 1024 := by decide +kernel
  exact this n h
theorem paren_S (l : List Nat) : Str.ofString "(" ++ S l ++ Str.ofString ")" = S (40 :: (l ++ [41])) := ext_tl (by rw [tl_append, tl_append, tl_S, tl_S]; rfl)

theorem star_is : V.str (Str.ofString "*") = V.str ⟨#[42]⟩ := congrArg V.str (by decide +kernel)
section
variable {P : Program} {w : World} {K : PySem.W.Frag} {mg : Str → Option Value} {base : Heap} {A : Nat → Addr} {D : Nat → FuncData}
theorem ok_lpattern_text (T : Txt K mg A D) : FnOk P w K mg base CX0 1 (A 32) (D 32) ["pattern"] (yPatT K) := by
  refine T.F__law_pattern_text.ok sc__law_pattern_text (fun vs H Q E h => ?_) (fun cdv A' outer s H vs Q E hr h => ?_)
  · obtain ⟨v, t, rfl, _⟩ := h; rfl
  obtain ⟨v, t, rfl, hd, hp, fin⟩ := h
  have hnd := sc__law_pattern_text.nd
  refine ⟨_, (pss_one (ps_ret (pe_op op_add_str (pe_ix (r := rIxT K) ix_tup (pv 0) pe_int (fun _ _ => rfl)) (pe_op op_mul_sp pe_str (pe_callTy call_int1 rfl T.z_int (by decide +kernel) (pa_cons (pe_cmpR op_eq (pe_ix (r := rIxT K) ix_tup (pv 0) pe_int (fun _ _ => rfl)) pe_str (nomark _)) pa_nil)))))), ?_⟩
  obtain ⟨q, rfl, hq⟩ := dp_encT hd
  have h2 := hp.2.2.1
  refine ⟨_, rfl, q, _, 1, _, rfl, rfl, hq, atI_nat (j := 1) rfl, _, rfl, q, _, 0, _, rfl, rfl, hq, atI_nat (j := 0) rfl, rfl, .inr ⟨_, rfl, ?_⟩⟩
  rw [strDec]
  unfold chT at fin
  by_cases e : t.1 = "start"
  · rw [decide_eq_true e]
    rw [if_pos e] at fin
    refine ⟨42, 1, star_is, rfl, (by decide), _, _, rfl, rfl, (by show t.2.length + 1 ≤ 16777216; omega), ?_⟩
    rw [show t.2 ++ (⟨(List.replicate 1 42).toArray⟩ : Str) = S (tl t.2 ++ [42]) from ext_tl (by rw [tl_append]; rfl)]
    exact fin
  · rw [decide_eq_false e]
    rw [if_neg e, S_tl] at fin
    refine ⟨42, 0, star_is, rfl, (by decide), _, _, rfl, rfl, (by show t.2.length + 0 ≤ 16777216; omega), ?_⟩
    rw [show t.2 ++ (⟨(List.replicate 0 42).toArray⟩ : Str) = t.2 from ext_tl (by rw [tl_append]; exact List.append_nil _)]
    exact fin
end

def txV (u : List Pat) : List V := u.map fun t => V.str (S (chT t))
theorem txV_app (u v : List Pat) : txV (u ++ v) = txV u ++ txV v := List.map_append
theorem txV_len (u : List Pat) : (txV u).length = u.length := List.length_map _
theorem ch_sg (c : Nat) : chT (sg c) = [c] := by
  unfold chT
  rw [if_neg (by show ¬ ("sign" : Str) = "start"; decide)]; rfl
theorem ch_dg (g : Nat) : chT (dg g) = [48 + g] := by
  unfold chT
  rw [if_neg (by show ¬ ("word" : Str) = "start"; decide)]; rfl
theorem jnT_snoc (o : Bool) (us : List (List Pat)) (u : List Pat) (h : us ≠ []) : jnT o (us ++ [u]) = jnT o us ++ (sepT o ++ u) := by
  cases us with
  | nil => exact absurd rfl h
  | cons x r =>
    show x ++ (r ++ [u]).flatMap _ = (x ++ r.flatMap _) ++ _
    rw [List.flatMap_append, List.flatMap_singleton, List.append_assoc]

def yTexts (K : PySem.W.Frag) (n : Nat) : Sp := fun vs H Q _ => ∃ (v : V) (q : Qu), vs = [v] ∧ Dl n q ∧ n ≤ 5 ∧ Dp K H v (encU q) ∧ ∀ p H', Same H H' → H' p = some (.lst (txV (tkU q))) → Q (.ref p) H'
def yAround (K : PySem.W.Frag) (n : Nat) : Sp := fun vs H Q _ => ∃ (v : V) (q : Qu) (b : Bool) (kt : Addr), vs = [v, .ref kt] ∧ Dl n q ∧ n ≤ 5 ∧ Dp K H v (encU q) ∧ SqL K H kt (kindsV b) ∧ ∀ p H', Same H H' → H' p = some (.lst (txV (wrapT b q (tkU q)))) → Q (.ref p) H'
section
variable {P : Program} {w : World} {K : PySem.W.Frag} {mg : Str → Option Value} {base : Heap} {A : Nat → Addr} {D : Nat → FuncData}
theorem ok_lrow_texts (T : Txt K mg A D) : FnOk P w K mg base CX0 2 (A 33) (D 33) ["row"] (fun vs H Q _ => ∃ (v : V) (ps : List Pat) (g : Nat), vs = [v] ∧ Dp K H v (encRow ps g) ∧ 1 ≤ ps.length ∧ ps.length ≤ 6 ∧ g ≤ 3 ∧ (∀ t ∈ ps, PatOK t) ∧ ∀ p H', Same H H' → H' p = some (.lst (txV (tkRow ps g))) → Q (.ref p) H') := by
  refine T.F__law_row_texts.ok sc__law_row_texts (fun vs H Q E h => ?_) (fun cdv A' outer s H vs Q E hr h => ?_)
  · obtain ⟨v, ps, g, rfl, _⟩ := h; rfl
  obtain ⟨v, ps, g, rfl, hd, h1, h6, hg, hp, fin⟩ := h
  have hnd := sc__law_row_texts.nd
  have G__law_pattern_text := ok_lpattern_text (P := P) (w := w) (base := base) T
  refine ⟨_, (pss_cons (ps_setLc (i := 2) (own := [("pattern", 1)]) rfl hnd rfl rfl (sw_true rfl rfl rfl (by decide +kernel)) (pi_tup (pe_ix (r := rIxT K) ix_tup (pv 0) pe_int (fun _ _ => rfl))) (blkOk_by (own := [("pattern", 1)]) (N := N__law_row_texts) (sc := defScope s__law_row_texts) (by decide +kernel)) (fun _ _ _ _ _ => (pg_name (i := 1) hnd rfl (Or.inl rfl))) (fun _ _ _ _ _ => pts_nil) (fun _ _ _ _ _ => (pe_call G__law_pattern_text (hr.mono (by first | decide | omega)) rfl T.m__law_pattern_text T.F__law_pattern_text.kp T.b__law_pattern_text .nil pass0 (pa_cons (pv 1) pa_nil)))) (pss_cons (ps_if (pt_cmpR op_gt (pe_ix (r := rIxT K) ix_tup (pv 0) pe_int (fun _ _ => rfl)) pe_int (nomark _)) (pss_one (ps_ret (pe_op op_cat (pe_op op_cat (pe_lst (pa_cons pe_str (pa_cons (pe_callTy call_str_int rfl T.z_str (by decide +kernel) (pa_cons (pe_ix (r := rIxT K) ix_tup (pv 0) pe_int (fun _ _ => rfl)) pa_nil)) pa_nil))) (pv 2)) (pe_lst (pa_cons pe_str pa_nil))))) pss_nil) (pss_cons (ps_if (pt_cmpR op_gt (pe_callB call_len_seq rfl T.z_len PySem.boot_len (pa_cons (pv 2) pa_nil)) pe_int (nomark _)) (pss_one (ps_ret (pe_op op_cat (pe_op op_cat (pe_lst (pa_cons pe_str pa_nil)) (pv 2)) (pe_lst (pa_cons pe_str pa_nil))))) pss_nil) (pss_one (ps_ret (pv 2)))))), ?_⟩
  obtain ⟨ar, a, xs, rfl, har, ha, hx⟩ := dp_encRow hd
  have hxl : xs.length = ps.length := by rw [DpAll.len hx, List.length_map]
  refine ⟨_, rfl, ar, _, 1, _, rfl, rfl, har, atI_nat (j := 1) rfl, a, rfl, ⟨_, ha⟩, fun D hD => ?_⟩
  refine lc_it (walk_tup (xs := xs)) (fun i H' => Same H H' ∧ H' D = some (.lst (txV (ps.take i)))) ⟨same_new hD, upd_same⟩ (fun i H' _ h => Same.spT h.1 ha) ?_ ?_
  · rintro i x H2 H3 hi ⟨s2, h2⟩ ⟨rfl, hxi⟩
    have hil : i < ps.length := by omega
    obtain ⟨v, hv, dv⟩ := DpAll.get hx (i := i) (d := encT ps[i]) (by rw [List.getElem?_map, List.getElem?_eq_getElem hil]; rfl)
    have ev : x = v := Option.some.inj (hxi.symm.trans hv)
    subst ev
    refine ⟨rfl, ?_⟩
    refine ⟨_, rfl, x, ps[i], rfl, Dp.same s2 dv, hp _ (List.getElem_mem hil), _, h2, (by rw [txV_len, List.length_take]; exact len_lt (by omega)), same_upd s2 hD, ?_⟩
    rw [upd_same]
    unfold txV
    rw [← take_succ_map (List.getElem?_eq_getElem hil)]
  · rintro H2 ⟨s2, h2⟩
    rw [hxl, take_all (Nat.le_refl _)] at h2
    have har2 := Same.spT s2 har
    refine ⟨_, rfl, ar, _, 2, _, rfl, rfl, har2, atI_nat (j := 2) rfl, _, _, rfl, rfl, _, rfl, ?_⟩
    unfold tkRow at fin
    by_cases hg0 : 0 < g
    · rw [decide_eq_true (show (0 : Int) < (g : Int) by omega)]
      rw [if_pos hg0] at fin
      refine iteT ?_
      refine ⟨_, rfl, ar, _, 2, _, rfl, rfl, har2, atI_nat (j := 2) rfl, _, rfl, log_small hg, ?_⟩
      rw [digit_str g (by omega)]
      refine ⟨(by show 2 ≤ sizeLine; decide), fun l hl => ⟨_, rfl, l, D, _, _, rfl, rfl, upd_same, same_new hl _ _ h2, (by rw [txV_len]; show 2 + _ ≤ 16777216; omega), fun p3 hp3 => ?_⟩⟩
      refine ⟨(by show 1 ≤ sizeLine; decide), fun l4 hl4 => ⟨p3, l4, _, _, rfl, rfl, same_new hl4 _ _ upd_same, upd_same, (by rw [List.length_append, txV_len]; show 2 + _ + 1 ≤ 16777216; omega), fun p5 hp5 => ?_⟩⟩
      refine fin p5 _ (((s2.trans (same_new hl)).trans (same_new hp3)).trans ((same_new hl4).trans (same_new hp5))) ?_
      rw [upd_same]
      show some (HO.lst ([V.str (Str.ofString "<"), V.str (S [48 + g])] ++ txV ps ++ [V.str (Str.ofString ">")])) = _
      rw [show txV (sg 60 :: dg g :: (ps ++ [sg 62])) = V.str (S (chT (sg 60))) :: V.str (S (chT (dg g))) :: (txV ps ++ [V.str (S (chT (sg 62)))]) by unfold txV; rw [List.map_cons, List.map_cons, List.map_append]; rfl, ch_sg, ch_dg, ch_sg]
      rw [show Str.ofString "<" = S [60] by decide +kernel, show Str.ofString ">" = S [62] by decide +kernel, List.append_assoc]
      rfl
    · rw [decide_eq_false (show ¬ (0 : Int) < (g : Int) by omega)]
      rw [if_neg hg0] at fin
      refine iteF ?_
      refine ⟨_, rfl, D, _, rfl, .inl (SqL.of h2), _, _, rfl, rfl, _, rfl, ?_⟩
      rw [txV_len]
      by_cases h11 : 1 < ps.length
      · rw [decide_eq_true (show (1 : Int) < (ps.length : Int) by omega)]
        rw [if_pos h11] at fin
        refine iteT ?_
        refine ⟨(by show 1 ≤ sizeLine; decide), fun l hl => ⟨_, rfl, l, D, _, _, rfl, rfl, upd_same, same_new hl _ _ h2, (by rw [txV_len]; show 1 + _ ≤ 16777216; omega), fun p3 hp3 => ?_⟩⟩
        refine ⟨(by show 1 ≤ sizeLine; decide), fun l4 hl4 => ⟨p3, l4, _, _, rfl, rfl, same_new hl4 _ _ upd_same, upd_same, (by rw [List.length_append, txV_len]; show 1 + _ + 1 ≤ 16777216; omega), fun p5 hp5 => ?_⟩⟩
        refine fin p5 _ (((s2.trans (same_new hl)).trans (same_new hp3)).trans ((same_new hl4).trans (same_new hp5))) ?_
        rw [upd_same]
        show some (HO.lst ([V.str (Str.ofString "\"")] ++ txV ps ++ [V.str (Str.ofString "\"")])) = _
        rw [show txV (sg 34 :: (ps ++ [sg 34])) = V.str (S (chT (sg 34))) :: (txV ps ++ [V.str (S (chT (sg 34)))]) by unfold txV; rw [List.map_cons, List.map_append]; rfl, ch_sg]
        rw [show Str.ofString "\"" = S [34] by decide +kernel, List.append_assoc]
        rfl
      · rw [decide_eq_false (show ¬ (1 : Int) < (ps.length : Int) by omega)]
        rw [if_neg h11] at fin
        exact iteF ⟨_, rfl, fin D H2 s2 h2⟩
theorem ok_laround (T : Txt K mg A D) (n : Nat) (G__law_texts : FnOk P w K mg base CX0 (2 * n + 2) (A 35) (D 35) ["question"] (yTexts K n)) : FnOk P w K mg base CX0 (2 * n + 3) (A 34) (D 34) ["question", "kinds"] (yAround K n) := by
  refine T.F__law_around.ok (k := 2 * n + 2) sc__law_around (fun vs H Q E h => ?_) (fun cdv A' outer s H vs Q E hr h => ?_)
  · obtain ⟨v, q, b, kt, rfl, _⟩ := h; rfl
  obtain ⟨v, q, b, kt, rfl, hD, hn, hd, hk, fin⟩ := h
  have hnd := sc__law_around.nd
  refine ⟨_, (pss_cons (ps_if (pt_cmpR op_in_seq (pe_ix (r := rIxT K) ix_tup (pv 0) pe_int (fun _ _ => rfl)) (pv 1) (by rfl)) (pss_one (ps_ret (pe_op op_cat (pe_op op_cat (pe_lst (pa_cons pe_str pa_nil)) (pe_call G__law_texts (hr.mono (by first | decide | omega)) rfl T.m__law_texts T.F__law_texts.kp T.b__law_texts .nil pass0 (pa_cons (pv 0) pa_nil))) (pe_lst (pa_cons pe_str pa_nil))))) pss_nil) (pss_one (ps_ret (pe_call G__law_texts (hr.mono (by first | decide | omega)) rfl T.m__law_texts T.F__law_texts.kp T.b__law_texts .nil pass0 (pa_cons (pv 0) pa_nil))))), ?_⟩
  have hl := (wr_len hD).2.1
  have hp := pow_le5 hn
  have hd0 := hd
  obtain ⟨aq, us, rfl, haq⟩ := dp_head hd
  refine ⟨_, rfl, aq, _, 0, _, rfl, rfl, haq, atI_nat (j := 0) rfl, _, rfl, kt, kindsV b, rfl, .inl hk, rfl, kinds_flat b, _, rfl, ?_⟩
  rw [kd_in]
  unfold wrapT at fin
  cases hf : freeB b q with
  | true =>
    rw [if_pos hf] at fin
    exact iteF ⟨_, rfl, .ref aq, q, rfl, hD, hn, hd0, fin⟩
  | false =>
    rw [if_neg (by rw [hf]; exact Bool.false_ne_true)] at fin
    refine iteT ⟨(by show 1 ≤ sizeLine; decide), fun l hl => ⟨_, rfl, .ref aq, q, rfl, hD, hn, Dp.same (same_new hl) hd0, fun p1 H1 s1 h1 => ?_⟩⟩
    refine ⟨l, p1, _, _, rfl, rfl, s1 _ _ upd_same, h1, (by rw [txV_len]; show 1 + _ ≤ 16777216; omega), fun p3 hp3 => ?_⟩
    refine ⟨(by show 1 ≤ sizeLine; decide), fun l4 hl4 => ⟨p3, l4, _, _, rfl, rfl, same_new hl4 _ _ upd_same, upd_same, (by rw [List.length_append, txV_len]; show 1 + _ + 1 ≤ 16777216; omega), fun p5 hp5 => ?_⟩⟩
    refine fin p5 _ (((same_new hl).trans (s1.trans (same_new hp3))).trans ((same_new hl4).trans (same_new hp5))) ?_
    rw [upd_same]
    show some (HO.lst ([V.str (Str.ofString "(")] ++ txV (tkU q) ++ [V.str (Str.ofString ")")])) = _
    rw [show txV (sg 40 :: (tkU q ++ [sg 41])) = V.str (S (chT (sg 40))) :: (txV (tkU q) ++ [V.str (S (chT (sg 41)))]) by unfold txV; rw [List.map_cons, List.map_append]; rfl, ch_sg, ch_sg]
    rw [show Str.ofString "(" = S [40] by decide +kernel, show Str.ofString ")" = S [41] by decide +kernel, List.append_assoc]
    rfl
theorem ok_ltexts (T : Txt K mg A D) : ∀ n, FnOk P w K mg base CX0 (2 * n + 2) (A 35) (D 35) ["question"] (yTexts K n)
  | 0 => fn_no fun vs H Q E h => by
    obtain ⟨v, q, _, h, _⟩ := h
    exact h
  | n + 1 => by
    have G__law_around := ok_laround T n (ok_ltexts T n)
    have G__law_row_texts := ok_lrow_texts (P := P) (w := w) (base := base) T
    refine (T.F__law_texts.ok (k := 2 * n + 3) sc__law_texts (fun vs H Q E h => ?_) (fun cdv A' outer s H vs Q E hr h => ?_) : FnOk P w K mg base CX0 (2 * n + 3 + 1) _ _ _ _)
    · obtain ⟨v, q, rfl, _⟩ := h; rfl
    obtain ⟨v, q, rfl, hD, hn, hd, fin⟩ := h
    have hnd := sc__law_texts.nd
    refine ⟨_, (pss_cons (ps_if (pt_cmpR op_eq (pe_ix (r := rIxT K) ix_tup (pv 0) pe_int (fun _ _ => rfl)) pe_str (nomark _)) (pss_one (ps_ret (pe_call G__law_row_texts (hr.mono (by first | decide | omega)) rfl T.m__law_row_texts T.F__law_row_texts.kp T.b__law_row_texts .nil pass0 (pa_cons (pv 0) pa_nil)))) pss_nil) (pss_cons (ps_if (pt_cmpR op_eq (pe_ix (r := rIxT K) ix_tup (pv 0) pe_int (fun _ _ => rfl)) pe_str (nomark _)) (pss_one (ps_ret (pe_lst (pa_cons pe_str pa_nil)))) pss_nil) (pss_cons (ps_if (pt_cmpR op_eq (pe_ix (r := rIxT K) ix_tup (pv 0) pe_int (fun _ _ => rfl)) pe_str (nomark _)) (pss_one (ps_ret (pe_op op_cat (pe_lst (pa_cons pe_str pa_nil)) (pe_call G__law_around (hr.mono (by first | decide | omega)) rfl T.m__law_around T.F__law_around.kp T.b__law_around .nil pass0 (pa_cons (pe_ix (r := rIxT K) ix_tup (pv 0) pe_int (fun _ _ => rfl)) (pa_cons (pe_lst (pa_cons pe_str (pa_cons pe_str pa_nil))) pa_nil)))))) pss_nil) (pss_cons (ps_set (i := 1) hnd rfl (Or.inl rfl) (pe_lst pa_nil)) (pss_cons (ps_for PassesOwn.never rfl (pi_range1 rfl T.z_range (pa_cons (pe_callB call_len_seq rfl T.z_len PySem.boot_len (pa_cons (pe_ix (r := rIxT K) ix_tup (pv 0) pe_int (fun _ _ => rfl)) pa_nil)) pa_nil)) (pg_name (i := 2) hnd rfl (Or.inl rfl)) (pss_one (ps_if (pt_cmpR op_eq (pe_ix (r := rIxT K) ix_tup (pv 0) pe_int (fun _ _ => rfl)) pe_str (nomark _)) (pss_cons (ps_if (pt_cmpR op_gt (pv 2) pe_int (nomark _)) (pss_one (ps_set (i := 1) hnd rfl (Or.inl rfl) (pe_op op_cat (pv 1) (pe_lst (pa_cons pe_str pa_nil))))) pss_nil) (pss_one (ps_set (i := 1) hnd rfl (Or.inl rfl) (pe_op op_cat (pv 1) (pe_call G__law_around (hr.mono (by first | decide | omega)) rfl T.m__law_around T.F__law_around.kp T.b__law_around .nil pass0 (pa_cons (pe_ix (r := rIxT K) ix_tup (pe_ix (r := rIxT K) ix_tup (pv 0) pe_int (fun _ _ => rfl)) (pv 2) (fun _ _ => rfl)) (pa_cons (pe_lst (pa_cons pe_str pa_nil)) pa_nil))))))) (pss_one (ps_set (i := 1) hnd rfl (Or.inl rfl) (pe_op op_cat (pv 1) (pe_call G__law_around (hr.mono (by first | decide | omega)) rfl T.m__law_around T.F__law_around.kp T.b__law_around .nil pass0 (pa_cons (pe_ix (r := rIxT K) ix_tup (pe_ix (r := rIxT K) ix_tup (pv 0) pe_int (fun _ _ => rfl)) (pv 2) (fun _ _ => rfl)) (pa_cons (pe_lst (pa_cons pe_str (pa_cons pe_str pa_nil))) pa_nil))))))))) (pss_one (ps_ret (pv 1)))))))), ?_⟩
    have hl0 := (wr_len hD).2.1
    have hp0 := pow_le5 hn
    cases q with
    | all =>
      obtain ⟨aq, us, rfl, haq, hus⟩ := dp_kind (show Dp K H v (.tuple [.str "all"]) from hd)
      refine ⟨_, rfl, aq, _, 0, _, rfl, rfl, haq, atI_nat (j := 0) rfl, rfl, _, rfl, strF (by decide) ?_⟩
      refine ⟨_, rfl, aq, _, 0, _, rfl, rfl, haq, atI_nat (j := 0) rfl, rfl, _, rfl, strT ?_⟩
      refine ⟨(by show 1 ≤ sizeLine; decide), fun l hl => fin l _ (same_new hl) ?_⟩
      rw [upd_same]
      rfl
    | row ps g =>
      obtain ⟨aq, pa, pxs, rfl, haq, hpa, hpx⟩ := dp_encRow (show Dp K H v (encRow ps g) from hd)
      obtain ⟨h1, h6, hg, hp⟩ : 1 ≤ ps.length ∧ ps.length ≤ 6 ∧ g ≤ 3 ∧ ∀ t ∈ ps, PatOK t := hD
      refine ⟨_, rfl, aq, _, 0, _, rfl, rfl, haq, atI_nat (j := 0) rfl, rfl, _, rfl, strT ?_⟩
      exact ⟨_, rfl, .ref aq, ps, g, rfl, hd, h1, h6, hg, hp, fin⟩
    | neg q =>
      obtain ⟨aq, us, rfl, haq, hus⟩ := dp_kind (show Dp K H v (.tuple [.str "not", encU q]) from hd)
      obtain ⟨v1, us2, rfl, hv1, hnil⟩ := DpAll.consI hus
      have hDq : Dl n q := hD
      have hlq : (wrapT true q (tkU q)).length + 1 ≤ 10 * 4 ^ (n + 1) := hl0
      refine ⟨_, rfl, aq, _, 0, _, rfl, rfl, haq, atI_nat (j := 0) rfl, rfl, _, rfl, strF (by decide) ?_⟩
      refine ⟨_, rfl, aq, _, 0, _, rfl, rfl, haq, atI_nat (j := 0) rfl, rfl, _, rfl, strF (by decide) ?_⟩
      refine ⟨_, rfl, aq, _, 0, _, rfl, rfl, haq, atI_nat (j := 0) rfl, rfl, _, rfl, strT ?_⟩
      refine ⟨(by show 1 ≤ sizeLine; decide), fun l hl => ?_⟩
      have sl := same_new (o := .lst [.str "-"]) hl
      refine ⟨_, rfl, aq, _, 1, _, rfl, rfl, Same.spT sl haq, atI_nat (j := 1) rfl, (by show 2 ≤ sizeLine; decide), fun t ht => ?_⟩
      have st := sl.trans (same_new (o := .lst [.str "and", .str "or"]) ht)
      refine ⟨v1, q, true, t, rfl, hDq, by omega, Dp.same st hv1, SqL.of upd_same, fun p2 H2 s2 h2 => ?_⟩
      refine ⟨l, p2, _, _, rfl, rfl, s2 _ _ (same_new ht _ _ upd_same), h2, (by rw [txV_len]; show 1 + _ ≤ 16777216; omega), fun p3 hp3 => ?_⟩
      refine fin p3 _ ((st.trans s2).trans (same_new hp3)) ?_
      rw [upd_same]
      rfl
    | bin o qs =>
      obtain ⟨aq, us, rfl, haq, hus⟩ := dp_kind (show Dp K H v (.tuple [.str (if o = true then "or" else "and"), .tuple (encUs qs)]) from hd)
      obtain ⟨v1, us2, rfl, hv1, hnil⟩ := DpAll.consI hus
      obtain ⟨a1, xs, rfl, ha1, hxs⟩ := Dp.tupI hv1
      rw [encUs_map] at hxs
      obtain ⟨h2, h3, hq⟩ : 2 ≤ qs.length ∧ qs.length ≤ 3 ∧ ∀ q ∈ qs, Dl n q := hD
      have hxl : xs.length = qs.length := by rw [DpAll.len hxs, List.length_map]
      have hp2 : 4 ^ n ≤ 1024 := pow_le5 (by omega)
      refine ⟨_, rfl, aq, _, 0, _, rfl, rfl, haq, atI_nat (j := 0) rfl, rfl, _, rfl, strF (by cases o <;> decide) ?_⟩
      refine ⟨_, rfl, aq, _, 0, _, rfl, rfl, haq, atI_nat (j := 0) rfl, rfl, _, rfl, strF (by cases o <;> decide) ?_⟩
      refine ⟨_, rfl, aq, _, 0, _, rfl, rfl, haq, atI_nat (j := 0) rfl, rfl, _, rfl, strF (by cases o <;> decide) ?_⟩
      refine ⟨(by decide), fun l hl => ?_⟩
      have sl := same_new (o := .lst []) hl
      refine ⟨_, rfl, aq, _, 1, _, rfl, rfl, Same.spT sl haq, atI_nat (j := 1) rfl, a1, _, rfl, .inr (Same.spT sl ha1), _, rfl, (by omega), (by omega), ?_⟩
      rw [show ((xs.length : Nat) : Int).toNat = qs.length by omega]
      have ulen : ∀ q ∈ qs, (wrapT (!o) q (tkU q)).length ≤ 10 * 4 ^ n + 2 := fun q hm => by
        have h1 := (wr_len (hq q hm)).2.1
        have h2 := wrapT_len (!o) q (tkU q)
        omega
      have hb : ∀ i, (jnT o ((tkIns o qs).take i)).length ≤ 40000 := fun i => by
        have a := jnT_len o ((tkIns o qs).take i)
        have b : (((tkIns o qs).take i).map fun x => x.length + 1).sum ≤ ((tkIns o qs).take i).length * 10300 := sum_le fun u hu => by
          have hu := List.mem_of_mem_take hu
          rw [tkIns_map] at hu
          obtain ⟨q, hm, rfl⟩ := List.mem_map.mp hu
          have := ulen q hm
          omega
        have c : ((tkIns o qs).take i).length ≤ 3 := by
          rw [List.length_take, tkIns_map, List.length_map]; omega
        have d := Nat.mul_le_mul_right 10300 c
        omega
      refine for_range (n := qs.length) (fun i σ H' => ∃ (p : Addr) (c2 : Option V), σ = [some (.ref aq), some (.ref p), c2] ∧ Same H H' ∧ H' p = some (.lst (txV (jnT o ((tkIns o qs).take i)))))
        ⟨l, _, rfl, sl, upd_same⟩ ?_ ?_
      · rintro i σ H2 hi ⟨p, c2, rfl, s2, hp2'⟩
        have hti : (tkIns o qs)[i]? = some (wrapT (!o) qs[i] (tkU qs[i])) := by rw [tkIns_map, List.getElem?_map, List.getElem?_eq_getElem hi]; rfl
        obtain ⟨x, hx, dx⟩ := DpAll.get hxs (i := i) (d := encU qs[i]) (by rw [List.getElem?_map, List.getElem?_eq_getElem hi]; rfl)
        have hxa : atI xs (0 + (i : Int)) = some x := by rw [Int.zero_add]; exact atI_nat hx
        have hDi := hq _ (List.getElem_mem hi)
        have hui := ulen _ (List.getElem_mem hi)
        have hbi := hb i
        have hsnoc : (tkIns o qs).take (i + 1) = (tkIns o qs).take i ++ [wrapT (!o) qs[i] (tkU qs[i])] := by rw [List.take_add_one, hti]; rfl
        have haq2 := Same.spT s2 haq
        refine ⟨_, rfl, aq, _, 0, _, rfl, rfl, haq2, atI_nat (j := 0) rfl, rfl, _, rfl, ?_⟩
        rw [strDec]
        cases o with
        | false =>
          refine iteF ?_
          refine ⟨_, rfl, _, rfl, aq, _, 1, _, rfl, rfl, haq2, atI_nat (j := 1) rfl, _, rfl, a1, _, _, _, rfl, rfl, Same.spT s2 ha1, hxa, (by show 2 ≤ sizeLine; decide), fun t ht => ?_⟩
          have st := same_new (o := .lst [.str "and", .str "or"]) ht
          refine ⟨x, qs[i], true, t, rfl, hDi, by omega, Dp.same (s2.trans st) dx, SqL.of upd_same, fun p4 H4 s4 h4 => ?_⟩
          have sa := (s2.trans st).trans s4
          have hui' : (wrapT true qs[i] (tkU qs[i])).length ≤ 10 * 4 ^ n + 2 := hui
          refine ⟨p, p4, _, _, rfl, rfl, (st.trans s4) _ _ hp2', h4, (by rw [txV_len, txV_len]; show _ ≤ 16777216; omega), fun p5 hp5 => ?_⟩
          refine ⟨p5, _, rfl, sa.trans (same_new hp5), ?_⟩
          rw [upd_same, ← txV_app, hsnoc]
          congr 3
          cases i with
          | zero => exact (List.append_nil _).symm
          | succ i =>
            rw [jnT_snoc]
            · rfl
            · intro e
              have := congrArg List.length e
              rw [List.length_take, tkIns_map, List.length_map, List.length_nil] at this
              omega
        | true =>
          refine iteT ?_
          have fin2 : ∀ (p6 : Addr) (H6 : Hp) (pre : List Pat), Same H H6 → H6 p6 = some (.lst (txV pre)) → pre.length ≤ 40001 → jnT true ((tkIns true qs).take (i + 1)) = pre ++ wrapT false qs[i] (tkU qs[i]) →
              tAsg (tOp rCat (tVar 1) (tCall (yAround K n) [] E0 (tCons (tOp (rIxT K) (tOp (rIxT K) (tVar 0) (tC (.int 1))) (tVar 2)) (tCons (tLst (tCons (tC (.str (Str.ofString "or"))) tNil)) tNil)))) (gName 1)
                { nx := fun σ H' => ∃ (p : Addr) (c2 : Option V), σ = [some (.ref aq), some (.ref p), c2] ∧ Same H H' ∧ H' p = some (.lst (txV (jnT true ((tkIns true qs).take (i + 1))))), rt := Q } [some (.ref aq), some (.ref p6), some (.int (0 + (i : Int)))] H6 := by
            intro p6 H6 pre s6 h6 hpl he
            refine ⟨_, rfl, _, rfl, aq, _, 1, _, rfl, rfl, Same.spT s6 haq, atI_nat (j := 1) rfl, _, rfl, a1, _, _, _, rfl, rfl, Same.spT s6 ha1, hxa, (by show 1 ≤ sizeLine; decide), fun t ht => ?_⟩
            have st := same_new (o := .lst [.str "or"]) ht
            refine ⟨x, qs[i], false, t, rfl, hDi, by omega, Dp.same (s6.trans st) dx, SqL.of upd_same, fun p4 H4 s4 h4 => ?_⟩
            have sa := (s6.trans st).trans s4
            have hui' : (wrapT false qs[i] (tkU qs[i])).length ≤ 10 * 4 ^ n + 2 := hui
            refine ⟨p6, p4, _, _, rfl, rfl, (st.trans s4) _ _ h6, h4, (by rw [txV_len, txV_len]; show _ ≤ 16777216; omega), fun p5 hp5 => ?_⟩
            refine ⟨p5, _, rfl, sa.trans (same_new hp5), ?_⟩
            rw [upd_same, ← txV_app, he]
          refine ⟨_, rfl, _, _, rfl, rfl, _, rfl, ?_⟩
          cases i with
          | zero =>
            refine iteF ?_
            exact fin2 p H2 [] s2 hp2' (by decide) (by rw [hsnoc]; exact List.append_nil _)
          | succ i =>
            rw [decide_eq_true (show (0 : Int) < 0 + ((i + 1 : Nat) : Int) by omega)]
            refine iteT ?_
            refine ⟨_, rfl, (by show 1 ≤ sizeLine; decide), fun t ht => ⟨p, t, _, _, rfl, rfl, same_new ht _ _ hp2', upd_same, (by rw [txV_len]; show _ + 1 ≤ 16777216; omega), fun p5 hp5 => ?_⟩⟩
            refine fin2 p5 _ (jnT true ((tkIns true qs).take (i + 1)) ++ [sg 124]) ((s2.trans (same_new ht)).trans (same_new hp5)) ?_ (by rw [List.length_append]; show _ + 1 ≤ _; omega) ?_
            · rw [upd_same, txV_app, show txV [sg 124] = [V.str (Str.ofString "|")] by unfold txV; rw [List.map_singleton, ch_sg]; exact congrArg (fun z => [V.str z]) (by decide +kernel)]
            · rw [hsnoc, jnT_snoc, List.append_assoc]
              · rfl
              · intro e
                have := congrArg List.length e
                rw [List.length_take, tkIns_map, List.length_map, List.length_nil] at this
                omega
      · rintro σ H2 ⟨p, c2, rfl, s2, h2⟩
        rw [take_all (by rw [tkIns_map, List.length_map]; exact Nat.le_refl _)] at h2
        exact ⟨_, rfl, fin p H2 s2 h2⟩
end

section
variable {P : Program} {w : World} {K : PySem.W.Frag} {mg : Str → Option Value} {base : Heap} {A : Nat → Addr} {D : Nat → FuncData}
theorem ok_pattern_text (T : Txt K mg A D) : FnOk P w K mg base CX0 1 (A 3) (D 3) ["pattern"] (yPatT K) := by
  refine T.F_pattern_text.ok sc_pattern_text (fun vs H Q E h => ?_) (fun cdv A' outer s H vs Q E hr h => ?_)
  · obtain ⟨v, t, rfl, _⟩ := h; rfl
  obtain ⟨v, t, rfl, hd, hp, fin⟩ := h
  have hnd := sc_pattern_text.nd
  refine ⟨_, (pss_cons (ps_asg (pv 0) (pg_tup rfl (pgs_cons (pg_name (i := 1) hnd rfl (Or.inl rfl)) (pgs_cons (pg_name (i := 2) hnd rfl (Or.inl rfl)) pgs_nil)))) (pss_cons (ps_if (pt_cmpR op_eq (pv 1) pe_str (nomark _)) (pss_one (ps_ret (pe_op op_add_str (pv 2) pe_str))) pss_nil) (pss_one (ps_ret (pv 2))))), ?_⟩
  obtain ⟨q, rfl, hq⟩ := dp_encT hd
  have h2 := hp.2.2.1
  refine ⟨_, rfl, q, _, rfl, hq, rfl, _, _, rfl, _, _, rfl, rfl, ?_⟩
  refine ⟨_, rfl, rfl, _, rfl, ?_⟩
  rw [strDec]
  unfold chT at fin
  by_cases e : t.1 = "start"
  · rw [decide_eq_true e]
    rw [if_pos e] at fin
    refine iteT ⟨_, rfl, _, _, rfl, rfl, (by show t.2.length + 1 ≤ 16777216; omega), ?_⟩
    rw [show t.2 ++ Str.ofString "*" = S (tl t.2 ++ [42]) from ext_tl (by rw [tl_append]; rfl)]
    exact fin
  · rw [decide_eq_false e]
    rw [if_neg e, S_tl] at fin
    exact iteF ⟨_, rfl, fin⟩
theorem ok_row_text (T : Txt K mg A D) : FnOk P w K mg base CX0 2 (A 2) (D 2) ["patterns", "gap"] (fun vs H Q _ => ∃ (v : V) (ps : List Pat) (g : Nat), vs = [v, .int (g : Int)] ∧ Dp K H v (encPs ps) ∧ 1 ≤ ps.length ∧ ps.length ≤ 6 ∧ g ≤ 3 ∧ (∀ t ∈ ps, PatOK t) ∧ ∀ H', Same H H' → Q (.str (S (rowL ps g))) H') := by
  refine T.F_row_text.ok sc_row_text (fun vs H Q E h => ?_) (fun cdv A' outer s H vs Q E hr h => ?_)
  · obtain ⟨v, ps, g, rfl, _⟩ := h; rfl
  obtain ⟨v, ps, g, rfl, hd, h1, h6, hg, hp, fin⟩ := h
  have hnd := sc_row_text.nd
  have G_pattern_text := ok_pattern_text (P := P) (w := w) (base := base) T
  refine ⟨_, (pss_cons (ps_set (i := 3) hnd rfl (Or.inl rfl) (pe_join pe_str (pe_lc (own := [("pattern", 2)]) rfl hnd (pi_tup (pv 0)) (blkOk_by (own := [("pattern", 2)]) (N := N_row_text) (sc := defScope s_row_text) (by decide +kernel)) (fun _ _ _ _ _ => (pg_name (i := 2) hnd rfl (Or.inl rfl))) (fun _ _ _ _ _ => pts_nil) (fun _ _ _ _ _ => (pe_call G_pattern_text (hr.mono (by first | decide | omega)) rfl T.m_pattern_text T.F_pattern_text.kp T.b_pattern_text .nil pass0 (pa_cons (pv 2) pa_nil)))))) (pss_cons (ps_if (pt_cmpR op_gt (pv 1) pe_int (nomark _)) (pss_one (ps_ret (pe_joined (.cons pe_str (.cons (pe_fmt (pv 1)) (.cons pe_str (.cons (pe_fmt (pv 3)) (.cons pe_str .nil)))))))) pss_nil) (pss_cons (ps_if (pt_cmpR op_eq (pe_callB call_len_seq rfl T.z_len PySem.boot_len (pa_cons (pv 0) pa_nil)) pe_int (nomark _)) (pss_one (ps_ret (pv 3))) pss_nil) (pss_one (ps_ret (pe_op op_add_str (pe_op op_add_str pe_str (pv 3)) pe_str)))))), ?_⟩
  obtain ⟨a, xs, rfl, ha, hx⟩ := Dp.tupI hd
  have hxl : xs.length = ps.length := by rw [DpAll.len hx, List.length_map]
  refine ⟨⟨_, rfl⟩, _, rfl, a, rfl, ⟨_, ha⟩, fun D hD => ?_⟩
  refine lc_it (walk_tup (xs := xs)) (fun i H' => Same H H' ∧ H' D = some (.lst ((ps.take i).map fun t => V.str (S (chT t))))) ⟨same_new hD, upd_same⟩ (fun i H' _ h => Same.spT h.1 ha) ?_ ?_
  · rintro i x H2 H3 hi ⟨s2, h2⟩ ⟨rfl, hxi⟩
    have hil : i < ps.length := by omega
    obtain ⟨v, hv, dv⟩ := DpAll.get hx (i := i) (d := encT ps[i]) (by rw [List.getElem?_map, List.getElem?_eq_getElem hil]; rfl)
    have ev : x = v := Option.some.inj (hxi.symm.trans hv)
    subst ev
    refine ⟨rfl, ?_⟩
    refine ⟨_, rfl, x, ps[i], rfl, Dp.same s2 dv, hp _ (List.getElem_mem hil), _, h2, (by rw [List.length_map, List.length_take]; exact len_lt (by omega)), same_upd s2 hD, ?_⟩
    rw [upd_same, ← take_succ_map (List.getElem?_eq_getElem hil)]
  · rintro H2 ⟨s2, h2⟩
    rw [hxl, take_all (Nat.le_refl _)] at h2
    have hrl := (row_len (g := g) h6 hp).2
    have hm : (ps.map fun t => V.str (S (chT t))) = ((ps.map chT).map S).map V.str := by rw [List.map_map, List.map_map]; rfl
    rw [hm] at h2
    have hsum : (((ps.map chT).map S).map (·.length)).sum ≤ ((ps.map chT).map S).length * 13 := sum_le fun y hy => by
      obtain ⟨u, hu, rfl⟩ := List.mem_map.mp hy
      obtain ⟨t, ht, rfl⟩ := List.mem_map.mp hu
      have := pat_len (hp t ht)
      rw [len_tl]; exact this
    rw [List.length_map, List.length_map] at hsum
    refine ⟨_, D, (ps.map chT).map S, rfl, rfl, .inl (SqL.of h2), ?_, ?_⟩
    · rw [List.length_map, List.length_map, show (Str.ofString " ").length = 1 by decide +kernel]
      omega
    · rw [joinS (sl := [32]) (by decide +kernel)]
      have hjl : (S (joinL [32] (ps.map chT))).length = (joinL [32] (ps.map chT)).length := len_tl _
      refine ⟨_, rfl, _, _, rfl, rfl, _, rfl, ?_⟩
      unfold rowL at fin
      by_cases hg0 : 0 < g
      · rw [decide_eq_true (show (0 : Int) < (g : Int) by omega)]
        rw [if_pos hg0] at fin
        refine iteT ?_
        have l1 : ∀ a b : Str, (a ++ b).length = a.length + b.length := fun a b => by rw [len_tl, len_tl, len_tl, tl_append, List.length_append]
        have e1 : (Str.ofString "<").length = 1 := by decide +kernel
        have e2 : (Str.ofString " ").length = 1 := by decide +kernel
        have e3 : (Str.ofString ">").length = 1 := by decide +kernel
        have e4 : Str.empty.length = 0 := by decide +kernel
        have e5 : (S [48 + g]).length = 1 := rfl
        refine ⟨_, rfl, (by rw [l1, e4, e1]; decide), _, rfl, .inr ⟨_, rfl, log_small hg, ?_⟩⟩
        rw [digit_str g (by omega)]
        refine ⟨_, rfl, (by rw [l1, l1, e4, e1, e5]; decide), _, rfl, (by rw [l1, l1, l1, e4, e1, e5, e2]; decide), _, rfl, .inl ⟨_, rfl, (by rw [hjl]; show _ ≤ 16777216; omega), _, rfl, (by rw [l1, l1, l1, l1, e4, e1, e5, e2, hjl]; show _ ≤ 16777216; omega), _, rfl, (by rw [l1, l1, l1, l1, l1, e4, e1, e5, e2, e3, hjl]; show _ ≤ 16777216; omega), ?_⟩⟩
        rw [show Str.empty ++ Str.ofString "<" ++ S [48 + g] ++ Str.ofString " " ++ S (joinL [32] (ps.map chT)) ++ Str.ofString ">" = S (60 :: (48 + g) :: 32 :: (joinL [32] (ps.map chT) ++ [62])) from ext_tl (by
          rw [tl_append, tl_append, tl_append, tl_append, tl_append, tl_S, tl_S, tl_S]; rfl)]
        exact fin H2 s2
      · rw [decide_eq_false (show ¬ (0 : Int) < (g : Int) by omega)]
        rw [if_neg hg0] at fin
        refine iteF ?_
        refine ⟨_, rfl, a, xs, rfl, .inr (Same.spT s2 ha), rfl, _, rfl, ?_⟩
        by_cases h11 : ps.length = 1
        · rw [decide_eq_true (congrArg V.int (show ((xs.length : Nat) : Int) = 1 by omega))]
          rw [if_neg (by omega)] at fin
          exact iteT ⟨_, rfl, fin H2 s2⟩
        · rw [decide_eq_false (fun e => h11 (by have := V.int.inj e; omega))]
          rw [if_pos (by omega)] at fin
          have l1 : ∀ a b : Str, (a ++ b).length = a.length + b.length := fun a b => by rw [len_tl, len_tl, len_tl, tl_append, List.length_append]
          have e1 : (Str.ofString "\"").length = 1 := by decide +kernel
          refine iteF ⟨_, rfl, _, _, rfl, rfl, (by rw [e1, hjl]; show _ ≤ 16777216; omega), _, _, rfl, rfl, (by rw [l1, e1, hjl]; show _ ≤ 16777216; omega), ?_⟩
          rw [show Str.ofString "\"" ++ S (joinL [32] (ps.map chT)) ++ Str.ofString "\"" = S (34 :: (joinL [32] (ps.map chT) ++ [34])) from ext_tl (by
            rw [tl_append, tl_append, tl_S, tl_S]; rfl)]
          exact fin H2 s2
end

section
variable {P : Program} {w : World} {K : PySem.W.Frag} {mg : Str → Option Value} {base : Heap} {A : Nat → Addr} {D : Nat → FuncData}
theorem ok_part_text (T : Txt K mg A D) (n : Nat) (G_write_question : FnOk P w K mg base CX0 (2 * n + 2) (A 0) (D 0) ["question"] (yWr K n)) : FnOk P w K mg base CX0 (2 * n + 3) (A 1) (D 1) ["question", "bracketed"] (yPartT K n) := by
  refine T.F_part_text.ok (k := 2 * n + 2) sc_part_text (fun vs H Q E h => ?_) (fun cdv A' outer s H vs Q E hr h => ?_)
  · obtain ⟨v, q, b, kt, rfl, _⟩ := h; rfl
  obtain ⟨v, q, b, kt, rfl, hD, hn, hd, hk, fin⟩ := h
  have hnd := sc_part_text.nd
  refine ⟨_, (pss_cons (ps_set (i := 2) hnd rfl (Or.inl rfl) (pe_call G_write_question (hr.mono (by first | decide | omega)) rfl T.m_write_question T.F_write_question.kp T.b_write_question .nil pass0 (pa_cons (pv 0) pa_nil))) (pss_cons (ps_if (pt_cmpR op_in_seq (pe_ix (r := rIxT K) ix_tup (pv 0) pe_int (fun _ _ => rfl)) (pv 1) (by rfl)) (pss_one (ps_ret (pe_op op_add_str (pe_op op_add_str pe_str (pv 2)) pe_str))) pss_nil) (pss_one (ps_ret (pv 2))))), ?_⟩
  have hl := (wr_len hD).1
  have hp := pow_le5 hn
  refine ⟨_, rfl, v, q, rfl, hD, hn, hd, fun H1 s1 => ?_⟩
  obtain ⟨aq, us, rfl, haq⟩ := dp_head hd
  refine ⟨_, rfl, aq, _, 0, _, rfl, rfl, Same.spT s1 haq, atI_nat (j := 0) rfl, _, rfl, kt, kindsV b, rfl, (hk.symm.imp s1.seq (Same.spT s1)), rfl, kinds_flat b, _, rfl, ?_⟩
  rw [kd_in]
  unfold wrapL at fin
  cases hf : freeB b q with
  | true =>
    rw [if_pos hf] at fin
    exact iteF ⟨_, rfl, fin H1 s1⟩
  | false =>
    rw [if_neg (by rw [hf]; exact Bool.false_ne_true)] at fin
    have e1 : (Str.ofString "(").length = 1 := by decide +kernel
    have e2 : (Str.ofString ")").length = 1 := by decide +kernel
    refine iteT ⟨_, rfl, _, _, rfl, rfl, (by rw [e1, S_len]; show _ ≤ 16777216; omega), _, _, rfl, rfl, (by rw [str_app, e1, e2, S_len]; show _ ≤ 16777216; omega), ?_⟩
    rw [paren_S]
    exact fin H1 s1
theorem ok_write_question (T : Txt K mg A D) : ∀ n, FnOk P w K mg base CX0 (2 * n + 2) (A 0) (D 0) ["question"] (yWr K n)
  | 0 => fn_no fun vs H Q E h => by
    obtain ⟨v, q, _, h, _⟩ := h
    exact h
  | n + 1 => by
    have G_part_text := ok_part_text T n (ok_write_question T n)
    have G_row_text := ok_row_text (P := P) (w := w) (base := base) T
    refine (T.F_write_question.ok (k := 2 * n + 3) sc_write_question (fun vs H Q E h => ?_) (fun cdv A' outer s H vs Q E hr h => ?_) : FnOk P w K mg base CX0 (2 * n + 3 + 1) _ _ _ _)
    · obtain ⟨v, q, rfl, _⟩ := h; rfl
    obtain ⟨v, q, rfl, hD, hn, hd, fin⟩ := h
    have hnd := sc_write_question.nd
    refine ⟨_, (pss_cons (ps_set (i := 2) hnd rfl (Or.inl rfl) (pe_ix (r := rIxT K) ix_tup (pv 0) pe_int (fun _ _ => rfl))) (pss_cons (ps_if (pt_cmpR op_eq (pv 2) pe_str (nomark _)) (pss_one (ps_ret (pe_call G_row_text (hr.mono (by first | decide | omega)) rfl T.m_row_text T.F_row_text.kp T.b_row_text .nil pass0 (pa_cons (pe_ix (r := rIxT K) ix_tup (pv 0) pe_int (fun _ _ => rfl)) (pa_cons (pe_ix (r := rIxT K) ix_tup (pv 0) pe_int (fun _ _ => rfl)) pa_nil))))) pss_nil) (pss_cons (ps_if (pt_cmpR op_eq (pv 2) pe_str (nomark _)) (pss_one (ps_ret pe_str)) pss_nil) (pss_cons (ps_if (pt_cmpR op_eq (pv 2) pe_str (nomark _)) (pss_one (ps_ret (pe_op op_add_str pe_str (pe_call G_part_text (hr.mono (by first | decide | omega)) rfl T.m_part_text T.F_part_text.kp T.b_part_text .nil pass0 (pa_cons (pe_ix (r := rIxT K) ix_tup (pv 0) pe_int (fun _ _ => rfl)) (pa_cons (pe_tup (pa_cons pe_str (pa_cons pe_str pa_nil))) pa_nil)))))) pss_nil) (pss_cons (ps_if (pt_cmpR op_eq (pv 2) pe_str (nomark _)) (pss_one (ps_ret (pe_join pe_str (pe_lc (own := [("part", 1)]) rfl hnd (pi_tup (pe_ix (r := rIxT K) ix_tup (pv 0) pe_int (fun _ _ => rfl))) (blkOk_by (own := [("part", 1)]) (N := N_write_question) (sc := defScope s_write_question) (by decide +kernel)) (fun _ _ _ _ _ => (pg_name (i := 1) hnd rfl (Or.inl rfl))) (fun _ _ _ _ _ => pts_nil) (fun _ _ _ _ _ => (pe_call G_part_text (hr.mono (by first | decide | omega)) rfl T.m_part_text T.F_part_text.kp T.b_part_text .nil pass0 (pa_cons (pv 1) (pa_cons (pe_tup (pa_cons pe_str (pa_cons pe_str pa_nil))) pa_nil)))))))) pss_nil) (pss_one (ps_ret (pe_join pe_str (pe_lc (own := [("part", 1)]) rfl hnd (pi_tup (pe_ix (r := rIxT K) ix_tup (pv 0) pe_int (fun _ _ => rfl))) (blkOk_by (own := [("part", 1)]) (N := N_write_question) (sc := defScope s_write_question) (by decide +kernel)) (fun _ _ _ _ _ => (pg_name (i := 1) hnd rfl (Or.inl rfl))) (fun _ _ _ _ _ => pts_nil) (fun _ _ _ _ _ => (pe_call G_part_text (hr.mono (by first | decide | omega)) rfl T.m_part_text T.F_part_text.kp T.b_part_text .nil pass0 (pa_cons (pv 1) (pa_cons (pe_tup (pa_cons pe_str pa_nil)) pa_nil))))))))))))), ?_⟩
    cases q with
    | all =>
      obtain ⟨aq, us, rfl, haq, hus⟩ := dp_kind (show Dp K H v (.tuple [.str "all"]) from hd)
      refine ⟨_, rfl, aq, _, 0, _, rfl, rfl, haq, atI_nat (j := 0) rfl, _, rfl, rfl, _, rfl, strF (by decide) ?_⟩
      refine ⟨_, rfl, rfl, _, rfl, strT ?_⟩
      exact fin H (Same.refl H)
    | row ps g =>
      obtain ⟨aq, pa, pxs, rfl, haq, hpa, hpx⟩ := dp_encRow (show Dp K H v (encRow ps g) from hd)
      obtain ⟨h1, h6, hg, hp⟩ : 1 ≤ ps.length ∧ ps.length ≤ 6 ∧ g ≤ 3 ∧ ∀ t ∈ ps, PatOK t := hD
      refine ⟨_, rfl, aq, _, 0, _, rfl, rfl, haq, atI_nat (j := 0) rfl, _, rfl, rfl, _, rfl, strT ?_⟩
      exact ⟨_, rfl, aq, _, 1, _, rfl, rfl, haq, atI_nat (j := 1) rfl, _, rfl, aq, _, 2, _, rfl, rfl, haq, atI_nat (j := 2) rfl, .ref pa, ps, g, rfl, .tup hpa hpx, h1, h6, hg, hp, fin⟩
    | neg q =>
      obtain ⟨aq, us, rfl, haq, hus⟩ := dp_kind (show Dp K H v (.tuple [.str "not", encU q]) from hd)
      obtain ⟨v1, us2, rfl, hv1, hnil⟩ := DpAll.consI hus
      have hDq : Dl n q := hD
      have hl := (wr_len hDq).1
      have hp := pow_le5 hn
      have hp2 : 4 ^ n ≤ 1024 := pow_le5 (by omega)
      have hwl := wrapL_len true q (wrL q)
      refine ⟨_, rfl, aq, _, 0, _, rfl, rfl, haq, atI_nat (j := 0) rfl, _, rfl, rfl, _, rfl, strF (by decide) ?_⟩
      refine ⟨_, rfl, rfl, _, rfl, strF (by decide) ?_⟩
      refine ⟨_, rfl, rfl, _, rfl, strT ?_⟩
      refine ⟨_, rfl, aq, _, 1, _, rfl, rfl, haq, atI_nat (j := 1) rfl, (by show 2 ≤ sizeLine; decide), fun t ht => ?_⟩
      have st := same_new (o := .tup [.str "and", .str "or"]) ht
      refine ⟨v1, q, true, t, rfl, hDq, by omega, Dp.same st hv1, .inl (SqT.of upd_same), fun H2 s2 => ⟨_, _, rfl, rfl, (by rw [S_len, show (Str.ofString "-").length = 1 by decide +kernel]; show _ ≤ 16777216; omega), ?_⟩⟩
      rw [show Str.ofString "-" ++ S (wrapL true q (wrL q)) = S (45 :: wrapL true q (wrL q)) from ext_tl (by rw [tl_append, tl_S, tl_S]; rfl)]
      exact fin H2 (st.trans s2)
    | bin o qs =>
      obtain ⟨aq, us, rfl, haq, hus⟩ := dp_kind (show Dp K H v (.tuple [.str (if o = true then "or" else "and"), .tuple (encUs qs)]) from hd)
      obtain ⟨v1, us2, rfl, hv1, hnil⟩ := DpAll.consI hus
      obtain ⟨a1, xs, rfl, ha1, hxs⟩ := Dp.tupI hv1
      rw [encUs_map] at hxs
      obtain ⟨h2, h3, hq⟩ : 2 ≤ qs.length ∧ qs.length ≤ 3 ∧ ∀ q ∈ qs, Dl n q := hD
      have hxl : xs.length = qs.length := by rw [DpAll.len hxs, List.length_map]
      have hp2 : 4 ^ n ≤ 1024 := pow_le5 (by omega)
      have part : ∀ i (x : V) H3, Same H H3 → xs[i]? = some x → ∃ q, qs[i]? = some q ∧ Dp K H3 x (encU q) ∧ Dl n q := fun i x H3 k3 hx => by
        have hi := (List.getElem?_eq_some_iff.mp hx).1
        rw [hxl] at hi
        obtain ⟨v, hv, dv⟩ := DpAll.get hxs (i := i) (d := encU qs[i]) (by rw [List.getElem?_map, List.getElem?_eq_getElem hi]; rfl)
        have ev : x = v := Option.some.inj (hx.symm.trans hv)
        subst ev
        exact ⟨qs[i], List.getElem?_eq_getElem hi, Dp.same k3 dv, hq _ (List.getElem_mem hi)⟩
      refine ⟨_, rfl, aq, _, 0, _, rfl, rfl, haq, atI_nat (j := 0) rfl, _, rfl, rfl, _, rfl, strF (by cases o <;> decide) ?_⟩
      refine ⟨_, rfl, rfl, _, rfl, strF (by cases o <;> decide) ?_⟩
      refine ⟨_, rfl, rfl, _, rfl, strF (by cases o <;> decide) ?_⟩
      refine ⟨_, rfl, rfl, _, rfl, ?_⟩
      rw [strDec]
      have ends : ∀ (D2 : Addr) (H2 : Hp), H2 D2 = some (.lst ((qs.take xs.length).map fun q => V.str (S (wrapL (!o) q (wrL q))))) → H2 D2 = some (.lst (((wrLs o qs).map S).map V.str)) ∧ (((wrLs o qs).map S).map (·.length)).sum ≤ 3 * 110000 ∧ ((wrLs o qs).map S).length ≤ 3 := fun D2 H2 h => by
        rw [hxl, take_all (Nat.le_refl _)] at h
        rw [wrLs_map]
        refine ⟨?_, ?_, by rw [List.length_map, List.length_map]; omega⟩
        · rw [h, List.map_map, List.map_map]; rfl
        · have : (((qs.map fun q => wrapL (!o) q (wrL q)).map S).map (·.length)).sum ≤ ((qs.map fun q => wrapL (!o) q (wrL q)).map S).length * 110000 := sum_le fun y hy => by
            obtain ⟨u, hu, rfl⟩ := List.mem_map.mp hy
            obtain ⟨q, hm, rfl⟩ := List.mem_map.mp hu
            have h1 := (wr_len (hq q hm)).1
            have h2 := wrapL_len (!o) q (wrL q)
            rw [S_len]; omega
          rw [List.length_map, List.length_map] at this
          exact Nat.le_trans this (Nat.mul_le_mul_right _ h3)
      cases o with
      | false =>
        refine iteT ?_
        refine ⟨⟨_, rfl⟩, _, rfl, aq, _, 1, _, rfl, rfl, haq, atI_nat (j := 1) rfl, a1, rfl, ⟨_, ha1⟩, fun D hD => ?_⟩
        refine lc_it (walk_tup (xs := xs)) (fun i H' => Same H H' ∧ H' D = some (.lst ((qs.take i).map fun q => V.str (S (wrapL true q (wrL q)))))) ⟨same_new hD, upd_same⟩ (fun i H' _ h => Same.spT h.1 ha1) ?_ ?_
        · rintro i x H2 H3 hi ⟨s2, h2⟩ ⟨rfl, hxi⟩
          obtain ⟨q, hqi, dq, hDq⟩ := part i x H3 s2 hxi
          refine ⟨rfl, ?_⟩
          refine ⟨_, rfl, (by show 2 ≤ sizeLine; decide), fun t ht => ?_⟩
          have st := same_new (o := .tup [.str "and", .str "or"]) ht
          refine ⟨x, q, true, t, rfl, hDq, by omega, Dp.same st dq, .inl (SqT.of upd_same), fun H4 s4 => ⟨_, (st.trans s4) _ _ h2, (by rw [List.length_map, List.length_take]; exact len_lt (by omega)), same_upd (s2.trans (st.trans s4)) hD, ?_⟩⟩
          rw [upd_same, ← take_succ_map hqi]
        · rintro H2 ⟨s2, h2⟩
          obtain ⟨e1, e2, e3⟩ := ends D H2 h2
          refine ⟨_, D, _, rfl, rfl, .inl (SqL.of e1), ?_, ?_⟩
          · exact Nat.le_trans (Nat.add_le_add e2 (Nat.mul_le_mul_right _ e3)) (by decide +kernel)
          · rw [joinS (sl := [32]) (by decide +kernel)]
            exact fin H2 s2
      | true =>
        refine iteF ?_
        refine ⟨⟨_, rfl⟩, _, rfl, aq, _, 1, _, rfl, rfl, haq, atI_nat (j := 1) rfl, a1, rfl, ⟨_, ha1⟩, fun D hD => ?_⟩
        refine lc_it (walk_tup (xs := xs)) (fun i H' => Same H H' ∧ H' D = some (.lst ((qs.take i).map fun q => V.str (S (wrapL false q (wrL q)))))) ⟨same_new hD, upd_same⟩ (fun i H' _ h => Same.spT h.1 ha1) ?_ ?_
        · rintro i x H2 H3 hi ⟨s2, h2⟩ ⟨rfl, hxi⟩
          obtain ⟨q, hqi, dq, hDq⟩ := part i x H3 s2 hxi
          refine ⟨rfl, ?_⟩
          refine ⟨_, rfl, (by show 1 ≤ sizeLine; decide), fun t ht => ?_⟩
          have st := same_new (o := .tup [.str "or"]) ht
          refine ⟨x, q, false, t, rfl, hDq, by omega, Dp.same st dq, .inl (SqT.of upd_same), fun H4 s4 => ⟨_, (st.trans s4) _ _ h2, (by rw [List.length_map, List.length_take]; exact len_lt (by omega)), same_upd (s2.trans (st.trans s4)) hD, ?_⟩⟩
          rw [upd_same, ← take_succ_map hqi]
        · rintro H2 ⟨s2, h2⟩
          obtain ⟨e1, e2, e3⟩ := ends D H2 h2
          refine ⟨_, D, _, rfl, rfl, .inl (SqL.of e1), ?_, ?_⟩
          · exact Nat.le_trans (Nat.add_le_add e2 (Nat.mul_le_mul_right _ e3)) (by decide +kernel)
          · rw [joinS (sl := [32, 124, 32]) (by decide +kernel)]
            exact fin H2 s2
end

section
variable {P : Program} {w : World} {K : PySem.W.Frag} {mg : Str → Option Value} {base : Heap} {A : Nat → Addr} {D : Nat → FuncData}
theorem ok_lrow (T : Txt K mg A D) : FnOk P w K mg base CX0 2 (A 38) (D 38) ["row"] (fun vs H Q _ => ∃ (v : V) (ps : List Pat) (g : Nat), vs = [v] ∧ Dp K H v (encRow ps g) ∧ 1 ≤ ps.length ∧ ps.length ≤ 6 ∧ g ≤ 3 ∧ (∀ t ∈ ps, PatOK t) ∧ ∀ H', Same H H' → Q (.str (S (rowL ps g))) H') := by
  refine T.F__law_row.ok sc__law_row (fun vs H Q E h => ?_) (fun cdv A' outer s H vs Q E hr h => ?_)
  · obtain ⟨v, ps, g, rfl, _⟩ := h; rfl
  obtain ⟨v, ps, g, rfl, hd, h1, h6, hg, hp, fin⟩ := h
  have hnd := sc__law_row.nd
  have G__law_pattern_text := ok_lpattern_text (P := P) (w := w) (base := base) T
  refine ⟨_, (pss_cons (ps_set (i := 2) hnd rfl (Or.inl rfl) (pe_join pe_str (pe_lc (own := [("pattern", 1)]) rfl hnd (pi_tup (pe_ix (r := rIxT K) ix_tup (pv 0) pe_int (fun _ _ => rfl))) (blkOk_by (own := [("pattern", 1)]) (N := N__law_row) (sc := defScope s__law_row) (by decide +kernel)) (fun _ _ _ _ _ => (pg_name (i := 1) hnd rfl (Or.inl rfl))) (fun _ _ _ _ _ => pts_nil) (fun _ _ _ _ _ => (pe_call G__law_pattern_text (hr.mono (by first | decide | omega)) rfl T.m__law_pattern_text T.F__law_pattern_text.kp T.b__law_pattern_text .nil pass0 (pa_cons (pv 1) pa_nil)))))) (pss_cons (ps_if (pt_cmpR op_gt (pe_ix (r := rIxT K) ix_tup (pv 0) pe_int (fun _ _ => rfl)) pe_int (nomark _)) (pss_one (ps_ret (pe_op op_add_str (pe_op op_add_str (pe_op op_add_str (pe_op op_add_str pe_str (pe_callTy call_str_int rfl T.z_str (by decide +kernel) (pa_cons (pe_ix (r := rIxT K) ix_tup (pv 0) pe_int (fun _ _ => rfl)) pa_nil))) pe_str) (pv 2)) pe_str))) pss_nil) (pss_cons (ps_if (pt_cmpR op_gt (pe_callB call_len_seq rfl T.z_len PySem.boot_len (pa_cons (pe_ix (r := rIxT K) ix_tup (pv 0) pe_int (fun _ _ => rfl)) pa_nil)) pe_int (nomark _)) (pss_one (ps_ret (pe_op op_add_str (pe_op op_add_str pe_str (pv 2)) pe_str))) pss_nil) (pss_one (ps_ret (pv 2)))))), ?_⟩
  obtain ⟨ar, a, xs, rfl, har, ha, hx⟩ := dp_encRow hd
  have hxl : xs.length = ps.length := by rw [DpAll.len hx, List.length_map]
  refine ⟨⟨_, rfl⟩, _, rfl, ar, _, 1, _, rfl, rfl, har, atI_nat (j := 1) rfl, a, rfl, ⟨_, ha⟩, fun D hD => ?_⟩
  refine lc_it (walk_tup (xs := xs)) (fun i H' => Same H H' ∧ H' D = some (.lst ((ps.take i).map fun t => V.str (S (chT t))))) ⟨same_new hD, upd_same⟩ (fun i H' _ h => Same.spT h.1 ha) ?_ ?_
  · rintro i x H2 H3 hi ⟨s2, h2⟩ ⟨rfl, hxi⟩
    have hil : i < ps.length := by omega
    obtain ⟨v, hv, dv⟩ := DpAll.get hx (i := i) (d := encT ps[i]) (by rw [List.getElem?_map, List.getElem?_eq_getElem hil]; rfl)
    have ev : x = v := Option.some.inj (hxi.symm.trans hv)
    subst ev
    refine ⟨rfl, ?_⟩
    refine ⟨_, rfl, x, ps[i], rfl, Dp.same s2 dv, hp _ (List.getElem_mem hil), _, h2, (by rw [List.length_map, List.length_take]; exact len_lt (by omega)), same_upd s2 hD, ?_⟩
    rw [upd_same, ← take_succ_map (List.getElem?_eq_getElem hil)]
  · rintro H2 ⟨s2, h2⟩
    rw [hxl, take_all (Nat.le_refl _)] at h2
    have hrl := (row_len (g := g) h6 hp).2
    have hm : (ps.map fun t => V.str (S (chT t))) = ((ps.map chT).map S).map V.str := by rw [List.map_map, List.map_map]; rfl
    rw [hm] at h2
    have hsum : (((ps.map chT).map S).map (·.length)).sum ≤ ((ps.map chT).map S).length * 13 := sum_le fun y hy => by
      obtain ⟨u, hu, rfl⟩ := List.mem_map.mp hy
      obtain ⟨t, ht, rfl⟩ := List.mem_map.mp hu
      have := pat_len (hp t ht)
      rw [len_tl]; exact this
    rw [List.length_map, List.length_map] at hsum
    refine ⟨_, D, (ps.map chT).map S, rfl, rfl, .inl (SqL.of h2), ?_, ?_⟩
    · rw [List.length_map, List.length_map, show (Str.ofString " ").length = 1 by decide +kernel]
      omega
    · rw [joinS (sl := [32]) (by decide +kernel)]
      have hjl : (S (joinL [32] (ps.map chT))).length = (joinL [32] (ps.map chT)).length := len_tl _
      have har2 := Same.spT s2 har
      refine ⟨_, rfl, ar, _, 2, _, rfl, rfl, har2, atI_nat (j := 2) rfl, _, _, rfl, rfl, _, rfl, ?_⟩
      unfold rowL at fin
      by_cases hg0 : 0 < g
      · rw [decide_eq_true (show (0 : Int) < (g : Int) by omega)]
        rw [if_pos hg0] at fin
        refine iteT ?_
        have l1 : ∀ a b : Str, (a ++ b).length = a.length + b.length := fun a b => by rw [len_tl, len_tl, len_tl, tl_append, List.length_append]
        have e1 : (Str.ofString "<").length = 1 := by decide +kernel
        have e2 : (Str.ofString " ").length = 1 := by decide +kernel
        have e3 : (Str.ofString ">").length = 1 := by decide +kernel
        have e5 : (S [48 + g]).length = 1 := rfl
        refine ⟨_, rfl, ar, _, 2, _, rfl, rfl, har2, atI_nat (j := 2) rfl, _, rfl, log_small hg, ?_⟩
        rw [digit_str g (by omega)]
        refine ⟨_, _, rfl, rfl, (by rw [e1, e5]; decide), _, _, rfl, rfl, (by rw [l1, e1, e5, e2]; decide), _, rfl, _, _, rfl, rfl, (by rw [l1, l1, e1, e5, e2, hjl]; show _ ≤ 16777216; omega), _, _, rfl, rfl, (by rw [l1, l1, l1, e1, e5, e2, e3, hjl]; show _ ≤ 16777216; omega), ?_⟩
        rw [show Str.ofString "<" ++ S [48 + g] ++ Str.ofString " " ++ S (joinL [32] (ps.map chT)) ++ Str.ofString ">" = S (60 :: (48 + g) :: 32 :: (joinL [32] (ps.map chT) ++ [62])) from ext_tl (by
          rw [tl_append, tl_append, tl_append, tl_append, tl_S, tl_S, tl_S]; rfl)]
        exact fin H2 s2
      · rw [decide_eq_false (show ¬ (0 : Int) < (g : Int) by omega)]
        rw [if_neg hg0] at fin
        refine iteF ?_
        refine ⟨_, rfl, ar, _, 1, _, rfl, rfl, har2, atI_nat (j := 1) rfl, a, xs, rfl, .inr (Same.spT s2 ha), _, _, rfl, rfl, _, rfl, ?_⟩
        by_cases h11 : 1 < ps.length
        · rw [decide_eq_true (show (1 : Int) < (xs.length : Int) by omega)]
          rw [if_pos h11] at fin
          have l1 : ∀ a b : Str, (a ++ b).length = a.length + b.length := fun a b => by rw [len_tl, len_tl, len_tl, tl_append, List.length_append]
          have e1 : (Str.ofString "\"").length = 1 := by decide +kernel
          refine iteT ⟨_, rfl, _, _, rfl, rfl, (by rw [e1, hjl]; show _ ≤ 16777216; omega), _, _, rfl, rfl, (by rw [l1, e1, hjl]; show _ ≤ 16777216; omega), ?_⟩
          rw [show Str.ofString "\"" ++ S (joinL [32] (ps.map chT)) ++ Str.ofString "\"" = S (34 :: (joinL [32] (ps.map chT) ++ [34])) from ext_tl (by
            rw [tl_append, tl_append, tl_S, tl_S]; rfl)]
          exact fin H2 s2
        · rw [decide_eq_false (show ¬ (1 : Int) < (xs.length : Int) by omega)]
          rw [if_neg h11] at fin
          exact iteF ⟨_, rfl, fin H2 s2⟩
end

section
variable {P : Program} {w : World} {K : PySem.W.Frag} {mg : Str → Option Value} {base : Heap} {A : Nat → Addr} {D : Nat → FuncData}
theorem ok_linside (T : Txt K mg A D) (n : Nat) (G__law_written : FnOk P w K mg base CX0 (2 * n + 2) (A 40) (D 40) ["question"] (yWr K n)) : FnOk P w K mg base CX0 (2 * n + 3) (A 39) (D 39) ["question", "kinds"] (yPartT K n) := by
  refine T.F__law_inside.ok (k := 2 * n + 2) sc__law_inside (fun vs H Q E h => ?_) (fun cdv A' outer s H vs Q E hr h => ?_)
  · obtain ⟨v, q, b, kt, rfl, _⟩ := h; rfl
  obtain ⟨v, q, b, kt, rfl, hD, hn, hd, hk, fin⟩ := h
  have hnd := sc__law_inside.nd
  refine ⟨_, (pss_cons (ps_if (pt_cmpR op_in_seq (pe_ix (r := rIxT K) ix_tup (pv 0) pe_int (fun _ _ => rfl)) (pv 1) (by rfl)) (pss_one (ps_ret (pe_op op_add_str (pe_op op_add_str pe_str (pe_call G__law_written (hr.mono (by first | decide | omega)) rfl T.m__law_written T.F__law_written.kp T.b__law_written .nil pass0 (pa_cons (pv 0) pa_nil))) pe_str))) pss_nil) (pss_one (ps_ret (pe_call G__law_written (hr.mono (by first | decide | omega)) rfl T.m__law_written T.F__law_written.kp T.b__law_written .nil pass0 (pa_cons (pv 0) pa_nil))))), ?_⟩
  have hl := (wr_len hD).1
  have hp := pow_le5 hn
  have hd0 := hd
  obtain ⟨aq, us, rfl, haq⟩ := dp_head hd
  refine ⟨_, rfl, aq, _, 0, _, rfl, rfl, haq, atI_nat (j := 0) rfl, _, rfl, kt, kindsV b, rfl, hk.symm, rfl, kinds_flat b, _, rfl, ?_⟩
  rw [kd_in]
  unfold wrapL at fin
  cases hf : freeB b q with
  | true =>
    rw [if_pos hf] at fin
    exact iteF ⟨_, rfl, .ref aq, q, rfl, hD, hn, hd0, fin⟩
  | false =>
    rw [if_neg (by rw [hf]; exact Bool.false_ne_true)] at fin
    have e1 : (Str.ofString "(").length = 1 := by decide +kernel
    have e2 : (Str.ofString ")").length = 1 := by decide +kernel
    refine iteT ⟨_, rfl, .ref aq, q, rfl, hD, hn, hd0, fun H1 s1 => ⟨_, _, rfl, rfl, (by rw [e1, S_len]; show _ ≤ 16777216; omega), _, _, rfl, rfl, (by rw [str_app, e1, e2, S_len]; show _ ≤ 16777216; omega), ?_⟩⟩
    rw [paren_S]
    exact fin H1 s1
theorem ok_lwritten (T : Txt K mg A D) : ∀ n, FnOk P w K mg base CX0 (2 * n + 2) (A 40) (D 40) ["question"] (yWr K n)
  | 0 => fn_no fun vs H Q E h => by
    obtain ⟨v, q, _, h, _⟩ := h
    exact h
  | n + 1 => by
    have G__law_inside := ok_linside T n (ok_lwritten T n)
    have G__law_row := ok_lrow (P := P) (w := w) (base := base) T
    refine (T.F__law_written.ok (k := 2 * n + 3) sc__law_written (fun vs H Q E h => ?_) (fun cdv A' outer s H vs Q E hr h => ?_) : FnOk P w K mg base CX0 (2 * n + 3 + 1) _ _ _ _)
    · obtain ⟨v, q, rfl, _⟩ := h; rfl
    obtain ⟨v, q, rfl, hD, hn, hd, fin⟩ := h
    have hnd := sc__law_written.nd
    refine ⟨_, (pss_cons (ps_if (pt_cmpR op_eq (pe_ix (r := rIxT K) ix_tup (pv 0) pe_int (fun _ _ => rfl)) pe_str (nomark _)) (pss_one (ps_ret (pe_call G__law_row (hr.mono (by first | decide | omega)) rfl T.m__law_row T.F__law_row.kp T.b__law_row .nil pass0 (pa_cons (pv 0) pa_nil)))) pss_nil) (pss_cons (ps_if (pt_cmpR op_eq (pe_ix (r := rIxT K) ix_tup (pv 0) pe_int (fun _ _ => rfl)) pe_str (nomark _)) (pss_one (ps_ret pe_str)) pss_nil) (pss_cons (ps_if (pt_cmpR op_eq (pe_ix (r := rIxT K) ix_tup (pv 0) pe_int (fun _ _ => rfl)) pe_str (nomark _)) (pss_one (ps_ret (pe_op op_add_str pe_str (pe_call G__law_inside (hr.mono (by first | decide | omega)) rfl T.m__law_inside T.F__law_inside.kp T.b__law_inside .nil pass0 (pa_cons (pe_ix (r := rIxT K) ix_tup (pv 0) pe_int (fun _ _ => rfl)) (pa_cons (pe_lst (pa_cons pe_str (pa_cons pe_str pa_nil))) pa_nil)))))) pss_nil) (pss_cons (ps_if (pt_cmpR op_eq (pe_ix (r := rIxT K) ix_tup (pv 0) pe_int (fun _ _ => rfl)) pe_str (nomark _)) (pss_one (ps_ret (pe_join pe_str (pe_lc (own := [("part", 1)]) rfl hnd (pi_tup (pe_ix (r := rIxT K) ix_tup (pv 0) pe_int (fun _ _ => rfl))) (blkOk_by (own := [("part", 1)]) (N := N__law_written) (sc := defScope s__law_written) (by decide +kernel)) (fun _ _ _ _ _ => (pg_name (i := 1) hnd rfl (Or.inl rfl))) (fun _ _ _ _ _ => pts_nil) (fun _ _ _ _ _ => (pe_call G__law_inside (hr.mono (by first | decide | omega)) rfl T.m__law_inside T.F__law_inside.kp T.b__law_inside .nil pass0 (pa_cons (pv 1) (pa_cons (pe_lst (pa_cons pe_str (pa_cons pe_str pa_nil))) pa_nil)))))))) pss_nil) (pss_one (ps_ret (pe_join pe_str (pe_lc (own := [("part", 1)]) rfl hnd (pi_tup (pe_ix (r := rIxT K) ix_tup (pv 0) pe_int (fun _ _ => rfl))) (blkOk_by (own := [("part", 1)]) (N := N__law_written) (sc := defScope s__law_written) (by decide +kernel)) (fun _ _ _ _ _ => (pg_name (i := 1) hnd rfl (Or.inl rfl))) (fun _ _ _ _ _ => pts_nil) (fun _ _ _ _ _ => (pe_call G__law_inside (hr.mono (by first | decide | omega)) rfl T.m__law_inside T.F__law_inside.kp T.b__law_inside .nil pass0 (pa_cons (pv 1) (pa_cons (pe_lst (pa_cons pe_str pa_nil)) pa_nil)))))))))))), ?_⟩
    cases q with
    | all =>
      obtain ⟨aq, us, rfl, haq, hus⟩ := dp_kind (show Dp K H v (.tuple [.str "all"]) from hd)
      refine ⟨_, rfl, aq, _, 0, _, rfl, rfl, haq, atI_nat (j := 0) rfl, rfl, _, rfl, strF (by decide) ?_⟩
      refine ⟨_, rfl, aq, _, 0, _, rfl, rfl, haq, atI_nat (j := 0) rfl, rfl, _, rfl, strT ?_⟩
      exact fin H (Same.refl H)
    | row ps g =>
      obtain ⟨aq, pa, pxs, rfl, haq, hpa, hpx⟩ := dp_encRow (show Dp K H v (encRow ps g) from hd)
      obtain ⟨h1, h6, hg, hp⟩ : 1 ≤ ps.length ∧ ps.length ≤ 6 ∧ g ≤ 3 ∧ ∀ t ∈ ps, PatOK t := hD
      refine ⟨_, rfl, aq, _, 0, _, rfl, rfl, haq, atI_nat (j := 0) rfl, rfl, _, rfl, strT ?_⟩
      exact ⟨_, rfl, .ref aq, ps, g, rfl, hd, h1, h6, hg, hp, fin⟩
    | neg q =>
      obtain ⟨aq, us, rfl, haq, hus⟩ := dp_kind (show Dp K H v (.tuple [.str "not", encU q]) from hd)
      obtain ⟨v1, us2, rfl, hv1, hnil⟩ := DpAll.consI hus
      have hDq : Dl n q := hD
      have hl := (wr_len hDq).1
      have hp := pow_le5 hn
      have hp2 : 4 ^ n ≤ 1024 := pow_le5 (by omega)
      have hwl := wrapL_len true q (wrL q)
      refine ⟨_, rfl, aq, _, 0, _, rfl, rfl, haq, atI_nat (j := 0) rfl, rfl, _, rfl, strF (by decide) ?_⟩
      refine ⟨_, rfl, aq, _, 0, _, rfl, rfl, haq, atI_nat (j := 0) rfl, rfl, _, rfl, strF (by decide) ?_⟩
      refine ⟨_, rfl, aq, _, 0, _, rfl, rfl, haq, atI_nat (j := 0) rfl, rfl, _, rfl, strT ?_⟩
      refine ⟨_, rfl, aq, _, 1, _, rfl, rfl, haq, atI_nat (j := 1) rfl, (by show 2 ≤ sizeLine; decide), fun t ht => ?_⟩
      have st := same_new (o := .lst [.str "and", .str "or"]) ht
      refine ⟨v1, q, true, t, rfl, hDq, by omega, Dp.same st hv1, .inr (SqL.of upd_same), fun H2 s2 => ⟨_, _, rfl, rfl, (by rw [S_len, show (Str.ofString "-").length = 1 by decide +kernel]; show _ ≤ 16777216; omega), ?_⟩⟩
      rw [show Str.ofString "-" ++ S (wrapL true q (wrL q)) = S (45 :: wrapL true q (wrL q)) from ext_tl (by rw [tl_append, tl_S, tl_S]; rfl)]
      exact fin H2 (st.trans s2)
    | bin o qs =>
      obtain ⟨aq, us, rfl, haq, hus⟩ := dp_kind (show Dp K H v (.tuple [.str (if o = true then "or" else "and"), .tuple (encUs qs)]) from hd)
      obtain ⟨v1, us2, rfl, hv1, hnil⟩ := DpAll.consI hus
      obtain ⟨a1, xs, rfl, ha1, hxs⟩ := Dp.tupI hv1
      rw [encUs_map] at hxs
      obtain ⟨h2, h3, hq⟩ : 2 ≤ qs.length ∧ qs.length ≤ 3 ∧ ∀ q ∈ qs, Dl n q := hD
      have hxl : xs.length = qs.length := by rw [DpAll.len hxs, List.length_map]
      have hp2 : 4 ^ n ≤ 1024 := pow_le5 (by omega)
      have part : ∀ i (x : V) H3, Same H H3 → xs[i]? = some x → ∃ q, qs[i]? = some q ∧ Dp K H3 x (encU q) ∧ Dl n q := fun i x H3 k3 hx => by
        have hi := (List.getElem?_eq_some_iff.mp hx).1
        rw [hxl] at hi
        obtain ⟨v, hv, dv⟩ := DpAll.get hxs (i := i) (d := encU qs[i]) (by rw [List.getElem?_map, List.getElem?_eq_getElem hi]; rfl)
        have ev : x = v := Option.some.inj (hx.symm.trans hv)
        subst ev
        exact ⟨qs[i], List.getElem?_eq_getElem hi, Dp.same k3 dv, hq _ (List.getElem_mem hi)⟩
      refine ⟨_, rfl, aq, _, 0, _, rfl, rfl, haq, atI_nat (j := 0) rfl, rfl, _, rfl, strF (by cases o <;> decide) ?_⟩
      refine ⟨_, rfl, aq, _, 0, _, rfl, rfl, haq, atI_nat (j := 0) rfl, rfl, _, rfl, strF (by cases o <;> decide) ?_⟩
      refine ⟨_, rfl, aq, _, 0, _, rfl, rfl, haq, atI_nat (j := 0) rfl, rfl, _, rfl, strF (by cases o <;> decide) ?_⟩
      refine ⟨_, rfl, aq, _, 0, _, rfl, rfl, haq, atI_nat (j := 0) rfl, rfl, _, rfl, ?_⟩
      rw [strDec]
      have ends : ∀ (D2 : Addr) (H2 : Hp), H2 D2 = some (.lst ((qs.take xs.length).map fun q => V.str (S (wrapL (!o) q (wrL q))))) → H2 D2 = some (.lst (((wrLs o qs).map S).map V.str)) ∧ (((wrLs o qs).map S).map (·.length)).sum ≤ 3 * 110000 ∧ ((wrLs o qs).map S).length ≤ 3 := fun D2 H2 h => by
        rw [hxl, take_all (Nat.le_refl _)] at h
        rw [wrLs_map]
        refine ⟨?_, ?_, by rw [List.length_map, List.length_map]; omega⟩
        · rw [h, List.map_map, List.map_map]; rfl
        · have : (((qs.map fun q => wrapL (!o) q (wrL q)).map S).map (·.length)).sum ≤ ((qs.map fun q => wrapL (!o) q (wrL q)).map S).length * 110000 := sum_le fun y hy => by
            obtain ⟨u, hu, rfl⟩ := List.mem_map.mp hy
            obtain ⟨q, hm, rfl⟩ := List.mem_map.mp hu
            have h1 := (wr_len (hq q hm)).1
            have h2 := wrapL_len (!o) q (wrL q)
            rw [S_len]; omega
          rw [List.length_map, List.length_map] at this
          exact Nat.le_trans this (Nat.mul_le_mul_right _ h3)
      cases o with
      | false =>
        refine iteT ?_
        refine ⟨⟨_, rfl⟩, _, rfl, aq, _, 1, _, rfl, rfl, haq, atI_nat (j := 1) rfl, a1, rfl, ⟨_, ha1⟩, fun D hD => ?_⟩
        refine lc_it (walk_tup (xs := xs)) (fun i H' => Same H H' ∧ H' D = some (.lst ((qs.take i).map fun q => V.str (S (wrapL true q (wrL q)))))) ⟨same_new hD, upd_same⟩ (fun i H' _ h => Same.spT h.1 ha1) ?_ ?_
        · rintro i x H2 H3 hi ⟨s2, h2⟩ ⟨rfl, hxi⟩
          obtain ⟨q, hqi, dq, hDq⟩ := part i x H3 s2 hxi
          refine ⟨rfl, ?_⟩
          refine ⟨_, rfl, (by show 2 ≤ sizeLine; decide), fun t ht => ?_⟩
          have st := same_new (o := .lst [.str "and", .str "or"]) ht
          refine ⟨x, q, true, t, rfl, hDq, by omega, Dp.same st dq, .inr (SqL.of upd_same), fun H4 s4 => ⟨_, (st.trans s4) _ _ h2, (by rw [List.length_map, List.length_take]; exact len_lt (by omega)), same_upd (s2.trans (st.trans s4)) hD, ?_⟩⟩
          rw [upd_same, ← take_succ_map hqi]
        · rintro H2 ⟨s2, h2⟩
          obtain ⟨e1, e2, e3⟩ := ends D H2 h2
          refine ⟨_, D, _, rfl, rfl, .inl (SqL.of e1), ?_, ?_⟩
          · exact Nat.le_trans (Nat.add_le_add e2 (Nat.mul_le_mul_right _ e3)) (by decide +kernel)
          · rw [joinS (sl := [32]) (by decide +kernel)]
            exact fin H2 s2
      | true =>
        refine iteF ?_
        refine ⟨⟨_, rfl⟩, _, rfl, aq, _, 1, _, rfl, rfl, haq, atI_nat (j := 1) rfl, a1, rfl, ⟨_, ha1⟩, fun D hD => ?_⟩
        refine lc_it (walk_tup (xs := xs)) (fun i H' => Same H H' ∧ H' D = some (.lst ((qs.take i).map fun q => V.str (S (wrapL false q (wrL q)))))) ⟨same_new hD, upd_same⟩ (fun i H' _ h => Same.spT h.1 ha1) ?_ ?_
        · rintro i x H2 H3 hi ⟨s2, h2⟩ ⟨rfl, hxi⟩
          obtain ⟨q, hqi, dq, hDq⟩ := part i x H3 s2 hxi
          refine ⟨rfl, ?_⟩
          refine ⟨_, rfl, (by show 1 ≤ sizeLine; decide), fun t ht => ?_⟩
          have st := same_new (o := .lst [.str "or"]) ht
          refine ⟨x, q, false, t, rfl, hDq, by omega, Dp.same st dq, .inr (SqL.of upd_same), fun H4 s4 => ⟨_, (st.trans s4) _ _ h2, (by rw [List.length_map, List.length_take]; exact len_lt (by omega)), same_upd (s2.trans (st.trans s4)) hD, ?_⟩⟩
          rw [upd_same, ← take_succ_map hqi]
        · rintro H2 ⟨s2, h2⟩
          obtain ⟨e1, e2, e3⟩ := ends D H2 h2
          refine ⟨_, D, _, rfl, rfl, .inl (SqL.of e1), ?_, ?_⟩
          · exact Nat.le_trans (Nat.add_le_add e2 (Nat.mul_le_mul_right _ e3)) (by decide +kernel)
          · rw [joinS (sl := [32, 124, 32]) (by decide +kernel)]
            exact fin H2 s2
end

theorem sub_len : ∀ q : Qu, (subsR q).length = 1 + ((partsU q).map fun q => (subsR q).length).sum := fun q => by
  rw [subsR_eq, List.length_cons, List.length_flatMap, List.map_reverse, List.sum_reverse, Nat.add_comm]
def yLSize (K : PySem.W.Frag) (n : Nat) : Sp := fun vs H Q _ => ∃ (v : V) (q : Qu), vs = [v] ∧ Dl n q ∧ n ≤ 5 ∧ Dp K H v (encU q) ∧ ∀ H', Same H H' → Q (.int ((subsR q).length : Int)) H'
theorem sum_ints (l : List Nat) : (l.map fun (n : Nat) => (n : Int)).sum = ((l.sum : Nat) : Int) := by
  induction l with
  | nil => rfl
  | cons a r ih => rw [List.map_cons, List.sum_cons, ih, List.sum_cons]; omega
section
variable {P : Program} {w : World} {K : PySem.W.Frag} {mg : Str → Option Value} {base : Heap} {A : Nat → Addr} {D : Nat → FuncData}
theorem ok_lsize (T : Txt K mg A D) : ∀ n, FnOk P w K mg base CX0 (n + 1) (A 36) (D 36) ["question"] (yLSize K n)
  | 0 => fn_no fun vs H Q E h => by
    obtain ⟨v, q, _, h, _⟩ := h
    exact h
  | n + 1 => by
    have G__law_size := ok_lsize T n
    refine (T.F__law_size.ok (k := n + 1) sc__law_size (fun vs H Q E h => ?_) (fun cdv A' outer s H vs Q E hr h => ?_) : FnOk P w K mg base CX0 (n + 1 + 1) _ _ _ _)
    · obtain ⟨v, q, rfl, _⟩ := h; rfl
    obtain ⟨v, q, rfl, hD, hn, hd, fin⟩ := h
    have hnd := sc__law_size.nd
    refine ⟨_, (pss_cons (ps_if (pt_cmpR op_eq (pe_ix (r := rIxT K) ix_tup (pv 0) pe_int (fun _ _ => rfl)) pe_str (nomark _)) (pss_one (ps_ret (pe_op op_add pe_int (pe_call G__law_size (hr.mono (by first | decide | omega)) rfl T.m__law_size T.F__law_size.kp T.b__law_size .nil pass0 (pa_cons (pe_ix (r := rIxT K) ix_tup (pv 0) pe_int (fun _ _ => rfl)) pa_nil))))) pss_nil) (pss_cons (ps_if (pt_cmpR op_in_seq (pe_ix (r := rIxT K) ix_tup (pv 0) pe_int (fun _ _ => rfl)) (pe_lst (pa_cons pe_str (pa_cons pe_str pa_nil))) (by rfl)) (pss_one (ps_ret (pe_op op_add pe_int (pe_callB (cr_sum rfl) rfl T.z_sum (by decide +kernel) (pa_cons (pe_lc (own := [("part", 1)]) rfl hnd (pi_tup (pe_ix (r := rIxT K) ix_tup (pv 0) pe_int (fun _ _ => rfl))) (blkOk_by (own := [("part", 1)]) (N := N__law_size) (sc := defScope s__law_size) (by decide +kernel)) (fun _ _ _ _ _ => (pg_name (i := 1) hnd rfl (Or.inl rfl))) (fun _ _ _ _ _ => pts_nil) (fun _ _ _ _ _ => (pe_call G__law_size (hr.mono (by first | decide | omega)) rfl T.m__law_size T.F__law_size.kp T.b__law_size .nil pass0 (pa_cons (pv 1) pa_nil)))) pa_nil))))) pss_nil) (pss_one (ps_ret pe_int)))), ?_⟩
    cases q with
    | all =>
      obtain ⟨aq, us, rfl, haq, hus⟩ := dp_kind (show Dp K H v (.tuple [.str "all"]) from hd)
      refine ⟨_, rfl, aq, _, 0, _, rfl, rfl, haq, atI_nat (j := 0) rfl, rfl, _, rfl, strF (by decide) ?_⟩
      refine ⟨_, rfl, aq, _, 0, _, rfl, rfl, haq, atI_nat (j := 0) rfl, (by show 2 ≤ sizeLine; decide), fun t ht => ⟨t, kindsV true, rfl, .inl (SqL.of upd_same), rfl, rfl, _, rfl, ?_⟩⟩
      rw [show inV (V.str (Str.ofString "all")) (kindsV true) = false from rfl]
      exact iteF (fin _ (same_new ht))
    | row ps g =>
      obtain ⟨aq, pa, pxs, rfl, haq, hpa, hpx⟩ := dp_encRow (show Dp K H v (encRow ps g) from hd)
      refine ⟨_, rfl, aq, _, 0, _, rfl, rfl, haq, atI_nat (j := 0) rfl, rfl, _, rfl, strF (by decide) ?_⟩
      refine ⟨_, rfl, aq, _, 0, _, rfl, rfl, haq, atI_nat (j := 0) rfl, (by show 2 ≤ sizeLine; decide), fun t ht => ⟨t, kindsV true, rfl, .inl (SqL.of upd_same), rfl, rfl, _, rfl, ?_⟩⟩
      rw [show inV (V.str (Str.ofString "row")) (kindsV true) = false from rfl]
      exact iteF (fin _ (same_new ht))
    | neg q =>
      obtain ⟨aq, us, rfl, haq, hus⟩ := dp_kind (show Dp K H v (.tuple [.str "not", encU q]) from hd)
      obtain ⟨v1, us2, rfl, hv1, hnil⟩ := DpAll.consI hus
      refine ⟨_, rfl, aq, _, 0, _, rfl, rfl, haq, atI_nat (j := 0) rfl, rfl, _, rfl, strT ?_⟩
      refine ⟨_, rfl, aq, _, 1, _, rfl, rfl, haq, atI_nat (j := 1) rfl, v1, q, rfl, hD, by omega, hv1, fun H2 s2 => ⟨_, _, rfl, rfl, ?_⟩⟩
      have e : (1 : Int) + ((subsR q).length : Int) = ((subsR (.neg q)).length : Int) := by
        show _ = (((subsR q).length + 1 : Nat) : Int)
        omega
      show Q (.int (1 + ((subsR q).length : Int))) H2
      rw [e]
      exact fin _ s2
    | bin o qs =>
      obtain ⟨aq, us, rfl, haq, hus⟩ := dp_kind (show Dp K H v (.tuple [.str (if o = true then "or" else "and"), .tuple (encUs qs)]) from hd)
      obtain ⟨v1, us2, rfl, hv1, hnil⟩ := DpAll.consI hus
      obtain ⟨a1, xs, rfl, ha1, hxs⟩ := Dp.tupI hv1
      rw [encUs_map] at hxs
      obtain ⟨h2, h3, hq⟩ : 2 ≤ qs.length ∧ qs.length ≤ 3 ∧ ∀ q ∈ qs, Dl n q := hD
      have hxl : xs.length = qs.length := by rw [DpAll.len hxs, List.length_map]
      refine ⟨_, rfl, aq, _, 0, _, rfl, rfl, haq, atI_nat (j := 0) rfl, rfl, _, rfl, strF (by cases o <;> decide) ?_⟩
      refine ⟨_, rfl, aq, _, 0, _, rfl, rfl, haq, atI_nat (j := 0) rfl, (by show 2 ≤ sizeLine; decide), fun t ht => ⟨t, kindsV true, rfl, .inl (SqL.of upd_same), rfl, rfl, _, rfl, ?_⟩⟩
      rw [show inV (V.str (if o = true then Str.ofString "or" else Str.ofString "and")) (kindsV true) = true by cases o <;> rfl]
      have st := same_new (o := .lst [.str "and", .str "or"]) ht
      refine iteT ⟨_, rfl, aq, _, 1, _, rfl, rfl, Same.spT st haq, atI_nat (j := 1) rfl, a1, rfl, ⟨_, Same.spT st ha1⟩, fun D hD => ?_⟩
      refine lc_it (walk_tup (xs := xs)) (fun i H' => Same H H' ∧ H' D = some (.lst ((qs.take i).map fun q => V.int ((subsR q).length : Int)))) ⟨st.trans (same_new hD), upd_same⟩ (fun i H' _ h => Same.spT h.1 ha1) ?_ ?_
      · rintro i x H2 H3 hi ⟨s2, h2⟩ ⟨rfl, hxi⟩
        have hil : i < qs.length := by omega
        obtain ⟨v, hv, dv⟩ := DpAll.get hxs (i := i) (d := encU qs[i]) (by rw [List.getElem?_map, List.getElem?_eq_getElem hil]; rfl)
        have ev : x = v := Option.some.inj (hxi.symm.trans hv)
        subst ev
        refine ⟨rfl, ?_⟩
        refine ⟨_, rfl, x, qs[i], rfl, hq _ (List.getElem_mem hil), by omega, Dp.same s2 dv, fun H4 s4 => ⟨_, s4 _ _ h2, (by rw [List.length_map, List.length_take]; exact len_lt (by omega)), same_upd (s2.trans s4) (st.free hD), ?_⟩⟩
        rw [upd_same, ← take_succ_map (List.getElem?_eq_getElem hil)]
      · rintro H2 ⟨s2, h2⟩
        rw [hxl, take_all (Nat.le_refl _)] at h2
        have em : (qs.map fun q => V.int ((subsR q).length : Int)) = ((qs.map fun q => (subsR q).length).map fun (n : Nat) => (n : Int)).map V.int := by rw [List.map_map, List.map_map]; rfl
        rw [em] at h2
        refine ⟨D, _, rfl, SqL.of h2, _, _, rfl, rfl, ?_⟩
        rw [sum_ints]
        have e : (1 : Int) + (((qs.map fun q => (subsR q).length).sum : Nat) : Int) = ((subsR (.bin o qs)).length : Int) := by
          rw [sub_len (.bin o qs)]
          show _ = ((1 + (qs.map fun q => (subsR q).length).sum : Nat) : Int)
          omega
        show Q (.int (1 + (((qs.map fun q => (subsR q).length).sum : Nat) : Int))) H2
        rw [e]
        exact fin _ s2
theorem ok_ldepth (T : Txt K mg A D) : FnOk P w K mg base CX0 1 (A 37) (D 37) ["texts"] (fun vs H Q _ => ∃ (p : Addr) (u : List Pat), vs = [.ref p] ∧ H p = some (.lst (txV u)) ∧ ∀ z : Int, Q (.int z) H) := by
  refine T.F__law_depth.ok sc__law_depth (fun vs H Q E h => ?_) (fun cdv A' outer s H vs Q E hr h => ?_)
  · obtain ⟨p, u, rfl, _⟩ := h; rfl
  obtain ⟨p, u, rfl, hp, fin⟩ := h
  have hnd := sc__law_depth.nd
  refine ⟨_, (pss_cons (ps_set (i := 1) hnd rfl (Or.inl rfl) pe_int) (pss_cons (ps_set (i := 2) hnd rfl (Or.inl rfl) pe_int) (pss_cons (ps_for PassesOwn.never rfl (pi_list (pv 0)) (pg_name (i := 3) hnd rfl (Or.inl rfl)) (pss_cons (ps_set (i := 1) hnd rfl (Or.inl rfl) (pe_op op_sub (pe_op op_add (pv 1) (pe_callTy call_int1 rfl T.z_int (by decide +kernel) (pa_cons (pe_cmpR op_eq (pv 3) pe_str (nomark _)) pa_nil))) (pe_callTy call_int1 rfl T.z_int (by decide +kernel) (pa_cons (pe_cmpR op_eq (pv 3) pe_str (nomark _)) pa_nil)))) (pss_one (ps_set (i := 2) hnd rfl (Or.inl rfl) (pe_callB (call_max2 rfl) rfl T.z_max (by decide +kernel) (pa_cons (pv 2) (pa_cons (pv 1) pa_nil))))))) (pss_one (ps_ret (pv 2)))))), ?_⟩
  refine ⟨_, rfl, p, rfl, ⟨_, SqL.of hp⟩, ?_⟩
  refine for_list (xs := txV u) (fun i σ H' => ∃ (a b : Int) (c : Option V), σ = [some (.ref p), some (.int a), some (.int b), c] ∧ H' = H) ⟨0, 0, _, rfl, rfl⟩ (fun i σ H' _ h => by obtain ⟨_, _, _, _, rfl⟩ := h; exact SqL.of hp) ?_ ?_
  · rintro i x σ H2 hi ⟨a, b, c, rfl, rfl⟩
    obtain ⟨y, rfl⟩ : ∃ y, x = V.str y := by
      unfold txV at hi
      rw [List.getElem?_map] at hi
      obtain ⟨t, _, rfl⟩ := Option.map_eq_some_iff.mp hi
      exact ⟨_, rfl⟩
    refine ⟨_, rfl, _, rfl, rfl, .inr ⟨_, rfl, _, _, rfl, rfl, _, rfl, rfl, .inr ⟨_, rfl, _, _, rfl, rfl, ?_⟩⟩⟩
    exact ⟨_, rfl, _, rfl, _, _, rfl, _, _, _, rfl, rfl⟩
  · rintro σ H2 ⟨a, b, c, rfl, rfl⟩
    exact ⟨_, rfl, fin b⟩
end

theorem fn_any {P : Program} {w : World} {K : PySem.W.Frag} {mg : Str → Option Value} {base : Heap} {CX : CXT} {k m : Nat} {f : Addr} {fd : FuncData} {ps : List Str} {sp : Nat → Sp} {lv : Nat → Nat} (F : ∀ n, FnOk P w K mg base CX (lv n) f fd ps (sp n)) (hl : ∀ n, n ≤ m → lv n ≤ k) :
    FnOk P w K mg base CX k f fd ps (fun vs H Q E => ∃ n, n ≤ m ∧ sp n vs H Q E) :=
  ⟨fun vs H Q E ⟨n, _, h⟩ => (F n).len vs H Q E h, fun A outer s H args us vs Q E hr e0 hb hv ⟨n, hn, h⟩ => (F n).run A outer s H args us vs Q E (hr.mono (hl n hn)) e0 hb hv h⟩

theorem fits_str {n : Nat} {z : Str} : Fits (n + 1) (.str z) := True.intro
theorem fits_encT {n : Nat} (t : Str × Str) : Fits (n + 2) (encT t) := ⟨(show 2 < 2 ^ 60 by decide), fun x hx => by
  rcases List.mem_cons.mp hx with rfl | hx
  · exact fits_str
  · rw [List.mem_singleton.mp hx]; exact fits_str⟩
theorem fits_mono : ∀ {n : Nat} {d : PyData}, Fits n d → Fits (n + 1) d
  | 0, _, h => h.elim
  | n + 1, .list xs, h => ⟨h.1, fun x hx => fits_mono (h.2 x hx)⟩
  | n + 1, .tuple xs, h => ⟨h.1, fun x hx => fits_mono (h.2 x hx)⟩
  | n + 1, .dict _, h => h.elim
  | n + 1, .none, h => h
  | n + 1, .bool _, h => h
  | n + 1, .int _, h => h
  | n + 1, .str _, h => h
theorem fits_pats {n : Nat} {ps : List Pat} (h : ps.length ≤ 100) : Fits (n + 3) (encPs ps) := ⟨by rw [List.length_map]; omega, fun x hx => by
  obtain ⟨t, _, rfl⟩ := List.mem_map.mp hx
  exact fits_encT t⟩
theorem fits_int {n : Nat} {z : Int} : Fits (n + 1) (.int z) := True.intro
theorem fits_two {n : Nat} {a b : PyData} (ha : Fits n a) (hb : Fits n b) : Fits (n + 1) (.tuple [a, b]) := ⟨(show 2 < 2 ^ 60 by decide), fun x hx => by
  rcases List.mem_cons.mp hx with rfl | hx
  · exact ha
  · rw [List.mem_singleton.mp hx]; exact hb⟩
theorem fits_dl : ∀ {n : Nat} {q : Qu}, Dl n q → Fits (2 * n + 4) (encU q)
  | 0, _, h => h.elim
  | n + 1, .all, _ => ⟨(show 1 < 2 ^ 60 by decide), fun x hx => by rw [List.mem_singleton.mp hx]; exact fits_str⟩
  | n + 1, .row ps g, h => by
    obtain ⟨h1, h6, hg, hp⟩ : 1 ≤ ps.length ∧ ps.length ≤ 6 ∧ g ≤ 3 ∧ ∀ t ∈ ps, PatOK t := h
    refine ⟨(show 3 < 2 ^ 60 by decide), fun x hx => ?_⟩
    rcases List.mem_cons.mp hx with rfl | hx
    · exact fits_str
    · rcases List.mem_cons.mp hx with rfl | hx
      · exact fits_pats (n := 2 * n + 2) (by omega)
      · rw [List.mem_singleton.mp hx]; exact fits_int
  | n + 1, .neg q, h => fits_two (n := 2 * n + 5) fits_str (by
      have i := fits_dl (show Dl n q from h)
      exact fits_mono i)
  | n + 1, .bin o qs, h => by
    obtain ⟨h2, h3, hq⟩ : 2 ≤ qs.length ∧ qs.length ≤ 3 ∧ ∀ q ∈ qs, Dl n q := h
    refine fits_two (n := 2 * n + 5) fits_str ⟨by rw [encUs_map, List.length_map]; omega, fun x hx => ?_⟩
    rw [encUs_map] at hx
    obtain ⟨q, hm, rfl⟩ := List.mem_map.mp hx
    exact fits_dl (hq q hm)
theorem fits_le {n m : Nat} {d : PyData} (h : Fits n d) (hm : n ≤ m) : Fits m d := by
  obtain ⟨k, rfl⟩ : ∃ k, m = n + k := ⟨m - n, by omega⟩
  clear hm
  induction k with
  | zero => exact h
  | succ k ih => exact fits_mono ih
section
variable {P : Program} {w : World} {K : PySem.W.Frag} {mg : Str → Option Value} {base : Heap} {A : Nat → Addr} {D : Nat → FuncData}
theorem ok_law (T : Txt K mg A D) : FnOk P w K mg base CX0 42 (A 41) (D 41) ["script"] (ySpLaw K) := by
  refine T.F_law.ok (k := 41) sc_law (fun vs H Q E h => ?_) (fun cdv A' outer s H vs Q E hr h => ?_)
  · obtain ⟨a, ns, rfl, _⟩ := h; rfl
  obtain ⟨a, ns, rfl, hS, hn, fin⟩ := h
  have hnd := sc_law.nd
  have G__law_draw := ok_draw (P := P) (w := w) (base := base) T
  have G__law_digits := ok_digits (P := P) (w := w) (base := base) T
  have G__law_same := ok_same (P := P) (w := w) (base := base) T 12
  have G__law_question := fn_any (m := 4) (k := 7) (ok_lquestion (P := P) (w := w) (base := base) T) (fun n hn => by omega)
  have G_write_question := fn_any (m := 4) (k := 10) (ok_write_question (P := P) (w := w) (base := base) T) (fun n hn => by omega)
  have G__law_written := fn_any (m := 4) (k := 10) (ok_lwritten (P := P) (w := w) (base := base) T) (fun n hn => by omega)
  have G__law_texts := fn_any (m := 4) (k := 10) (ok_ltexts (P := P) (w := w) (base := base) T) (fun n hn => by omega)
  have G__law_size := fn_any (m := 4) (k := 5) (ok_lsize (P := P) (w := w) (base := base) T) (fun n hn => by omega)
  have G__law_depth := ok_ldepth (P := P) (w := w) (base := base) T
  have G_read_question := ok_read_question (P := P) (w := w) (base := base) T
  refine ⟨_, (pss_cons (ps_set (i := 1) hnd rfl (Or.inl rfl) (pe_lst (pa_cons (pe_call G__law_digits (hr.mono (by first | decide | omega)) rfl T.m__law_digits T.F__law_digits.kp T.b__law_digits .nil pass0 (pa_cons (pv 0) (pa_cons pe_int (pa_cons pe_int pa_nil)))) (pa_cons pe_int pa_nil)))) (pss_cons (ps_set (i := 2) hnd rfl (Or.inl rfl) (pe_call G__law_question (hr.mono (by first | decide | omega)) rfl T.m__law_question T.F__law_question.kp T.b__law_question .nil pass0 (pa_cons (pv 1) (pa_cons (pe_op op_add pe_int (pe_call G__law_draw (hr.mono (by first | decide | omega)) rfl T.m__law_draw T.F__law_draw.kp T.b__law_draw .nil pass0 (pa_cons (pv 1) (pa_cons pe_int pa_nil)))) (pa_cons pe_bl pa_nil))))) (pss_cons (ps_set (i := 3) hnd rfl (Or.inl rfl) (pe_call G_write_question (hr.mono (by first | decide | omega)) rfl T.m_write_question T.F_write_question.kp T.b_write_question .nil pass0 (pa_cons (pv 2) pa_nil))) (pss_cons (ps_if (pt_not (pt_val (pe_call G__law_same (hr.mono (by first | decide | omega)) rfl T.m__law_same T.F__law_same.kp T.b__law_same .nil pass0 (pa_cons (pv 3) (pa_cons (pe_call G__law_written (hr.mono (by first | decide | omega)) rfl T.m__law_written T.F__law_written.kp T.b__law_written .nil pass0 (pa_cons (pv 2) pa_nil)) pa_nil))))) (pss_one (ps_ret pe_bl)) pss_nil) (pss_cons (ps_if (PW.pt (pw_or (pt_cmpR op_gt (pe_call G__law_size (hr.mono (by first | decide | omega)) rfl T.m__law_size T.F__law_size.kp T.b__law_size .nil pass0 (pa_cons (pv 2) pa_nil)) pe_int (nomark _)) (pw_or1 (pt_cmpR op_gt (pe_call G__law_depth (hr.mono (by first | decide | omega)) rfl T.m__law_depth T.F__law_depth.kp T.b__law_depth .nil pass0 (pa_cons (pe_call G__law_texts (hr.mono (by first | decide | omega)) rfl T.m__law_texts T.F__law_texts.kp T.b__law_texts .nil pass0 (pa_cons (pv 2) pa_nil)) pa_nil)) pe_int (nomark _))))) (pss_one (ps_ret pe_bl)) pss_nil) (pss_one (ps_try_as (i := 4) (tb := fun W => tRet (tCall (ySame K 12) [] E0 (tCons (tCallS _ (WE W) (tCons (tVar 3) tNil)) (tCons (tVar 2) tNil)))) (ts := fun a cls d => tRet (tC (.bl false))) (Wout := fun _ _ _ _ => False) rfl rfl hnd rfl rfl ⟨rfl, by decide, Or.inl T.gC_QuestionFault⟩ takes0 (fun W pn xe tk _ => pss_one (ps_ret (by exact (pe_call G__law_same (hr.mono (by decide)) rfl T.m__law_same T.F__law_same.kp T.b__law_same .nil pass0 (pa_cons (pe_callS G_read_question (hr.mono (by decide)) rfl T.m_read_question T.F_read_question.kp T.b_read_question (fun σ => passAt tk σ) (pa_cons (pv 3) pa_nil)) (pa_cons (pv 2) pa_nil)))))) (fun a oe cls d pn hz hf => pss_one (ps_ret (by exact pe_bl)))))))))), ?_⟩
  refine ⟨_, rfl, a, ns, rfl, hS, fun p ds H1 s1 hp0 hp1 hl => ⟨(by show 2 ≤ sizeLine; decide), fun b hb => ?_⟩⟩
  have B1 := box_new hp1 hb
  refine ⟨_, rfl, _, rfl, b, p, 3, rfl, B1, (by decide), fun r1 H2 h10 h11 B2 k2 => ⟨_, _, rfl, rfl, ?_⟩⟩
  obtain ⟨e, he⟩ := Int.eq_ofNat_of_zero_le (show 0 ≤ 1 + r1 by omega)
  have ev : [V.ref b, V.int (1 + r1), V.bl false] = [V.ref b, V.int (e : Int), V.bl false] := by rw [he]
  refine ⟨e + 1, by omega, b, p, ev, B2, fun vq H3 q ok dq B3 k3 => ?_⟩
  have hl := wr_len ok
  have hpw : 4 ^ (e + 1) ≤ 256 := by
    have : ∀ n : Nat, n ≤ 4 → 4 ^ n ≤ 256 := by decide +kernel
    exact this _ (by omega)
  refine ⟨_, rfl, e + 1, by omega, vq, q, rfl, ok, by omega, dq, fun H4 s4 => ?_⟩
  have dq4 := Dp.same s4 dq
  refine ⟨_, rfl, _, rfl, e + 1, by omega, vq, q, rfl, ok, by omega, dq4, fun H5 s5 => ⟨.str _, .str _, .str _, rfl, .str _, .str _, fits_str, _, rfl, iteF ?_⟩⟩
  have dq5 := Dp.same s5 dq4
  refine ⟨_, rfl, e + 1, by omega, vq, q, rfl, ok, by omega, dq5, fun H6 s6 => ⟨_, _, rfl, rfl, _, rfl, ?_⟩⟩
  have dq6 := Dp.same s6 dq5
  refine ite2 (fun _ => fin _) (fun c => ?_)
  have c' : ¬ (24 : Int) < ((subsR q).length : Int) := fun z => c (decide_eq_true z)
  refine ⟨_, rfl, e + 1, by omega, vq, q, rfl, ok, by omega, dq6, fun p7 H7 s7 h7 => ⟨p7, _, rfl, h7, fun z => ⟨_, _, rfl, rfl, _, rfl, ?_⟩⟩⟩
  refine ite2 (fun _ => fin _) (fun _ => ?_)
  have dq7 := Dp.same s7 dq6
  refine ⟨_, rfl, S (wrL q), tkU q, .ok q (tkU q).length, rfl, by rw [S_len]; omega, toks_wr ok, tkOK_wf (by omega) (tk_ok ok), ⟨_, (wr_tk ok 6 (by omega)).whole (by omega), fun q2 b2 e2 => ?_, ?_⟩, fun v H8 s8 dv => ?_⟩
  · injection e2 with e2 _
    rw [← e2]; omega
  · show _ = if 24 < (subsR q).length then _ else _
    rw [if_neg (by omega)]
  · exact ⟨_, rfl, v, vq, encU q, rfl, dv, Dp.same s8 dq7, fits_le (fits_dl ok) (by omega), fin _⟩
end

theorem all_mk {l : PySem.W.OpenLaw} {w : World} {K : PySem.W.Frag} {h : Heap} {mg : Str → Option Value} {fa f0 f1 f2 f3 f4 f5 f6 f7 f8 f9 f10 f11 f12 f13 f14 f15 f16 f17 f18 f19 f20 f21 f22 f23 f24 f25 f26 f27 f28 f29 f30 f31 f32 f33 f34 f35 f36 f37 f38 f39 f40 f41 : Addr} (X : K.In h) (G : h.Ns mainGlobals mg) (hfa : mg "law" = some (.ref fa))
    {od0 od1 od2 od3 od4 od5 od6 od7 od8 od9 od10 od11 od12 od13 od14 od15 od16 od17 od18 od19 od20 od21 od22 od23 od24 od25 od26 od27 od28 od29 od30 od31 od32 od33 od34 od35 od36 od37 od38 od39 od40 od41 an0 an1 an2 an3 an4 an5 an6 an7 an8 an9 an10 an11 an12 an13 an14 an15 an16 an17 an18 an19 an20 an21 an22 an23 an24 an25 an26 an27 an28 an29 an30 an31 an32 an33 an34 an35 an36 an37 an38 an39 an40 an41 : Option Addr} {sl0 sl1 sl2 sl3 sl4 sl5 sl6 sl7 sl8 sl9 sl10 sl11 sl12 sl13 sl14 sl15 sl16 sl17 sl18 sl19 sl20 sl21 sl22 sl23 sl24 sl25 sl26 sl27 sl28 sl29 sl30 sl31 sl32 sl33 sl34 sl35 sl36 sl37 sl38 sl39 sl40 sl41 : Array (Option Value)} {oc0 oc1 oc2 oc3 oc4 oc5 oc6 oc7 oc8 oc9 oc10 oc11 oc12 oc13 oc14 oc15 oc16 oc17 oc18 oc19 oc20 oc21 oc22 oc23 oc24 oc25 oc26 oc27 oc28 oc29 oc30 oc31 oc32 oc33 oc34 oc35 oc36 oc37 oc38 oc39 oc40 oc41 kV0 kV1 kV2 kV3 kV4 kV5 kV6 kV7 kV8 kV9 kV10 kV11 kV12 kV13 kV14 kV15 kV16 kV17 kV18 kV19 kV20 kV21 kV22 kV23 kV24 kV25 kV26 kV27 kV28 kV29 kV30 kV31 kV32 kV33 kV34 kV35 kV36 kV37 kV38 kV39 kV40 kV41 dc0 dc1 dc2 dc3 dc4 dc5 dc6 dc7 dc8 dc9 dc10 dc11 dc12 dc13 dc14 dc15 dc16 dc17 dc18 dc19 dc20 dc21 dc22 dc23 dc24 dc25 dc26 dc27 dc28 dc29 dc30 dc31 dc32 dc33 dc34 dc35 dc36 dc37 dc38 dc39 dc40 dc41 pm0 pm1 pm2 pm3 pm4 pm5 pm6 pm7 pm8 pm9 pm10 pm11 pm12 pm13 pm14 pm15 pm16 pm17 pm18 pm19 pm20 pm21 pm22 pm23 pm24 pm25 pm26 pm27 pm28 pm29 pm30 pm31 pm32 pm33 pm34 pm35 pm36 pm37 pm38 pm39 pm40 pm41 cd0 cd1 cd2 cd3 cd4 cd5 cd6 cd7 cd8 cd9 cd10 cd11 cd12 cd13 cd14 cd15 cd16 cd17 cd18 cd19 cd20 cd21 cd22 cd23 cd24 cd25 cd26 cd27 cd28 cd29 cd30 cd31 cd32 cd33 cd34 cd35 cd36 cd37 cd38 cd39 cd40 cd41 ct0 ct1 ct2 ct3 ct4 ct5 ct6 ct7 ct8 ct9 ct10 ct11 ct12 ct13 ct14 ct15 ct16 ct17 ct18 ct19 ct20 ct21 ct22 ct23 ct24 ct25 ct26 ct27 ct28 ct29 ct30 ct31 ct32 ct33 ct34 ct35 ct36 ct37 ct38 ct39 ct40 ct41 : Value} {t0 t1 t2 t3 t4 t5 t6 : Tok} {C1 fi1 Nx1 : Addr} {nm1 qx1 : Str} {bs1 sub1 : List Value} {bm1 : List Value} {sn1 : List Str} {ab1 : Bool} {col1 : Option Bool} {dd1 odi1 ani1 : Option Addr} {m01 m11 m21 m31 m51 : Option Value} {sli1 : Array (Option Value)} {oci1 kVi1 dci1 pmi1 cdi1 cti1 : Value}
    (a0 : PySem.W.nsIn K mainGlobals "write_question" = some (some (.ref f0))) (l0 : K.lookup f0 = some ⟨oc0, od0, .func (PySem.W.fnOf "write_question" "write_question" (defArgs s_write_question) (defBody s_write_question) (defScope s_write_question) .none kV0 dc0 pm0 an0 cd0 ct0), sl0⟩) (c0 : PySem.W.codeIn K cd0 "write_question" = true) (k0 : PySem.W.keepIn K (.ref f0) = true)
    (a1 : PySem.W.nsIn K mainGlobals "part_text" = some (some (.ref f1))) (l1 : K.lookup f1 = some ⟨oc1, od1, .func (PySem.W.fnOf "part_text" "part_text" (defArgs s_part_text) (defBody s_part_text) (defScope s_part_text) .none kV1 dc1 pm1 an1 cd1 ct1), sl1⟩) (c1 : PySem.W.codeIn K cd1 "part_text" = true) (k1 : PySem.W.keepIn K (.ref f1) = true)
    (a2 : PySem.W.nsIn K mainGlobals "row_text" = some (some (.ref f2))) (l2 : K.lookup f2 = some ⟨oc2, od2, .func (PySem.W.fnOf "row_text" "row_text" (defArgs s_row_text) (defBody s_row_text) (defScope s_row_text) .none kV2 dc2 pm2 an2 cd2 ct2), sl2⟩) (c2 : PySem.W.codeIn K cd2 "row_text" = true) (k2 : PySem.W.keepIn K (.ref f2) = true)
    (a3 : PySem.W.nsIn K mainGlobals "pattern_text" = some (some (.ref f3))) (l3 : K.lookup f3 = some ⟨oc3, od3, .func (PySem.W.fnOf "pattern_text" "pattern_text" (defArgs s_pattern_text) (defBody s_pattern_text) (defScope s_pattern_text) .none kV3 dc3 pm3 an3 cd3 ct3), sl3⟩) (c3 : PySem.W.codeIn K cd3 "pattern_text" = true) (k3 : PySem.W.keepIn K (.ref f3) = true)
    (a4 : PySem.W.nsIn K mainGlobals "tokens_of" = some (some (.ref f4))) (l4 : K.lookup f4 = some ⟨oc4, od4, .func (PySem.W.fnOf "tokens_of" "tokens_of" (defArgs s_tokens_of) (defBody s_tokens_of) (defScope s_tokens_of) .none kV4 dc4 pm4 an4 cd4 ct4), sl4⟩) (c4 : PySem.W.codeIn K cd4 "tokens_of" = true) (k4 : PySem.W.keepIn K (.ref f4) = true)
    (a5 : PySem.W.nsIn K mainGlobals "token_at" = some (some (.ref f5))) (l5 : K.lookup f5 = some ⟨oc5, od5, .func (PySem.W.fnOf "token_at" "token_at" (defArgs s_token_at) (defBody s_token_at) (defScope s_token_at) .none kV5 dc5 pm5 an5 cd5 ct5), sl5⟩) (c5 : PySem.W.codeIn K cd5 "token_at" = true) (k5 : PySem.W.keepIn K (.ref f5) = true)
    (a6 : PySem.W.nsIn K mainGlobals "end_of_run" = some (some (.ref f6))) (l6 : K.lookup f6 = some ⟨oc6, od6, .func (PySem.W.fnOf "end_of_run" "end_of_run" (defArgs s_end_of_run) (defBody s_end_of_run) (defScope s_end_of_run) .none kV6 dc6 pm6 an6 cd6 ct6), sl6⟩) (c6 : PySem.W.codeIn K cd6 "end_of_run" = true) (k6 : PySem.W.keepIn K (.ref f6) = true)
    (a7 : PySem.W.nsIn K mainGlobals "read_question" = some (some (.ref f7))) (l7 : K.lookup f7 = some ⟨oc7, od7, .func (PySem.W.fnOf "read_question" "read_question" (defArgs s_read_question) (defBody s_read_question) (defScope s_read_question) .none kV7 dc7 pm7 an7 cd7 ct7), sl7⟩) (c7 : PySem.W.codeIn K cd7 "read_question" = true) (k7 : PySem.W.keepIn K (.ref f7) = true)
    (a8 : PySem.W.nsIn K mainGlobals "size" = some (some (.ref f8))) (l8 : K.lookup f8 = some ⟨oc8, od8, .func (PySem.W.fnOf "size" "size" (defArgs s_size) (defBody s_size) (defScope s_size) .none kV8 dc8 pm8 an8 cd8 ct8), sl8⟩) (c8 : PySem.W.codeIn K cd8 "size" = true) (k8 : PySem.W.keepIn K (.ref f8) = true)
    (a9 : PySem.W.nsIn K mainGlobals "questions_in" = some (some (.ref f9))) (l9 : K.lookup f9 = some ⟨oc9, od9, .func (PySem.W.fnOf "questions_in" "questions_in" (defArgs s_questions_in) (defBody s_questions_in) (defScope s_questions_in) .none kV9 dc9 pm9 an9 cd9 ct9), sl9⟩) (c9 : PySem.W.codeIn K cd9 "questions_in" = true) (k9 : PySem.W.keepIn K (.ref f9) = true)
    (a10 : PySem.W.nsIn K mainGlobals "parts_of" = some (some (.ref f10))) (l10 : K.lookup f10 = some ⟨oc10, od10, .func (PySem.W.fnOf "parts_of" "parts_of" (defArgs s_parts_of) (defBody s_parts_of) (defScope s_parts_of) .none kV10 dc10 pm10 an10 cd10 ct10), sl10⟩) (c10 : PySem.W.codeIn K cd10 "parts_of" = true) (k10 : PySem.W.keepIn K (.ref f10) = true)
    (a11 : PySem.W.nsIn K mainGlobals "whole_question" = some (some (.ref f11))) (l11 : K.lookup f11 = some ⟨oc11, od11, .func (PySem.W.fnOf "whole_question" "whole_question" (defArgs s_whole_question) (defBody s_whole_question) (defScope s_whole_question) .none kV11 dc11 pm11 an11 cd11 ct11), sl11⟩) (c11 : PySem.W.codeIn K cd11 "whole_question" = true) (k11 : PySem.W.keepIn K (.ref f11) = true)
    (a12 : PySem.W.nsIn K mainGlobals "question_at" = some (some (.ref f12))) (l12 : K.lookup f12 = some ⟨oc12, od12, .func (PySem.W.fnOf "question_at" "question_at" (defArgs s_question_at) (defBody s_question_at) (defScope s_question_at) .none kV12 dc12 pm12 an12 cd12 ct12), sl12⟩) (c12 : PySem.W.codeIn K cd12 "question_at" = true) (k12 : PySem.W.keepIn K (.ref f12) = true)
    (a13 : PySem.W.nsIn K mainGlobals "alternative_at" = some (some (.ref f13))) (l13 : K.lookup f13 = some ⟨oc13, od13, .func (PySem.W.fnOf "alternative_at" "alternative_at" (defArgs s_alternative_at) (defBody s_alternative_at) (defScope s_alternative_at) .none kV13 dc13 pm13 an13 cd13 ct13), sl13⟩) (c13 : PySem.W.codeIn K cd13 "alternative_at" = true) (k13 : PySem.W.keepIn K (.ref f13) = true)
    (a14 : PySem.W.nsIn K mainGlobals "made_of" = some (some (.ref f14))) (l14 : K.lookup f14 = some ⟨oc14, od14, .func (PySem.W.fnOf "made_of" "made_of" (defArgs s_made_of) (defBody s_made_of) (defScope s_made_of) .none kV14 dc14 pm14 an14 cd14 ct14), sl14⟩) (c14 : PySem.W.codeIn K cd14 "made_of" = true) (k14 : PySem.W.keepIn K (.ref f14) = true)
    (a15 : PySem.W.nsIn K mainGlobals "begins_clause" = some (some (.ref f15))) (l15 : K.lookup f15 = some ⟨oc15, od15, .func (PySem.W.fnOf "begins_clause" "begins_clause" (defArgs s_begins_clause) (defBody s_begins_clause) (defScope s_begins_clause) .none kV15 dc15 pm15 an15 cd15 ct15), sl15⟩) (c15 : PySem.W.codeIn K cd15 "begins_clause" = true) (k15 : PySem.W.keepIn K (.ref f15) = true)
    (a16 : PySem.W.nsIn K mainGlobals "clause_at" = some (some (.ref f16))) (l16 : K.lookup f16 = some ⟨oc16, od16, .func (PySem.W.fnOf "clause_at" "clause_at" (defArgs s_clause_at) (defBody s_clause_at) (defScope s_clause_at) .none kV16 dc16 pm16 an16 cd16 ct16), sl16⟩) (c16 : PySem.W.codeIn K cd16 "clause_at" = true) (k16 : PySem.W.keepIn K (.ref f16) = true)
    (a17 : PySem.W.nsIn K mainGlobals "plain_clause_at" = some (some (.ref f17))) (l17 : K.lookup f17 = some ⟨oc17, od17, .func (PySem.W.fnOf "plain_clause_at" "plain_clause_at" (defArgs s_plain_clause_at) (defBody s_plain_clause_at) (defScope s_plain_clause_at) .none kV17 dc17 pm17 an17 cd17 ct17), sl17⟩) (c17 : PySem.W.codeIn K cd17 "plain_clause_at" = true) (k17 : PySem.W.keepIn K (.ref f17) = true)
    (a18 : PySem.W.nsIn K mainGlobals "gap_at" = some (some (.ref f18))) (l18 : K.lookup f18 = some ⟨oc18, od18, .func (PySem.W.fnOf "gap_at" "gap_at" (defArgs s_gap_at) (defBody s_gap_at) (defScope s_gap_at) .none kV18 dc18 pm18 an18 cd18 ct18), sl18⟩) (c18 : PySem.W.codeIn K cd18 "gap_at" = true) (k18 : PySem.W.keepIn K (.ref f18) = true)
    (a19 : PySem.W.nsIn K mainGlobals "row_at" = some (some (.ref f19))) (l19 : K.lookup f19 = some ⟨oc19, od19, .func (PySem.W.fnOf "row_at" "row_at" (defArgs s_row_at) (defBody s_row_at) (defScope s_row_at) .none kV19 dc19 pm19 an19 cd19 ct19), sl19⟩) (c19 : PySem.W.codeIn K cd19 "row_at" = true) (k19 : PySem.W.keepIn K (.ref f19) = true)
    (a20 : PySem.W.nsIn K mainGlobals "bracket_at" = some (some (.ref f20))) (l20 : K.lookup f20 = some ⟨oc20, od20, .func (PySem.W.fnOf "bracket_at" "bracket_at" (defArgs s_bracket_at) (defBody s_bracket_at) (defScope s_bracket_at) .none kV20 dc20 pm20 an20 cd20 ct20), sl20⟩) (c20 : PySem.W.codeIn K cd20 "bracket_at" = true) (k20 : PySem.W.keepIn K (.ref f20) = true)
    (a21 : PySem.W.nsIn K mainGlobals "fault_at" = some (some (.ref f21))) (l21 : K.lookup f21 = some ⟨oc21, od21, .func (PySem.W.fnOf "fault_at" "fault_at" (defArgs s_fault_at) (defBody s_fault_at) (defScope s_fault_at) .none kV21 dc21 pm21 an21 cd21 ct21), sl21⟩) (c21 : PySem.W.codeIn K cd21 "fault_at" = true) (k21 : PySem.W.keepIn K (.ref f21) = true)
    (a22 : PySem.W.nsIn K mainGlobals "is_sign" = some (some (.ref f22))) (l22 : K.lookup f22 = some ⟨oc22, od22, .func (PySem.W.fnOf "is_sign" "is_sign" (defArgs s_is_sign) (defBody s_is_sign) (defScope s_is_sign) .none kV22 dc22 pm22 an22 cd22 ct22), sl22⟩) (c22 : PySem.W.codeIn K cd22 "is_sign" = true) (k22 : PySem.W.keepIn K (.ref f22) = true)
    (a23 : PySem.W.nsIn K mainGlobals "is_pattern" = some (some (.ref f23))) (l23 : K.lookup f23 = some ⟨oc23, od23, .func (PySem.W.fnOf "is_pattern" "is_pattern" (defArgs s_is_pattern) (defBody s_is_pattern) (defScope s_is_pattern) .none kV23 dc23 pm23 an23 cd23 ct23), sl23⟩) (c23 : PySem.W.codeIn K cd23 "is_pattern" = true) (k23 : PySem.W.keepIn K (.ref f23) = true)
    (a24 : PySem.W.nsIn K mainGlobals "is_digit" = some (some (.ref f24))) (l24 : K.lookup f24 = some ⟨oc24, od24, .func (PySem.W.fnOf "is_digit" "is_digit" (defArgs s_is_digit) (defBody s_is_digit) (defScope s_is_digit) .none kV24 dc24 pm24 an24 cd24 ct24), sl24⟩) (c24 : PySem.W.codeIn K cd24 "is_digit" = true) (k24 : PySem.W.keepIn K (.ref f24) = true)
    (a25 : PySem.W.nsIn K mainGlobals "_law_cell" = some (some (.ref f25))) (l25 : K.lookup f25 = some ⟨oc25, od25, .func (PySem.W.fnOf "_law_cell" "_law_cell" (defArgs s__law_cell) (defBody s__law_cell) (defScope s__law_cell) .none kV25 dc25 pm25 an25 cd25 ct25), sl25⟩) (c25 : PySem.W.codeIn K cd25 "_law_cell" = true) (k25 : PySem.W.keepIn K (.ref f25) = true)
    (a26 : PySem.W.nsIn K mainGlobals "_law_digits" = some (some (.ref f26))) (l26 : K.lookup f26 = some ⟨oc26, od26, .func (PySem.W.fnOf "_law_digits" "_law_digits" (defArgs s__law_digits) (defBody s__law_digits) (defScope s__law_digits) .none kV26 dc26 pm26 an26 cd26 ct26), sl26⟩) (c26 : PySem.W.codeIn K cd26 "_law_digits" = true) (k26 : PySem.W.keepIn K (.ref f26) = true)
    (a27 : PySem.W.nsIn K mainGlobals "_law_draw" = some (some (.ref f27))) (l27 : K.lookup f27 = some ⟨oc27, od27, .func (PySem.W.fnOf "_law_draw" "_law_draw" (defArgs s__law_draw) (defBody s__law_draw) (defScope s__law_draw) .none kV27 dc27 pm27 an27 cd27 ct27), sl27⟩) (c27 : PySem.W.codeIn K cd27 "_law_draw" = true) (k27 : PySem.W.keepIn K (.ref f27) = true)
    (a28 : PySem.W.nsIn K mainGlobals "_law_same" = some (some (.ref f28))) (l28 : K.lookup f28 = some ⟨oc28, od28, .func (PySem.W.fnOf "_law_same" "_law_same" (defArgs s__law_same) (defBody s__law_same) (defScope s__law_same) .none kV28 dc28 pm28 an28 cd28 ct28), sl28⟩) (c28 : PySem.W.codeIn K cd28 "_law_same" = true) (k28 : PySem.W.keepIn K (.ref f28) = true)
    (a29 : PySem.W.nsIn K mainGlobals "_law_word" = some (some (.ref f29))) (l29 : K.lookup f29 = some ⟨oc29, od29, .func (PySem.W.fnOf "_law_word" "_law_word" (defArgs s__law_word) (defBody s__law_word) (defScope s__law_word) .none kV29 dc29 pm29 an29 cd29 ct29), sl29⟩) (c29 : PySem.W.codeIn K cd29 "_law_word" = true) (k29 : PySem.W.keepIn K (.ref f29) = true)
    (a30 : PySem.W.nsIn K mainGlobals "_law_pattern" = some (some (.ref f30))) (l30 : K.lookup f30 = some ⟨oc30, od30, .func (PySem.W.fnOf "_law_pattern" "_law_pattern" (defArgs s__law_pattern) (defBody s__law_pattern) (defScope s__law_pattern) .none kV30 dc30 pm30 an30 cd30 ct30), sl30⟩) (c30 : PySem.W.codeIn K cd30 "_law_pattern" = true) (k30 : PySem.W.keepIn K (.ref f30) = true)
    (a31 : PySem.W.nsIn K mainGlobals "_law_question" = some (some (.ref f31))) (l31 : K.lookup f31 = some ⟨oc31, od31, .func (PySem.W.fnOf "_law_question" "_law_question" (defArgs s__law_question) (defBody s__law_question) (defScope s__law_question) .none kV31 dc31 pm31 an31 cd31 ct31), sl31⟩) (c31 : PySem.W.codeIn K cd31 "_law_question" = true) (k31 : PySem.W.keepIn K (.ref f31) = true)
    (a32 : PySem.W.nsIn K mainGlobals "_law_pattern_text" = some (some (.ref f32))) (l32 : K.lookup f32 = some ⟨oc32, od32, .func (PySem.W.fnOf "_law_pattern_text" "_law_pattern_text" (defArgs s__law_pattern_text) (defBody s__law_pattern_text) (defScope s__law_pattern_text) .none kV32 dc32 pm32 an32 cd32 ct32), sl32⟩) (c32 : PySem.W.codeIn K cd32 "_law_pattern_text" = true) (k32 : PySem.W.keepIn K (.ref f32) = true)
    (a33 : PySem.W.nsIn K mainGlobals "_law_row_texts" = some (some (.ref f33))) (l33 : K.lookup f33 = some ⟨oc33, od33, .func (PySem.W.fnOf "_law_row_texts" "_law_row_texts" (defArgs s__law_row_texts) (defBody s__law_row_texts) (defScope s__law_row_texts) .none kV33 dc33 pm33 an33 cd33 ct33), sl33⟩) (c33 : PySem.W.codeIn K cd33 "_law_row_texts" = true) (k33 : PySem.W.keepIn K (.ref f33) = true)
    (a34 : PySem.W.nsIn K mainGlobals "_law_around" = some (some (.ref f34))) (l34 : K.lookup f34 = some ⟨oc34, od34, .func (PySem.W.fnOf "_law_around" "_law_around" (defArgs s__law_around) (defBody s__law_around) (defScope s__law_around) .none kV34 dc34 pm34 an34 cd34 ct34), sl34⟩) (c34 : PySem.W.codeIn K cd34 "_law_around" = true) (k34 : PySem.W.keepIn K (.ref f34) = true)
    (a35 : PySem.W.nsIn K mainGlobals "_law_texts" = some (some (.ref f35))) (l35 : K.lookup f35 = some ⟨oc35, od35, .func (PySem.W.fnOf "_law_texts" "_law_texts" (defArgs s__law_texts) (defBody s__law_texts) (defScope s__law_texts) .none kV35 dc35 pm35 an35 cd35 ct35), sl35⟩) (c35 : PySem.W.codeIn K cd35 "_law_texts" = true) (k35 : PySem.W.keepIn K (.ref f35) = true)
    (a36 : PySem.W.nsIn K mainGlobals "_law_size" = some (some (.ref f36))) (l36 : K.lookup f36 = some ⟨oc36, od36, .func (PySem.W.fnOf "_law_size" "_law_size" (defArgs s__law_size) (defBody s__law_size) (defScope s__law_size) .none kV36 dc36 pm36 an36 cd36 ct36), sl36⟩) (c36 : PySem.W.codeIn K cd36 "_law_size" = true) (k36 : PySem.W.keepIn K (.ref f36) = true)
    (a37 : PySem.W.nsIn K mainGlobals "_law_depth" = some (some (.ref f37))) (l37 : K.lookup f37 = some ⟨oc37, od37, .func (PySem.W.fnOf "_law_depth" "_law_depth" (defArgs s__law_depth) (defBody s__law_depth) (defScope s__law_depth) .none kV37 dc37 pm37 an37 cd37 ct37), sl37⟩) (c37 : PySem.W.codeIn K cd37 "_law_depth" = true) (k37 : PySem.W.keepIn K (.ref f37) = true)
    (a38 : PySem.W.nsIn K mainGlobals "_law_row" = some (some (.ref f38))) (l38 : K.lookup f38 = some ⟨oc38, od38, .func (PySem.W.fnOf "_law_row" "_law_row" (defArgs s__law_row) (defBody s__law_row) (defScope s__law_row) .none kV38 dc38 pm38 an38 cd38 ct38), sl38⟩) (c38 : PySem.W.codeIn K cd38 "_law_row" = true) (k38 : PySem.W.keepIn K (.ref f38) = true)
    (a39 : PySem.W.nsIn K mainGlobals "_law_inside" = some (some (.ref f39))) (l39 : K.lookup f39 = some ⟨oc39, od39, .func (PySem.W.fnOf "_law_inside" "_law_inside" (defArgs s__law_inside) (defBody s__law_inside) (defScope s__law_inside) .none kV39 dc39 pm39 an39 cd39 ct39), sl39⟩) (c39 : PySem.W.codeIn K cd39 "_law_inside" = true) (k39 : PySem.W.keepIn K (.ref f39) = true)
    (a40 : PySem.W.nsIn K mainGlobals "_law_written" = some (some (.ref f40))) (l40 : K.lookup f40 = some ⟨oc40, od40, .func (PySem.W.fnOf "_law_written" "_law_written" (defArgs s__law_written) (defBody s__law_written) (defScope s__law_written) .none kV40 dc40 pm40 an40 cd40 ct40), sl40⟩) (c40 : PySem.W.codeIn K cd40 "_law_written" = true) (k40 : PySem.W.keepIn K (.ref f40) = true)
    (a41 : PySem.W.nsIn K mainGlobals "law" = some (some (.ref f41))) (l41 : K.lookup f41 = some ⟨oc41, od41, .func (PySem.W.fnOf "law" "law" (defArgs s_law) (defBody s_law) (defScope s_law) .none kV41 dc41 pm41 an41 cd41 ct41), sl41⟩) (c41 : PySem.W.codeIn K cd41 "law" = true) (k41 : PySem.W.keepIn K (.ref f41) = true)
    (gc0 : PySem.W.nsIn K mainGlobals "SMALL" = some (some (.str "0123456789abcdefghijklmnopqrstuvwxyz" t0)))
    (gc1 : PySem.W.nsIn K mainGlobals "LONGEST" = some (some (.int 12 t1)))
    (gc2 : PySem.W.nsIn K mainGlobals "SIGNS" = some (some (.str "*\"<>()|-@" t2)))
    (gc3 : PySem.W.nsIn K mainGlobals "DIGITS" = some (some (.str "0123456789" t3)))
    (gc4 : PySem.W.nsIn K mainGlobals "MOST_PATTERNS" = some (some (.int 6 t4)))
    (gc5 : PySem.W.nsIn K mainGlobals "MOST_BRACKETS" = some (some (.int 6 t5)))
    (gc6 : PySem.W.nsIn K mainGlobals "LARGEST_SIZE" = some (some (.int 24 t6)))
    (aC1 : PySem.W.nsIn K mainGlobals "QuestionFault" = some (some (.ref C1)))
    (xL1 : K.lookup C1 = some (excClassObj nm1 qx1 C1 Nx1 bs1 bm1 true sn1 sub1 ab1 col1 dd1 m01 m11 m21 m31 m51 "ValueError.__new__")) (xM1 : PySem.HandSPX.refsVE bm1 = true)
    (sa1 : PySem.W.findIn K (.ref C1) "__setattr__" = some (some (.builtin "object.__setattr__"))) (ga1 : PySem.W.findIn K (.ref C1) "__getattribute__" = some (some (.builtin "BaseException.__getattribute__"))) (gg1 : PySem.W.findIn K (.ref C1) "__getattr__" = some none)
    (nb1_place : PySem.W.findIn K (.ref C1) "place" = some none)
    (nb1_word : PySem.W.findIn K (.ref C1) "word" = some none)
    (ai1 : PySem.W.findIn K (.ref C1) "__init__" = some (some (.ref fi1))) (ti1 : PySem.W.typeIn K (.ref fi1) = some (.type "function"))
    (li1 : K.lookup fi1 = some ⟨oci1, odi1, .func (PySem.W.fnOf "__init__" "QuestionFault.__init__" (defArgs s_QuestionFault) (defBody s_QuestionFault) (defScope s_QuestionFault) .none kVi1 dci1 pmi1 ani1 cdi1 cti1), sli1⟩) (ci1 : PySem.W.codeIn K cdi1 "QuestionFault.__init__" = true) (ki1 : PySem.W.keepIn K (.ref fi1) = true)
    (kC1 : PySem.W.keepIn K (.ref C1) = true) (eC1 : PySem.W.subIn K (.ref C1) (.type "BaseException") = some true) (tC1 : PySem.W.typeIn K (.ref C1) = some (.type "type")) (hC1 : PySem.W.hasDictIn K C1 = true) (iC1 : PySem.W.isClsIn K C1 = true) (sC1 : PySem.W.subIn K (.ref C1) (.ref C1) = some true)
    (z0 : PySem.W.nsIn K mainGlobals "bool" = some none)
    (z1 : PySem.W.nsIn K mainGlobals "int" = some none)
    (z2 : PySem.W.nsIn K mainGlobals "isinstance" = some none)
    (z3 : PySem.W.nsIn K mainGlobals "len" = some none)
    (z4 : PySem.W.nsIn K mainGlobals "list" = some none)
    (z5 : PySem.W.nsIn K mainGlobals "max" = some none)
    (z6 : PySem.W.nsIn K mainGlobals "range" = some none)
    (z7 : PySem.W.nsIn K mainGlobals "str" = some none)
    (z8 : PySem.W.nsIn K mainGlobals "sum" = some none)
    (z9 : PySem.W.nsIn K mainGlobals "tuple" = some none)
    : ∃ fd : FuncData, (∀ (s : Shared) (v : Value), BindsTo s fd ⟨[v], []⟩ [("script", v)]) ∧ ∀ base : Heap, K.In base → base.Ns mainGlobals mg → FnOk l.prog w K mg base CX0 42 fa fd ["script"] (ySpLaw K) := by
  have e := hfa.symm.trans (PySem.W.mg_of X G a41)
  cases e
  have F0 := fun_mk (st := s_write_question) l0 c0 k0
  have F1 := fun_mk (st := s_part_text) l1 c1 k1
  have F2 := fun_mk (st := s_row_text) l2 c2 k2
  have F3 := fun_mk (st := s_pattern_text) l3 c3 k3
  have F4 := fun_mk (st := s_tokens_of) l4 c4 k4
  have F5 := fun_mk (st := s_token_at) l5 c5 k5
  have F6 := fun_mk (st := s_end_of_run) l6 c6 k6
  have F7 := fun_mk (st := s_read_question) l7 c7 k7
  have F8 := fun_mk (st := s_size) l8 c8 k8
  have F9 := fun_mk (st := s_questions_in) l9 c9 k9
  have F10 := fun_mk (st := s_parts_of) l10 c10 k10
  have F11 := fun_mk (st := s_whole_question) l11 c11 k11
  have F12 := fun_mk (st := s_question_at) l12 c12 k12
  have F13 := fun_mk (st := s_alternative_at) l13 c13 k13
  have F14 := fun_mk (st := s_made_of) l14 c14 k14
  have F15 := fun_mk (st := s_begins_clause) l15 c15 k15
  have F16 := fun_mk (st := s_clause_at) l16 c16 k16
  have F17 := fun_mk (st := s_plain_clause_at) l17 c17 k17
  have F18 := fun_mk (st := s_gap_at) l18 c18 k18
  have F19 := fun_mk (st := s_row_at) l19 c19 k19
  have F20 := fun_mk (st := s_bracket_at) l20 c20 k20
  have F21 := fun_mk (st := s_fault_at) l21 c21 k21
  have F22 := fun_mk (st := s_is_sign) l22 c22 k22
  have F23 := fun_mk (st := s_is_pattern) l23 c23 k23
  have F24 := fun_mk (st := s_is_digit) l24 c24 k24
  have F25 := fun_mk (st := s__law_cell) l25 c25 k25
  have F26 := fun_mk (st := s__law_digits) l26 c26 k26
  have F27 := fun_mk (st := s__law_draw) l27 c27 k27
  have F28 := fun_mk (st := s__law_same) l28 c28 k28
  have F29 := fun_mk (st := s__law_word) l29 c29 k29
  have F30 := fun_mk (st := s__law_pattern) l30 c30 k30
  have F31 := fun_mk (st := s__law_question) l31 c31 k31
  have F32 := fun_mk (st := s__law_pattern_text) l32 c32 k32
  have F33 := fun_mk (st := s__law_row_texts) l33 c33 k33
  have F34 := fun_mk (st := s__law_around) l34 c34 k34
  have F35 := fun_mk (st := s__law_texts) l35 c35 k35
  have F36 := fun_mk (st := s__law_size) l36 c36 k36
  have F37 := fun_mk (st := s__law_depth) l37 c37 k37
  have F38 := fun_mk (st := s__law_row) l38 c38 k38
  have F39 := fun_mk (st := s__law_inside) l39 c39 k39
  have F40 := fun_mk (st := s__law_written) l40 c40 k40
  have F41 := fun_mk (st := s_law) l41 c41 k41
  have b0 := F0.binds (ps := ["question"]) fun _ _ _ _ _ _ us hl => match us, hl with | [_], _ => rfl
  have b1 := F1.binds (ps := ["question", "bracketed"]) fun _ _ _ _ _ _ us hl => match us, hl with | [_, _], _ => rfl
  have b2 := F2.binds (ps := ["patterns", "gap"]) fun _ _ _ _ _ _ us hl => match us, hl with | [_, _], _ => rfl
  have b3 := F3.binds (ps := ["pattern"]) fun _ _ _ _ _ _ us hl => match us, hl with | [_], _ => rfl
  have b4 := F4.binds (ps := ["text"]) fun _ _ _ _ _ _ us hl => match us, hl with | [_], _ => rfl
  have b5 := F5.binds (ps := ["text", "at"]) fun _ _ _ _ _ _ us hl => match us, hl with | [_, _], _ => rfl
  have b6 := F6.binds (ps := ["text", "at"]) fun _ _ _ _ _ _ us hl => match us, hl with | [_, _], _ => rfl
  have b7 := F7.binds (ps := ["text"]) fun _ _ _ _ _ _ us hl => match us, hl with | [_], _ => rfl
  have b8 := F8.binds (ps := ["question"]) fun _ _ _ _ _ _ us hl => match us, hl with | [_], _ => rfl
  have b9 := F9.binds (ps := ["question"]) fun _ _ _ _ _ _ us hl => match us, hl with | [_], _ => rfl
  have b10 := F10.binds (ps := ["question"]) fun _ _ _ _ _ _ us hl => match us, hl with | [_], _ => rfl
  have b11 := F11.binds (ps := ["tokens"]) fun _ _ _ _ _ _ us hl => match us, hl with | [_], _ => rfl
  have b12 := F12.binds (ps := ["tokens", "at", "depth"]) fun _ _ _ _ _ _ us hl => match us, hl with | [_, _, _], _ => rfl
  have b13 := F13.binds (ps := ["tokens", "at", "depth"]) fun _ _ _ _ _ _ us hl => match us, hl with | [_, _, _], _ => rfl
  have b14 := F14.binds (ps := ["kind", "questions"]) fun _ _ _ _ _ _ us hl => match us, hl with | [_, _], _ => rfl
  have b15 := F15.binds (ps := ["tokens", "at"]) fun _ _ _ _ _ _ us hl => match us, hl with | [_, _], _ => rfl
  have b16 := F16.binds (ps := ["tokens", "at", "depth"]) fun _ _ _ _ _ _ us hl => match us, hl with | [_, _, _], _ => rfl
  have b17 := F17.binds (ps := ["tokens", "at", "depth"]) fun _ _ _ _ _ _ us hl => match us, hl with | [_, _, _], _ => rfl
  have b18 := F18.binds (ps := ["tokens", "at"]) fun _ _ _ _ _ _ us hl => match us, hl with | [_, _], _ => rfl
  have b19 := F19.binds (ps := ["tokens", "at", "gap", "closing"]) fun _ _ _ _ _ _ us hl => match us, hl with | [_, _, _, _], _ => rfl
  have b20 := F20.binds (ps := ["tokens", "at", "depth"]) fun _ _ _ _ _ _ us hl => match us, hl with | [_, _, _], _ => rfl
  have b21 := F21.binds (ps := ["tokens", "at"]) fun _ _ _ _ _ _ us hl => match us, hl with | [_, _], _ => rfl
  have b22 := F22.binds (ps := ["tokens", "at", "signs"]) fun _ _ _ _ _ _ us hl => match us, hl with | [_, _, _], _ => rfl
  have b23 := F23.binds (ps := ["tokens", "at"]) fun _ _ _ _ _ _ us hl => match us, hl with | [_, _], _ => rfl
  have b24 := F24.binds (ps := ["tokens", "at"]) fun _ _ _ _ _ _ us hl => match us, hl with | [_, _], _ => rfl
  have b25 := F25.binds (ps := ["script", "k"]) fun _ _ _ _ _ _ us hl => match us, hl with | [_, _], _ => rfl
  have b26 := F26.binds (ps := ["script", "first", "last"]) fun _ _ _ _ _ _ us hl => match us, hl with | [_, _, _], _ => rfl
  have b27 := F27.binds (ps := ["box", "many"]) fun _ _ _ _ _ _ us hl => match us, hl with | [_, _], _ => rfl
  have b28 := F28.binds (ps := ["actual", "due"]) fun _ _ _ _ _ _ us hl => match us, hl with | [_, _], _ => rfl
  have b29 := F29.binds (ps := ["box"]) fun _ _ _ _ _ _ us hl => match us, hl with | [_], _ => rfl
  have b30 := F30.binds (ps := ["box"]) fun _ _ _ _ _ _ us hl => match us, hl with | [_], _ => rfl
  have b31 := F31.binds (ps := ["box", "depth", "simple"]) fun _ _ _ _ _ _ us hl => match us, hl with | [_, _, _], _ => rfl
  have b32 := F32.binds (ps := ["pattern"]) fun _ _ _ _ _ _ us hl => match us, hl with | [_], _ => rfl
  have b33 := F33.binds (ps := ["row"]) fun _ _ _ _ _ _ us hl => match us, hl with | [_], _ => rfl
  have b34 := F34.binds (ps := ["question", "kinds"]) fun _ _ _ _ _ _ us hl => match us, hl with | [_, _], _ => rfl
  have b35 := F35.binds (ps := ["question"]) fun _ _ _ _ _ _ us hl => match us, hl with | [_], _ => rfl
  have b36 := F36.binds (ps := ["question"]) fun _ _ _ _ _ _ us hl => match us, hl with | [_], _ => rfl
  have b37 := F37.binds (ps := ["texts"]) fun _ _ _ _ _ _ us hl => match us, hl with | [_], _ => rfl
  have b38 := F38.binds (ps := ["row"]) fun _ _ _ _ _ _ us hl => match us, hl with | [_], _ => rfl
  have b39 := F39.binds (ps := ["question", "kinds"]) fun _ _ _ _ _ _ us hl => match us, hl with | [_, _], _ => rfl
  have b40 := F40.binds (ps := ["question"]) fun _ _ _ _ _ _ us hl => match us, hl with | [_], _ => rfl
  have b41 := F41.binds (ps := ["script"]) fun _ _ _ _ _ _ us hl => match us, hl with | [_], _ => rfl
  have Fi1 := fun_mk (st := s_QuestionFault) li1 ci1 ki1
  have bi1 := Fi1.binds (ps := ["self", "place", "word"]) fun _ _ _ _ _ _ us hl => match us, hl with | [_, _, _], _ => rfl
  let AA : Nat → Addr := fun i => match i with | 0 => f0 | 1 => f1 | 2 => f2 | 3 => f3 | 4 => f4 | 5 => f5 | 6 => f6 | 7 => f7 | 8 => f8 | 9 => f9 | 10 => f10 | 11 => f11 | 12 => f12 | 13 => f13 | 14 => f14 | 15 => f15 | 16 => f16 | 17 => f17 | 18 => f18 | 19 => f19 | 20 => f20 | 21 => f21 | 22 => f22 | 23 => f23 | 24 => f24 | 25 => f25 | 26 => f26 | 27 => f27 | 28 => f28 | 29 => f29 | 30 => f30 | 31 => f31 | 32 => f32 | 33 => f33 | 34 => f34 | 35 => f35 | 36 => f36 | 37 => f37 | 38 => f38 | 39 => f39 | 40 => f40 | 41 => fa | 101 => C1 | 201 => fi1 | _ => fa
  let DD : Nat → FuncData := fun i => match i with | 0 => PySem.W.fnOf "write_question" "write_question" (defArgs s_write_question) (defBody s_write_question) (defScope s_write_question) .none kV0 dc0 pm0 an0 cd0 ct0 | 1 => PySem.W.fnOf "part_text" "part_text" (defArgs s_part_text) (defBody s_part_text) (defScope s_part_text) .none kV1 dc1 pm1 an1 cd1 ct1 | 2 => PySem.W.fnOf "row_text" "row_text" (defArgs s_row_text) (defBody s_row_text) (defScope s_row_text) .none kV2 dc2 pm2 an2 cd2 ct2 | 3 => PySem.W.fnOf "pattern_text" "pattern_text" (defArgs s_pattern_text) (defBody s_pattern_text) (defScope s_pattern_text) .none kV3 dc3 pm3 an3 cd3 ct3 | 4 => PySem.W.fnOf "tokens_of" "tokens_of" (defArgs s_tokens_of) (defBody s_tokens_of) (defScope s_tokens_of) .none kV4 dc4 pm4 an4 cd4 ct4 | 5 => PySem.W.fnOf "token_at" "token_at" (defArgs s_token_at) (defBody s_token_at) (defScope s_token_at) .none kV5 dc5 pm5 an5 cd5 ct5 | 6 => PySem.W.fnOf "end_of_run" "end_of_run" (defArgs s_end_of_run) (defBody s_end_of_run) (defScope s_end_of_run) .none kV6 dc6 pm6 an6 cd6 ct6 | 7 => PySem.W.fnOf "read_question" "read_question" (defArgs s_read_question) (defBody s_read_question) (defScope s_read_question) .none kV7 dc7 pm7 an7 cd7 ct7 | 8 => PySem.W.fnOf "size" "size" (defArgs s_size) (defBody s_size) (defScope s_size) .none kV8 dc8 pm8 an8 cd8 ct8 | 9 => PySem.W.fnOf "questions_in" "questions_in" (defArgs s_questions_in) (defBody s_questions_in) (defScope s_questions_in) .none kV9 dc9 pm9 an9 cd9 ct9 | 10 => PySem.W.fnOf "parts_of" "parts_of" (defArgs s_parts_of) (defBody s_parts_of) (defScope s_parts_of) .none kV10 dc10 pm10 an10 cd10 ct10 | 11 => PySem.W.fnOf "whole_question" "whole_question" (defArgs s_whole_question) (defBody s_whole_question) (defScope s_whole_question) .none kV11 dc11 pm11 an11 cd11 ct11 | 12 => PySem.W.fnOf "question_at" "question_at" (defArgs s_question_at) (defBody s_question_at) (defScope s_question_at) .none kV12 dc12 pm12 an12 cd12 ct12 | 13 => PySem.W.fnOf "alternative_at" "alternative_at" (defArgs s_alternative_at) (defBody s_alternative_at) (defScope s_alternative_at) .none kV13 dc13 pm13 an13 cd13 ct13 | 14 => PySem.W.fnOf "made_of" "made_of" (defArgs s_made_of) (defBody s_made_of) (defScope s_made_of) .none kV14 dc14 pm14 an14 cd14 ct14 | 15 => PySem.W.fnOf "begins_clause" "begins_clause" (defArgs s_begins_clause) (defBody s_begins_clause) (defScope s_begins_clause) .none kV15 dc15 pm15 an15 cd15 ct15 | 16 => PySem.W.fnOf "clause_at" "clause_at" (defArgs s_clause_at) (defBody s_clause_at) (defScope s_clause_at) .none kV16 dc16 pm16 an16 cd16 ct16 | 17 => PySem.W.fnOf "plain_clause_at" "plain_clause_at" (defArgs s_plain_clause_at) (defBody s_plain_clause_at) (defScope s_plain_clause_at) .none kV17 dc17 pm17 an17 cd17 ct17 | 18 => PySem.W.fnOf "gap_at" "gap_at" (defArgs s_gap_at) (defBody s_gap_at) (defScope s_gap_at) .none kV18 dc18 pm18 an18 cd18 ct18 | 19 => PySem.W.fnOf "row_at" "row_at" (defArgs s_row_at) (defBody s_row_at) (defScope s_row_at) .none kV19 dc19 pm19 an19 cd19 ct19 | 20 => PySem.W.fnOf "bracket_at" "bracket_at" (defArgs s_bracket_at) (defBody s_bracket_at) (defScope s_bracket_at) .none kV20 dc20 pm20 an20 cd20 ct20 | 21 => PySem.W.fnOf "fault_at" "fault_at" (defArgs s_fault_at) (defBody s_fault_at) (defScope s_fault_at) .none kV21 dc21 pm21 an21 cd21 ct21 | 22 => PySem.W.fnOf "is_sign" "is_sign" (defArgs s_is_sign) (defBody s_is_sign) (defScope s_is_sign) .none kV22 dc22 pm22 an22 cd22 ct22 | 23 => PySem.W.fnOf "is_pattern" "is_pattern" (defArgs s_is_pattern) (defBody s_is_pattern) (defScope s_is_pattern) .none kV23 dc23 pm23 an23 cd23 ct23 | 24 => PySem.W.fnOf "is_digit" "is_digit" (defArgs s_is_digit) (defBody s_is_digit) (defScope s_is_digit) .none kV24 dc24 pm24 an24 cd24 ct24 | 25 => PySem.W.fnOf "_law_cell" "_law_cell" (defArgs s__law_cell) (defBody s__law_cell) (defScope s__law_cell) .none kV25 dc25 pm25 an25 cd25 ct25 | 26 => PySem.W.fnOf "_law_digits" "_law_digits" (defArgs s__law_digits) (defBody s__law_digits) (defScope s__law_digits) .none kV26 dc26 pm26 an26 cd26 ct26 | 27 => PySem.W.fnOf "_law_draw" "_law_draw" (defArgs s__law_draw) (defBody s__law_draw) (defScope s__law_draw) .none kV27 dc27 pm27 an27 cd27 ct27 | 28 => PySem.W.fnOf "_law_same" "_law_same" (defArgs s__law_same) (defBody s__law_same) (defScope s__law_same) .none kV28 dc28 pm28 an28 cd28 ct28 | 29 => PySem.W.fnOf "_law_word" "_law_word" (defArgs s__law_word) (defBody s__law_word) (defScope s__law_word) .none kV29 dc29 pm29 an29 cd29 ct29 | 30 => PySem.W.fnOf "_law_pattern" "_law_pattern" (defArgs s__law_pattern) (defBody s__law_pattern) (defScope s__law_pattern) .none kV30 dc30 pm30 an30 cd30 ct30 | 31 => PySem.W.fnOf "_law_question" "_law_question" (defArgs s__law_question) (defBody s__law_question) (defScope s__law_question) .none kV31 dc31 pm31 an31 cd31 ct31 | 32 => PySem.W.fnOf "_law_pattern_text" "_law_pattern_text" (defArgs s__law_pattern_text) (defBody s__law_pattern_text) (defScope s__law_pattern_text) .none kV32 dc32 pm32 an32 cd32 ct32 | 33 => PySem.W.fnOf "_law_row_texts" "_law_row_texts" (defArgs s__law_row_texts) (defBody s__law_row_texts) (defScope s__law_row_texts) .none kV33 dc33 pm33 an33 cd33 ct33 | 34 => PySem.W.fnOf "_law_around" "_law_around" (defArgs s__law_around) (defBody s__law_around) (defScope s__law_around) .none kV34 dc34 pm34 an34 cd34 ct34 | 35 => PySem.W.fnOf "_law_texts" "_law_texts" (defArgs s__law_texts) (defBody s__law_texts) (defScope s__law_texts) .none kV35 dc35 pm35 an35 cd35 ct35 | 36 => PySem.W.fnOf "_law_size" "_law_size" (defArgs s__law_size) (defBody s__law_size) (defScope s__law_size) .none kV36 dc36 pm36 an36 cd36 ct36 | 37 => PySem.W.fnOf "_law_depth" "_law_depth" (defArgs s__law_depth) (defBody s__law_depth) (defScope s__law_depth) .none kV37 dc37 pm37 an37 cd37 ct37 | 38 => PySem.W.fnOf "_law_row" "_law_row" (defArgs s__law_row) (defBody s__law_row) (defScope s__law_row) .none kV38 dc38 pm38 an38 cd38 ct38 | 39 => PySem.W.fnOf "_law_inside" "_law_inside" (defArgs s__law_inside) (defBody s__law_inside) (defScope s__law_inside) .none kV39 dc39 pm39 an39 cd39 ct39 | 40 => PySem.W.fnOf "_law_written" "_law_written" (defArgs s__law_written) (defBody s__law_written) (defScope s__law_written) .none kV40 dc40 pm40 an40 cd40 ct40 | 41 => PySem.W.fnOf "law" "law" (defArgs s_law) (defBody s_law) (defScope s_law) .none kV41 dc41 pm41 an41 cd41 ct41 | 201 => PySem.W.fnOf "__init__" "QuestionFault.__init__" (defArgs s_QuestionFault) (defBody s_QuestionFault) (defScope s_QuestionFault) .none kVi1 dci1 pmi1 ani1 cdi1 cti1 | _ => PySem.W.fnOf "law" "law" (defArgs s_law) (defBody s_law) (defScope s_law) .none kV41 dc41 pm41 an41 cd41 ct41
  have T : Txt K mg AA DD := { F_write_question := F0, b_write_question := b0, m_write_question := PySem.W.mg_of X G a0, F_part_text := F1, b_part_text := b1, m_part_text := PySem.W.mg_of X G a1, F_row_text := F2, b_row_text := b2, m_row_text := PySem.W.mg_of X G a2, F_pattern_text := F3, b_pattern_text := b3, m_pattern_text := PySem.W.mg_of X G a3, F_tokens_of := F4, b_tokens_of := b4, m_tokens_of := PySem.W.mg_of X G a4, F_token_at := F5, b_token_at := b5, m_token_at := PySem.W.mg_of X G a5, F_end_of_run := F6, b_end_of_run := b6, m_end_of_run := PySem.W.mg_of X G a6, F_read_question := F7, b_read_question := b7, m_read_question := PySem.W.mg_of X G a7, F_size := F8, b_size := b8, m_size := PySem.W.mg_of X G a8, F_questions_in := F9, b_questions_in := b9, m_questions_in := PySem.W.mg_of X G a9, F_parts_of := F10, b_parts_of := b10, m_parts_of := PySem.W.mg_of X G a10, F_whole_question := F11, b_whole_question := b11, m_whole_question := PySem.W.mg_of X G a11, F_question_at := F12, b_question_at := b12, m_question_at := PySem.W.mg_of X G a12, F_alternative_at := F13, b_alternative_at := b13, m_alternative_at := PySem.W.mg_of X G a13, F_made_of := F14, b_made_of := b14, m_made_of := PySem.W.mg_of X G a14, F_begins_clause := F15, b_begins_clause := b15, m_begins_clause := PySem.W.mg_of X G a15, F_clause_at := F16, b_clause_at := b16, m_clause_at := PySem.W.mg_of X G a16, F_plain_clause_at := F17, b_plain_clause_at := b17, m_plain_clause_at := PySem.W.mg_of X G a17, F_gap_at := F18, b_gap_at := b18, m_gap_at := PySem.W.mg_of X G a18, F_row_at := F19, b_row_at := b19, m_row_at := PySem.W.mg_of X G a19, F_bracket_at := F20, b_bracket_at := b20, m_bracket_at := PySem.W.mg_of X G a20, F_fault_at := F21, b_fault_at := b21, m_fault_at := PySem.W.mg_of X G a21, F_is_sign := F22, b_is_sign := b22, m_is_sign := PySem.W.mg_of X G a22, F_is_pattern := F23, b_is_pattern := b23, m_is_pattern := PySem.W.mg_of X G a23, F_is_digit := F24, b_is_digit := b24, m_is_digit := PySem.W.mg_of X G a24, F__law_cell := F25, b__law_cell := b25, m__law_cell := PySem.W.mg_of X G a25, F__law_digits := F26, b__law_digits := b26, m__law_digits := PySem.W.mg_of X G a26, F__law_draw := F27, b__law_draw := b27, m__law_draw := PySem.W.mg_of X G a27, F__law_same := F28, b__law_same := b28, m__law_same := PySem.W.mg_of X G a28, F__law_word := F29, b__law_word := b29, m__law_word := PySem.W.mg_of X G a29, F__law_pattern := F30, b__law_pattern := b30, m__law_pattern := PySem.W.mg_of X G a30, F__law_question := F31, b__law_question := b31, m__law_question := PySem.W.mg_of X G a31, F__law_pattern_text := F32, b__law_pattern_text := b32, m__law_pattern_text := PySem.W.mg_of X G a32, F__law_row_texts := F33, b__law_row_texts := b33, m__law_row_texts := PySem.W.mg_of X G a33, F__law_around := F34, b__law_around := b34, m__law_around := PySem.W.mg_of X G a34, F__law_texts := F35, b__law_texts := b35, m__law_texts := PySem.W.mg_of X G a35, F__law_size := F36, b__law_size := b36, m__law_size := PySem.W.mg_of X G a36, F__law_depth := F37, b__law_depth := b37, m__law_depth := PySem.W.mg_of X G a37, F__law_row := F38, b__law_row := b38, m__law_row := PySem.W.mg_of X G a38, F__law_inside := F39, b__law_inside := b39, m__law_inside := PySem.W.mg_of X G a39, F__law_written := F40, b__law_written := b40, m__law_written := PySem.W.mg_of X G a40, F_law := F41, b_law := b41, m_law := PySem.W.mg_of X G a41, c_SMALL := ⟨t0, PySem.W.mg_of X G gc0⟩, c_LONGEST := ⟨t1, PySem.W.mg_of X G gc1⟩, c_SIGNS := ⟨t2, PySem.W.mg_of X G gc2⟩, c_DIGITS := ⟨t3, PySem.W.mg_of X G gc3⟩, c_MOST_PATTERNS := ⟨t4, PySem.W.mg_of X G gc4⟩, c_MOST_BRACKETS := ⟨t5, PySem.W.mg_of X G gc5⟩, c_LARGEST_SIZE := ⟨t6, PySem.W.mg_of X G gc6⟩, gC_QuestionFault := PySem.W.mg_of X G aC1, ox_QuestionFault := ⟨⟨nm1, qx1, Nx1, bs1, bm1, sn1, sub1, ab1, col1, dd1, m01, m11, m21, m31, m51, xL1, xM1⟩, sa1, eC1, tC1, kC1⟩, iC_QuestionFault := ai1, tI_QuestionFault := ti1, F_QuestionFault := Fi1, b_QuestionFault := bi1, xf_QuestionFault := ⟨ga1, gg1, eC1, hC1⟩, no_QuestionFault_place := nb1_place, no_QuestionFault_word := nb1_word, te_QuestionFault := exm_self eC1 iC1 tC1 sC1, z_bool := PySem.W.mg_none_of X G z0, z_int := PySem.W.mg_none_of X G z1, z_isinstance := PySem.W.mg_none_of X G z2, z_len := PySem.W.mg_none_of X G z3, z_list := PySem.W.mg_none_of X G z4, z_max := PySem.W.mg_none_of X G z5, z_range := PySem.W.mg_none_of X G z6, z_str := PySem.W.mg_none_of X G z7, z_sum := PySem.W.mg_none_of X G z8, z_tuple := PySem.W.mg_none_of X G z9 }
  exact ⟨DD 41, fun s v => .of_eq rfl, fun base _ _ => ok_law (A := AA) (D := DD) T⟩
theorem walk {l : PySem.W.OpenLaw} {q : Program} {loose : List Str} {XP : (Str → Option Value) → Heap → Prop} {YP : World → Heap → Prop} {d : DefRec} {K : Params → PySem.W.Frag} (hn : l.most = some 63) (hdf : d.params.defaults = [])
    (hY : ∀ (w : World) (h : Heap), YP w h → (K w.params).In h)
    (F : ∀ (w : World) (mg : Str → Option Value) (fa : Addr) (h : Heap), (K w.params).In h → h.Ns mainGlobals mg → mg d.name = some (.ref fa) →
      ∃ fd : FuncData, (∀ (s : Shared) (u : Value), BindsTo s fd ⟨[u], []⟩ [("script", u)]) ∧ ∀ base : Heap, (K w.params).In base → base.Ns mainGlobals mg → FnOk l.prog w (K w.params) mg base CX0 42 fa fd ["script"] (ySpLaw (K w.params))) :
    PySem.W.WalkO q loose XP YP l.row.toRowW d [] (fun f vs => PySem.call f vs) :=
  L2.walk_of (n := 63) (k := 42) (x := "script") (CX := fun _ => CX0) (sp := fun w => ySpLaw (K w.params)) hn (by decide) hdf ⟨rfl, by decide, by decide⟩ hY F (fun _ _ a ns hl _ hS => ⟨a, ns, rfl, hS, hl, fun _ => rfl⟩) fun _ _ _ _ _ z => z
end Z
open PySem PySem.W PyProof.Rows
set_option maxRecDepth 100000 in
set_option maxHeartbeats 0 in
theorem PySem.Challenge.cw_timeshelf_k08_written_questions_holds : PySem.Challenge.rw_timeshelf_k08_written_questions.Holds := by
  w_on; o_law; k_head; (case hw => w_witness2)
  k_fill
  refine Z.walk (l := PySem.Challenge.rw_timeshelf_k08_written_questions) rfl rfl (fun w h Y => PySem.W.kIn_of Y) ?F
  case F =>
    intro w mg fa h KX G hmg
    refine' Z.all_mk KX G hmg ?a0 ?l0 ?c0 ?k0 ?a1 ?l1 ?c1 ?k1 ?a2 ?l2 ?c2 ?k2 ?a3 ?l3 ?c3 ?k3 ?a4 ?l4 ?c4 ?k4 ?a5 ?l5 ?c5 ?k5 ?a6 ?l6 ?c6 ?k6 ?a7 ?l7 ?c7 ?k7 ?a8 ?l8 ?c8 ?k8 ?a9 ?l9 ?c9 ?k9 ?a10 ?l10 ?c10 ?k10 ?a11 ?l11 ?c11 ?k11 ?a12 ?l12 ?c12 ?k12 ?a13 ?l13 ?c13 ?k13 ?a14 ?l14 ?c14 ?k14 ?a15 ?l15 ?c15 ?k15 ?a16 ?l16 ?c16 ?k16 ?a17 ?l17 ?c17 ?k17 ?a18 ?l18 ?c18 ?k18 ?a19 ?l19 ?c19 ?k19 ?a20 ?l20 ?c20 ?k20 ?a21 ?l21 ?c21 ?k21 ?a22 ?l22 ?c22 ?k22 ?a23 ?l23 ?c23 ?k23 ?a24 ?l24 ?c24 ?k24 ?a25 ?l25 ?c25 ?k25 ?a26 ?l26 ?c26 ?k26 ?a27 ?l27 ?c27 ?k27 ?a28 ?l28 ?c28 ?k28 ?a29 ?l29 ?c29 ?k29 ?a30 ?l30 ?c30 ?k30 ?a31 ?l31 ?c31 ?k31 ?a32 ?l32 ?c32 ?k32 ?a33 ?l33 ?c33 ?k33 ?a34 ?l34 ?c34 ?k34 ?a35 ?l35 ?c35 ?k35 ?a36 ?l36 ?c36 ?k36 ?a37 ?l37 ?c37 ?k37 ?a38 ?l38 ?c38 ?k38 ?a39 ?l39 ?c39 ?k39 ?a40 ?l40 ?c40 ?k40 ?a41 ?l41 ?c41 ?k41 ?gc0 ?gc1 ?gc2 ?gc3 ?gc4 ?gc5 ?gc6 ?aC1 ?xL1 ?xM1 ?sa1 ?ga1 ?gg1 ?nb1_place ?nb1_word ?ai1 ?ti1 ?li1 ?ci1 ?ki1 ?kC1 ?eC1 ?tC1 ?hC1 ?iC1 ?sC1 ?z0 ?z1 ?z2 ?z3 ?z4 ?z5 ?z6 ?z7 ?z8 ?z9
    (case a0 => first | k_is | rfl | decide +kernel)
    (case l0 => first | k_is | rfl | decide +kernel)
    (case c0 => first | k_is | rfl | decide +kernel)
    (case k0 => first | k_is | rfl | decide +kernel)
    (case a1 => first | k_is | rfl | decide +kernel)
    (case l1 => first | k_is | rfl | decide +kernel)
    (case c1 => first | k_is | rfl | decide +kernel)
    (case k1 => first | k_is | rfl | decide +kernel)
    (case a2 => first | k_is | rfl | decide +kernel)
    (case l2 => first | k_is | rfl | decide +kernel)
    (case c2 => first | k_is | rfl | decide +kernel)
    (case k2 => first | k_is | rfl | decide +kernel)
    (case a3 => first | k_is | rfl | decide +kernel)
    (case l3 => first | k_is | rfl | decide +kernel)
    (case c3 => first | k_is | rfl | decide +kernel)
    (case k3 => first | k_is | rfl | decide +kernel)
    (case a4 => first | k_is | rfl | decide +kernel)
    (case l4 => first | k_is | rfl | decide +kernel)
    (case c4 => first | k_is | rfl | decide +kernel)
    (case k4 => first | k_is | rfl | decide +kernel)
    (case a5 => first | k_is | rfl | decide +kernel)
    (case l5 => first | k_is | rfl | decide +kernel)
    (case c5 => first | k_is | rfl | decide +kernel)
    (case k5 => first | k_is | rfl | decide +kernel)
    (case a6 => first | k_is | rfl | decide +kernel)
    (case l6 => first | k_is | rfl | decide +kernel)
    (case c6 => first | k_is | rfl | decide +kernel)
    (case k6 => first | k_is | rfl | decide +kernel)
    (case a7 => first | k_is | rfl | decide +kernel)
    (case l7 => first | k_is | rfl | decide +kernel)
    (case c7 => first | k_is | rfl | decide +kernel)
    (case k7 => first | k_is | rfl | decide +kernel)
    (case a8 => first | k_is | rfl | decide +kernel)
    (case l8 => first | k_is | rfl | decide +kernel)
    (case c8 => first | k_is | rfl | decide +kernel)
    (case k8 => first | k_is | rfl | decide +kernel)
    (case a9 => first | k_is | rfl | decide +kernel)
    (case l9 => first | k_is | rfl | decide +kernel)
    (case c9 => first | k_is | rfl | decide +kernel)
    (case k9 => first | k_is | rfl | decide +kernel)
    (case a10 => first | k_is | rfl | decide +kernel)
    (case l10 => first | k_is | rfl | decide +kernel)
    (case c10 => first | k_is | rfl | decide +kernel)
    (case k10 => first | k_is | rfl | decide +kernel)
    (case a11 => first | k_is | rfl | decide +kernel)
    (case l11 => first | k_is | rfl | decide +kernel)
    (case c11 => first | k_is | rfl | decide +kernel)
    (case k11 => first | k_is | rfl | decide +kernel)
    (case a12 => first | k_is | rfl | decide +kernel)
    (case l12 => first | k_is | rfl | decide +kernel)
    (case c12 => first | k_is | rfl | decide +kernel)
    (case k12 => first | k_is | rfl | decide +kernel)
    (case a13 => first | k_is | rfl | decide +kernel)
    (case l13 => first | k_is | rfl | decide +kernel)
    (case c13 => first | k_is | rfl | decide +kernel)
    (case k13 => first | k_is | rfl | decide +kernel)
    (case a14 => first | k_is | rfl | decide +kernel)
    (case l14 => first | k_is | rfl | decide +kernel)
    (case c14 => first | k_is | rfl | decide +kernel)
    (case k14 => first | k_is | rfl | decide +kernel)
    (case a15 => first | k_is | rfl | decide +kernel)
    (case l15 => first | k_is | rfl | decide +kernel)
    (case c15 => first | k_is | rfl | decide +kernel)
    (case k15 => first | k_is | rfl | decide +kernel)
    (case a16 => first | k_is | rfl | decide +kernel)
    (case l16 => first | k_is | rfl | decide +kernel)
    (case c16 => first | k_is | rfl | decide +kernel)
    (case k16 => first | k_is | rfl | decide +kernel)
    (case a17 => first | k_is | rfl | decide +kernel)
    (case l17 => first | k_is | rfl | decide +kernel)
    (case c17 => first | k_is | rfl | decide +kernel)
    (case k17 => first | k_is | rfl | decide +kernel)
    (case a18 => first | k_is | rfl | decide +kernel)
    (case l18 => first | k_is | rfl | decide +kernel)
    (case c18 => first | k_is | rfl | decide +kernel)
    (case k18 => first | k_is | rfl | decide +kernel)
    (case a19 => first | k_is | rfl | decide +kernel)
    (case l19 => first | k_is | rfl | decide +kernel)
    (case c19 => first | k_is | rfl | decide +kernel)
    (case k19 => first | k_is | rfl | decide +kernel)
    (case a20 => first | k_is | rfl | decide +kernel)
    (case l20 => first | k_is | rfl | decide +kernel)
    (case c20 => first | k_is | rfl | decide +kernel)
    (case k20 => first | k_is | rfl | decide +kernel)
    (case a21 => first | k_is | rfl | decide +kernel)
    (case l21 => first | k_is | rfl | decide +kernel)
    (case c21 => first | k_is | rfl | decide +kernel)
    (case k21 => first | k_is | rfl | decide +kernel)
    (case a22 => first | k_is | rfl | decide +kernel)
    (case l22 => first | k_is | rfl | decide +kernel)
    (case c22 => first | k_is | rfl | decide +kernel)
    (case k22 => first | k_is | rfl | decide +kernel)
    (case a23 => first | k_is | rfl | decide +kernel)
    (case l23 => first | k_is | rfl | decide +kernel)
    (case c23 => first | k_is | rfl | decide +kernel)
    (case k23 => first | k_is | rfl | decide +kernel)
    (case a24 => first | k_is | rfl | decide +kernel)
    (case l24 => first | k_is | rfl | decide +kernel)
    (case c24 => first | k_is | rfl | decide +kernel)
    (case k24 => first | k_is | rfl | decide +kernel)
    (case a25 => first | k_is | rfl | decide +kernel)
    (case l25 => first | k_is | rfl | decide +kernel)
    (case c25 => first | k_is | rfl | decide +kernel)
    (case k25 => first | k_is | rfl | decide +kernel)
    (case a26 => first | k_is | rfl | decide +kernel)
    (case l26 => first | k_is | rfl | decide +kernel)
    (case c26 => first | k_is | rfl | decide +kernel)
    (case k26 => first | k_is | rfl | decide +kernel)
    (case a27 => first | k_is | rfl | decide +kernel)
    (case l27 => first | k_is | rfl | decide +kernel)
    (case c27 => first | k_is | rfl | decide +kernel)
    (case k27 => first | k_is | rfl | decide +kernel)
    (case a28 => first | k_is | rfl | decide +kernel)
    (case l28 => first | k_is | rfl | decide +kernel)
    (case c28 => first | k_is | rfl | decide +kernel)
    (case k28 => first | k_is | rfl | decide +kernel)
    (case a29 => first | k_is | rfl | decide +kernel)
    (case l29 => first | k_is | rfl | decide +kernel)
    (case c29 => first | k_is | rfl | decide +kernel)
    (case k29 => first | k_is | rfl | decide +kernel)
    (case a30 => first | k_is | rfl | decide +kernel)
    (case l30 => first | k_is | rfl | decide +kernel)
    (case c30 => first | k_is | rfl | decide +kernel)
    (case k30 => first | k_is | rfl | decide +kernel)
    (case a31 => first | k_is | rfl | decide +kernel)
    (case l31 => first | k_is | rfl | decide +kernel)
    (case c31 => first | k_is | rfl | decide +kernel)
    (case k31 => first | k_is | rfl | decide +kernel)
    (case a32 => first | k_is | rfl | decide +kernel)
    (case l32 => first | k_is | rfl | decide +kernel)
    (case c32 => first | k_is | rfl | decide +kernel)
    (case k32 => first | k_is | rfl | decide +kernel)
    (case a33 => first | k_is | rfl | decide +kernel)
    (case l33 => first | k_is | rfl | decide +kernel)
    (case c33 => first | k_is | rfl | decide +kernel)
    (case k33 => first | k_is | rfl | decide +kernel)
    (case a34 => first | k_is | rfl | decide +kernel)
    (case l34 => first | k_is | rfl | decide +kernel)
    (case c34 => first | k_is | rfl | decide +kernel)
    (case k34 => first | k_is | rfl | decide +kernel)
    (case a35 => first | k_is | rfl | decide +kernel)
    (case l35 => first | k_is | rfl | decide +kernel)
    (case c35 => first | k_is | rfl | decide +kernel)
    (case k35 => first | k_is | rfl | decide +kernel)
    (case a36 => first | k_is | rfl | decide +kernel)
    (case l36 => first | k_is | rfl | decide +kernel)
    (case c36 => first | k_is | rfl | decide +kernel)
    (case k36 => first | k_is | rfl | decide +kernel)
    (case a37 => first | k_is | rfl | decide +kernel)
    (case l37 => first | k_is | rfl | decide +kernel)
    (case c37 => first | k_is | rfl | decide +kernel)
    (case k37 => first | k_is | rfl | decide +kernel)
    (case a38 => first | k_is | rfl | decide +kernel)
    (case l38 => first | k_is | rfl | decide +kernel)
    (case c38 => first | k_is | rfl | decide +kernel)
    (case k38 => first | k_is | rfl | decide +kernel)
    (case a39 => first | k_is | rfl | decide +kernel)
    (case l39 => first | k_is | rfl | decide +kernel)
    (case c39 => first | k_is | rfl | decide +kernel)
    (case k39 => first | k_is | rfl | decide +kernel)
    (case a40 => first | k_is | rfl | decide +kernel)
    (case l40 => first | k_is | rfl | decide +kernel)
    (case c40 => first | k_is | rfl | decide +kernel)
    (case k40 => first | k_is | rfl | decide +kernel)
    (case a41 => first | k_is | rfl | decide +kernel)
    (case l41 => first | k_is | rfl | decide +kernel)
    (case c41 => first | k_is | rfl | decide +kernel)
    (case k41 => first | k_is | rfl | decide +kernel)
    (case gc0 => first | k_is | rfl | decide +kernel)
    (case gc1 => first | k_is | rfl | decide +kernel)
    (case gc2 => first | k_is | rfl | decide +kernel)
    (case gc3 => first | k_is | rfl | decide +kernel)
    (case gc4 => first | k_is | rfl | decide +kernel)
    (case gc5 => first | k_is | rfl | decide +kernel)
    (case gc6 => first | k_is | rfl | decide +kernel)
    (case aC1 => first | k_is | rfl | decide +kernel)
    (case xL1 => first | k_is | rfl | decide +kernel)
    (case xM1 => first | k_is | rfl | decide +kernel)
    (case sa1 => first | k_is | rfl | decide +kernel)
    (case ga1 => first | k_is | rfl | decide +kernel)
    (case gg1 => first | k_is | rfl | decide +kernel)
    (case nb1_place => first | k_is | rfl | decide +kernel)
    (case nb1_word => first | k_is | rfl | decide +kernel)
    (case ai1 => first | k_is | rfl | decide +kernel)
    (case ti1 => first | k_is | rfl | decide +kernel)
    (case li1 => first | k_is | rfl | decide +kernel)
    (case ci1 => first | k_is | rfl | decide +kernel)
    (case ki1 => first | k_is | rfl | decide +kernel)
    (case kC1 => first | k_is | rfl | decide +kernel)
    (case eC1 => first | k_is | rfl | decide +kernel)
    (case tC1 => first | k_is | rfl | decide +kernel)
    (case hC1 => first | k_is | rfl | decide +kernel)
    (case iC1 => first | k_is | rfl | decide +kernel)
    (case sC1 => first | k_is | rfl | decide +kernel)
    (case z0 => first | k_is | rfl | decide +kernel)
    (case z1 => first | k_is | rfl | decide +kernel)
    (case z2 => first | k_is | rfl | decide +kernel)
    (case z3 => first | k_is | rfl | decide +kernel)
    (case z4 => first | k_is | rfl | decide +kernel)
    (case z5 => first | k_is | rfl | decide +kernel)
    (case z6 => first | k_is | rfl | decide +kernel)
    (case z7 => first | k_is | rfl | decide +kernel)
    (case z8 => first | k_is | rfl | decide +kernel)
    (case z9 => first | k_is | rfl | decide +kernel)
