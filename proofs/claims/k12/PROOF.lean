import PyProof.Rows.All
import Wide.All
import OpenK.AllK
import Wide.FinOn
import HandS.Lambda
import HandS.ForExc
import KE.SortData
import KE.KNestM
import HandS.ExcInit
import HandS.ExcField
import HandS.AnyAll
import HandS.GenList
import HandS.EndTab
import HandS.Nested
import HandS.Comp
import HandS.Iter
import HandS.Text
import HandS.IsInst
import HandS.Walk
import HandS.TupAny
import HandS.TupMul
import KE.GoesEnum
import HandS.NoneIn
import HandS.Zip
import HandS.More
import HandS.Deep
import PySem.Challenge.RW_timeshelf_k12_evidence_is_checked
set_option Elab.async false
set_option linter.all false
set_option maxRecDepth 100000
set_option maxHeartbeats 2000000
local macro_rules
  | `(tactic| o_head (kmHook $k9 $a9 $e9 $t9)) => `(tactic| o_head (PySem.W.kmHook $k9 $a9 $e9 [23, 30, 37, 116]))
namespace Z
open PySem L2
def top (i : Nat) : Stmt := PySem.Challenge.pw_timeshelf_k12_evidence_is_checked.main.body.getD i (.Pass ⟨0, 0, 0, 0⟩)
abbrev s_fits : Stmt := top 1
abbrev N_fits : List Str := ["word", "pattern", "kind", "told"]
theorem sc_fits : FnScope ["word", "pattern", "kind", "told"] ["word", "pattern"] (defScope s_fits) := ⟨rfl, rfl, rfl, by decide +kernel, rfl, by decide +kernel, by decide +kernel⟩
abbrev s_matches : Stmt := top 2
abbrev N_matches : List Str := ["document", "question"]
theorem sc_matches : FnScope ["document", "question"] ["document", "question"] (defScope s_matches) := ⟨rfl, rfl, rfl, by decide +kernel, rfl, by decide +kernel, by decide +kernel⟩
abbrev s_holds : Stmt := top 3
abbrev N_holds : List Str := ["question", "is_met", "part", "kind"]
theorem sc_holds : FnScope ["question", "is_met", "part", "kind"] ["question", "is_met"] (defScope s_holds) := ⟨rfl, rfl, rfl, by decide +kernel, rfl, by decide +kernel, by decide +kernel⟩
abbrev s_has_standing : Stmt := top 4
abbrev N_has_standing : List Str := ["document", "row", "place"]
theorem sc_has_standing : FnScope ["document", "row", "place"] ["document", "row"] (defScope s_has_standing) := ⟨rfl, rfl, rfl, by decide +kernel, rfl, by decide +kernel, by decide +kernel⟩
abbrev s_longer_by_one : Stmt := top 5
abbrev N_longer_by_one : List Str := ["document", "row", "places", "place", "more", "start", "end", "longer"]
theorem sc_longer_by_one : FnScope ["document", "row", "places", "place", "more", "start", "end", "longer"] ["document", "row", "places"] (defScope s_longer_by_one) := ⟨rfl, rfl, rfl, by decide +kernel, rfl, by decide +kernel, by decide +kernel⟩
abbrev s_begins_standing : Stmt := top 6
abbrev N_begins_standing : List Str := ["document", "row", "places", "waiting", "behind", "taken", "word"]
theorem sc_begins_standing : FnScope ["document", "row", "places", "waiting", "behind", "taken", "word"] ["document", "row", "places"] (defScope s_begins_standing) := ⟨rfl, rfl, rfl, by decide +kernel, rfl, by decide +kernel, by decide +kernel⟩
abbrev s_end_behind : Stmt := top 7
abbrev N_end_behind : List Str := ["document", "row", "first", "_", "patterns", "gap"]
theorem sc_end_behind : FnScope ["document", "row", "first", "_", "patterns", "gap"] ["document", "row", "first"] (defScope s_end_behind) := ⟨rfl, rfl, rfl, by decide +kernel, rfl, by decide +kernel, by decide +kernel⟩
abbrev s_is_number : Stmt := top 9
abbrev N_is_number : List Str := ["value"]
theorem sc_is_number : FnScope ["value"] ["value"] (defScope s_is_number) := ⟨rfl, rfl, rfl, by decide +kernel, rfl, by decide +kernel, by decide +kernel⟩
abbrev s_evidence_for : Stmt := top 12
abbrev N_evidence_for : List Str := ["document", "question", "kind"]
theorem sc_evidence_for : FnScope ["document", "question", "kind"] ["document", "question"] (defScope s_evidence_for) := ⟨rfl, rfl, rfl, by decide +kernel, rfl, by decide +kernel, by decide +kernel⟩
abbrev s_evidence_for_row : Stmt := top 13
abbrev N_evidence_for_row : List Str := ["document", "row", "places", "_", "longer"]
theorem sc_evidence_for_row : FnScope ["document", "row", "places", "_", "longer"] ["document", "row"] (defScope s_evidence_for_row) := ⟨rfl, rfl, rfl, by decide +kernel, rfl, by decide +kernel, by decide +kernel⟩
abbrev s_evidence_for_parts : Stmt := top 14
abbrev N_evidence_for_parts : List Str := ["document", "question", "part", "kind", "parts", "deciding", "index"]
theorem sc_evidence_for_parts : FnScope ["document", "question", "part", "kind", "parts", "deciding", "index"] ["document", "question"] (defScope s_evidence_for_parts) := ⟨rfl, rfl, rfl, by decide +kernel, rfl, by decide +kernel, by decide +kernel⟩
abbrev s_check_evidence : Stmt := top 15
abbrev N_check_evidence : List Str := ["document", "question", "evidence", "kind"]
theorem sc_check_evidence : FnScope ["document", "question", "evidence", "kind"] ["document", "question", "evidence"] (defScope s_check_evidence) := ⟨rfl, rfl, rfl, by decide +kernel, rfl, by decide +kernel, by decide +kernel⟩
abbrev s_is_told : Stmt := top 16
abbrev N_is_told : List Str := ["evidence", "word", "length"]
theorem sc_is_told : FnScope ["evidence", "word", "length"] ["evidence", "word", "length"] (defScope s_is_told) := ⟨rfl, rfl, rfl, by decide +kernel, rfl, by decide +kernel, by decide +kernel⟩
abbrev s_check_row : Stmt := top 17
abbrev N_check_row : List Str := ["document", "row", "evidence"]
theorem sc_check_row : FnScope ["document", "row", "evidence"] ["document", "row", "evidence"] (defScope s_check_row) := ⟨rfl, rfl, rfl, by decide +kernel, rfl, by decide +kernel, by decide +kernel⟩
abbrev s_is_standing : Stmt := top 18
abbrev N_is_standing : List Str := ["document", "row", "places", "place", "pattern", "_", "patterns", "gap"]
theorem sc_is_standing : FnScope ["document", "row", "places", "place", "pattern", "_", "patterns", "gap"] ["document", "row", "places"] (defScope s_is_standing) := ⟨rfl, rfl, rfl, by decide +kernel, rfl, by decide +kernel, by decide +kernel⟩
abbrev s_is_rising : Stmt := top 19
abbrev N_is_rising : List Str := ["places", "place", "low", "high"]
theorem sc_is_rising : FnScope ["places", "place", "low", "high"] ["places"] (defScope s_is_rising) := ⟨rfl, rfl, rfl, by decide +kernel, rfl, by decide +kernel, by decide +kernel⟩
abbrev s_check_not : Stmt := top 20
abbrev N_check_not : List Str := ["document", "question", "evidence"]
theorem sc_check_not : FnScope ["document", "question", "evidence"] ["document", "question", "evidence"] (defScope s_check_not) := ⟨rfl, rfl, rfl, by decide +kernel, rfl, by decide +kernel, by decide +kernel⟩
abbrev s_check_parts : Stmt := top 21
abbrev N_check_parts : List Str := ["document", "question", "evidence", "kind", "parts", "by_one"]
theorem sc_check_parts : FnScope ["document", "question", "evidence", "kind", "parts", "by_one"] ["document", "question", "evidence"] (defScope s_check_parts) := ⟨rfl, rfl, rfl, by decide +kernel, rfl, by decide +kernel, by decide +kernel⟩
abbrev s_is_index : Stmt := top 22
abbrev N_is_index : List Str := ["value", "parts"]
theorem sc_is_index : FnScope ["value", "parts"] ["value", "parts"] (defScope s_is_index) := ⟨rfl, rfl, rfl, by decide +kernel, rfl, by decide +kernel, by decide +kernel⟩
abbrev s_is_each : Stmt := top 23
abbrev N_is_each : List Str := ["document", "parts", "evidences", "shown", "part", "told"]
theorem sc_is_each : FnScope ["document", "parts", "evidences", "shown", "part", "told"] ["document", "parts", "evidences", "shown"] (defScope s_is_each) := ⟨rfl, rfl, rfl, by decide +kernel, rfl, by decide +kernel, by decide +kernel⟩
abbrev s__law_cell : Stmt := top 25
abbrev N__law_cell : List Str := ["script", "k"]
theorem sc__law_cell : FnScope ["script", "k"] ["script", "k"] (defScope s__law_cell) := ⟨rfl, rfl, rfl, by decide +kernel, rfl, by decide +kernel, by decide +kernel⟩
abbrev s__law_digits : Stmt := top 26
abbrev N__law_digits : List Str := ["script", "first", "last", "digits", "k", "cell", "turn", "seed"]
theorem sc__law_digits : FnScope ["script", "first", "last", "digits", "k", "cell", "turn", "seed"] ["script", "first", "last"] (defScope s__law_digits) := ⟨rfl, rfl, rfl, by decide +kernel, rfl, by decide +kernel, by decide +kernel⟩
abbrev s__law_draw : Stmt := top 27
abbrev N__law_draw : List Str := ["box", "many", "at"]
theorem sc__law_draw : FnScope ["box", "many", "at"] ["box", "many"] (defScope s__law_draw) := ⟨rfl, rfl, rfl, by decide +kernel, rfl, by decide +kernel, by decide +kernel⟩
abbrev s__law_same : Stmt := top 28
abbrev N__law_same : List Str := ["actual", "due", "k"]
theorem sc__law_same : FnScope ["actual", "due", "k"] ["actual", "due"] (defScope s__law_same) := ⟨rfl, rfl, rfl, by decide +kernel, rfl, by decide +kernel, by decide +kernel⟩
abbrev s__law_word : Stmt := top 29
abbrev N__law_word : List Str := ["box", "kind", "word", "k"]
theorem sc__law_word : FnScope ["box", "kind", "word", "k"] ["box"] (defScope s__law_word) := ⟨rfl, rfl, rfl, by decide +kernel, rfl, by decide +kernel, by decide +kernel⟩
abbrev s__law_pattern : Stmt := top 30
abbrev N__law_pattern : List Str := ["box"]
theorem sc__law_pattern : FnScope ["box"] ["box"] (defScope s__law_pattern) := ⟨rfl, rfl, rfl, by decide +kernel, rfl, by decide +kernel, by decide +kernel⟩
abbrev s__law_question : Stmt := top 31
abbrev N__law_question : List Str := ["box", "depth", "simple", "k", "kind", "many", "gap", "parts"]
theorem sc__law_question : FnScope ["box", "depth", "simple", "k", "kind", "many", "gap", "parts"] ["box", "depth", "simple"] (defScope s__law_question) := ⟨rfl, rfl, rfl, by decide +kernel, rfl, by decide +kernel, by decide +kernel⟩
abbrev s__law_document : Stmt := top 32
abbrev N__law_document : List Str := ["box", "most", "words", "k"]
theorem sc__law_document : FnScope ["box", "most", "words", "k"] ["box", "most"] (defScope s__law_document) := ⟨rfl, rfl, rfl, by decide +kernel, rfl, by decide +kernel, by decide +kernel⟩
abbrev s__law_fits : Stmt := top 33
abbrev N__law_fits : List Str := ["word", "pattern"]
theorem sc__law_fits : FnScope ["word", "pattern"] ["word", "pattern"] (defScope s__law_fits) := ⟨rfl, rfl, rfl, by decide +kernel, rfl, by decide +kernel, by decide +kernel⟩
abbrev s__law_standings : Stmt := top 34
abbrev N__law_standings : List Str := ["document", "row", "ways", "pattern", "longer", "way", "place"]
theorem sc__law_standings : FnScope ["document", "row", "ways", "pattern", "longer", "way", "place"] ["document", "row"] (defScope s__law_standings) := ⟨rfl, rfl, rfl, by decide +kernel, rfl, by decide +kernel, by decide +kernel⟩
abbrev s__law_spoilt : Stmt := top 35
abbrev N__law_spoilt : List Str := ["box", "evidence", "kind", "places", "at", "parts"]
theorem sc__law_spoilt : FnScope ["box", "evidence", "kind", "places", "at", "parts"] ["box", "evidence"] (defScope s__law_spoilt) := ⟨rfl, rfl, rfl, by decide +kernel, rfl, by decide +kernel, by decide +kernel⟩
abbrev s__law_is_standing : Stmt := top 36
abbrev N__law_is_standing : List Str := ["document", "row", "places"]
theorem sc__law_is_standing : FnScope ["document", "row", "places"] ["document", "row", "places"] (defScope s__law_is_standing) := ⟨rfl, rfl, rfl, by decide +kernel, rfl, by decide +kernel, by decide +kernel⟩
abbrev s__law_shown : Stmt := top 37
abbrev N__law_shown : List Str := ["document", "question", "evidence", "kind", "inner", "parts", "words", "k"]
theorem sc__law_shown : FnScope ["document", "question", "evidence", "kind", "inner", "parts", "words", "k"] ["document", "question", "evidence"] (defScope s__law_shown) := ⟨rfl, rfl, rfl, by decide +kernel, rfl, by decide +kernel, by decide +kernel⟩
abbrev s_law : Stmt := top 38
abbrev N_law : List Str := ["script", "box", "question", "document", "evidence", "turn"]
theorem sc_law : FnScope ["script", "box", "question", "document", "evidence", "turn"] ["script"] (defScope s_law) := ⟨rfl, rfl, rfl, by decide +kernel, rfl, by decide +kernel, by decide +kernel⟩
structure Txt (K : PySem.W.Frag) (mg : Str → Option Value) (A : Nat → Addr) (D : Nat → FuncData) : Prop where
  F_fits : Fun K "fits" "fits" s_fits (A 0) (D 0)
  b_fits : Binds K (D 0) ["word", "pattern"] []
  m_fits : mg "fits" = some (.ref (A 0))
  F_matches : Fun K "matches" "matches" s_matches (A 1) (D 1)
  b_matches : Binds K (D 1) ["document", "question"] []
  m_matches : mg "matches" = some (.ref (A 1))
  F_holds : Fun K "holds" "holds" s_holds (A 2) (D 2)
  b_holds : Binds K (D 2) ["question", "is_met"] []
  m_holds : mg "holds" = some (.ref (A 2))
  F_has_standing : Fun K "has_standing" "has_standing" s_has_standing (A 3) (D 3)
  b_has_standing : Binds K (D 3) ["document", "row"] []
  m_has_standing : mg "has_standing" = some (.ref (A 3))
  F_longer_by_one : Fun K "longer_by_one" "longer_by_one" s_longer_by_one (A 4) (D 4)
  b_longer_by_one : Binds K (D 4) ["document", "row", "places"] []
  m_longer_by_one : mg "longer_by_one" = some (.ref (A 4))
  F_begins_standing : Fun K "begins_standing" "begins_standing" s_begins_standing (A 5) (D 5)
  b_begins_standing : Binds K (D 5) ["document", "row", "places"] []
  m_begins_standing : mg "begins_standing" = some (.ref (A 5))
  F_end_behind : Fun K "end_behind" "end_behind" s_end_behind (A 6) (D 6)
  b_end_behind : Binds K (D 6) ["document", "row", "first"] []
  m_end_behind : mg "end_behind" = some (.ref (A 6))
  F_is_number : Fun K "is_number" "is_number" s_is_number (A 7) (D 7)
  b_is_number : Binds K (D 7) ["value"] []
  m_is_number : mg "is_number" = some (.ref (A 7))
  F_evidence_for : Fun K "evidence_for" "evidence_for" s_evidence_for (A 8) (D 8)
  b_evidence_for : Binds K (D 8) ["document", "question"] []
  m_evidence_for : mg "evidence_for" = some (.ref (A 8))
  F_evidence_for_row : Fun K "evidence_for_row" "evidence_for_row" s_evidence_for_row (A 9) (D 9)
  b_evidence_for_row : Binds K (D 9) ["document", "row"] []
  m_evidence_for_row : mg "evidence_for_row" = some (.ref (A 9))
  F_evidence_for_parts : Fun K "evidence_for_parts" "evidence_for_parts" s_evidence_for_parts (A 10) (D 10)
  b_evidence_for_parts : Binds K (D 10) ["document", "question"] []
  m_evidence_for_parts : mg "evidence_for_parts" = some (.ref (A 10))
  F_check_evidence : Fun K "check_evidence" "check_evidence" s_check_evidence (A 11) (D 11)
  b_check_evidence : Binds K (D 11) ["document", "question", "evidence"] []
  m_check_evidence : mg "check_evidence" = some (.ref (A 11))
  F_is_told : Fun K "is_told" "is_told" s_is_told (A 12) (D 12)
  b_is_told : Binds K (D 12) ["evidence", "word", "length"] []
  m_is_told : mg "is_told" = some (.ref (A 12))
  F_check_row : Fun K "check_row" "check_row" s_check_row (A 13) (D 13)
  b_check_row : Binds K (D 13) ["document", "row", "evidence"] []
  m_check_row : mg "check_row" = some (.ref (A 13))
  F_is_standing : Fun K "is_standing" "is_standing" s_is_standing (A 14) (D 14)
  b_is_standing : Binds K (D 14) ["document", "row", "places"] []
  m_is_standing : mg "is_standing" = some (.ref (A 14))
  F_is_rising : Fun K "is_rising" "is_rising" s_is_rising (A 15) (D 15)
  b_is_rising : Binds K (D 15) ["places"] []
  m_is_rising : mg "is_rising" = some (.ref (A 15))
  F_check_not : Fun K "check_not" "check_not" s_check_not (A 16) (D 16)
  b_check_not : Binds K (D 16) ["document", "question", "evidence"] []
  m_check_not : mg "check_not" = some (.ref (A 16))
  F_check_parts : Fun K "check_parts" "check_parts" s_check_parts (A 17) (D 17)
  b_check_parts : Binds K (D 17) ["document", "question", "evidence"] []
  m_check_parts : mg "check_parts" = some (.ref (A 17))
  F_is_index : Fun K "is_index" "is_index" s_is_index (A 18) (D 18)
  b_is_index : Binds K (D 18) ["value", "parts"] []
  m_is_index : mg "is_index" = some (.ref (A 18))
  F_is_each : Fun K "is_each" "is_each" s_is_each (A 19) (D 19)
  b_is_each : Binds K (D 19) ["document", "parts", "evidences", "shown"] []
  m_is_each : mg "is_each" = some (.ref (A 19))
  F__law_cell : Fun K "_law_cell" "_law_cell" s__law_cell (A 20) (D 20)
  b__law_cell : Binds K (D 20) ["script", "k"] []
  m__law_cell : mg "_law_cell" = some (.ref (A 20))
  F__law_digits : Fun K "_law_digits" "_law_digits" s__law_digits (A 21) (D 21)
  b__law_digits : Binds K (D 21) ["script", "first", "last"] []
  m__law_digits : mg "_law_digits" = some (.ref (A 21))
  F__law_draw : Fun K "_law_draw" "_law_draw" s__law_draw (A 22) (D 22)
  b__law_draw : Binds K (D 22) ["box", "many"] []
  m__law_draw : mg "_law_draw" = some (.ref (A 22))
  F__law_same : Fun K "_law_same" "_law_same" s__law_same (A 23) (D 23)
  b__law_same : Binds K (D 23) ["actual", "due"] []
  m__law_same : mg "_law_same" = some (.ref (A 23))
  F__law_word : Fun K "_law_word" "_law_word" s__law_word (A 24) (D 24)
  b__law_word : Binds K (D 24) ["box"] []
  m__law_word : mg "_law_word" = some (.ref (A 24))
  F__law_pattern : Fun K "_law_pattern" "_law_pattern" s__law_pattern (A 25) (D 25)
  b__law_pattern : Binds K (D 25) ["box"] []
  m__law_pattern : mg "_law_pattern" = some (.ref (A 25))
  F__law_question : Fun K "_law_question" "_law_question" s__law_question (A 26) (D 26)
  b__law_question : Binds K (D 26) ["box", "depth", "simple"] []
  m__law_question : mg "_law_question" = some (.ref (A 26))
  F__law_document : Fun K "_law_document" "_law_document" s__law_document (A 27) (D 27)
  b__law_document : Binds K (D 27) ["box", "most"] []
  m__law_document : mg "_law_document" = some (.ref (A 27))
  F__law_fits : Fun K "_law_fits" "_law_fits" s__law_fits (A 28) (D 28)
  b__law_fits : Binds K (D 28) ["word", "pattern"] []
  m__law_fits : mg "_law_fits" = some (.ref (A 28))
  F__law_standings : Fun K "_law_standings" "_law_standings" s__law_standings (A 29) (D 29)
  b__law_standings : Binds K (D 29) ["document", "row"] []
  m__law_standings : mg "_law_standings" = some (.ref (A 29))
  F__law_spoilt : Fun K "_law_spoilt" "_law_spoilt" s__law_spoilt (A 30) (D 30)
  b__law_spoilt : Binds K (D 30) ["box", "evidence"] []
  m__law_spoilt : mg "_law_spoilt" = some (.ref (A 30))
  F__law_is_standing : Fun K "_law_is_standing" "_law_is_standing" s__law_is_standing (A 31) (D 31)
  b__law_is_standing : Binds K (D 31) ["document", "row", "places"] []
  m__law_is_standing : mg "_law_is_standing" = some (.ref (A 31))
  F__law_shown : Fun K "_law_shown" "_law_shown" s__law_shown (A 32) (D 32)
  b__law_shown : Binds K (D 32) ["document", "question", "evidence"] []
  m__law_shown : mg "_law_shown" = some (.ref (A 32))
  F_law : Fun K "law" "law" s_law (A 33) (D 33)
  b_law : Binds K (D 33) ["script"] []
  m_law : mg "law" = some (.ref (A 33))
  z_all : mg "all" = none
  z_any : mg "any" = none
  z_bool : mg "bool" = none
  z_enumerate : mg "enumerate" = none
  z_int : mg "int" = none
  z_isinstance : mg "isinstance" = none
  z_len : mg "len" = none
  z_list : mg "list" = none
  z_min : mg "min" = none
  z_range : mg "range" = none
  z_sorted : mg "sorted" = none
  z_str : mg "str" = none
  z_tuple : mg "tuple" = none
  z_zip : mg "zip" = none

/-! ### what all laws share: cells, digits, draws -/
theorem same_upd {H H' : Hp} {p : Addr} {o : HO} (h : Same H H') (hp : H p = none) : Same H (upd H' p o) := fun b u q => by
  rw [upd_ne (ne_of_none q hp)]; exact h b u q
theorem same_new {H : Hp} {p : Addr} {o : HO} (h : H p = none) : Same H (upd H p o) := same_upd (Same.refl H) h
def yCell (K : PySem.W.Frag) : Sp := fun vs H Q _ => ∃ (l : Addr) (ns : List Int) (k : Nat), vs = [.ref l, .int (k : Int)] ∧ SqL K H l (ns.map V.int) ∧ ∀ z : Int, Q (.int z) H
theorem at_ints {ns : List Int} {k : Nat} (h : k < ns.length) : atI (ns.map V.int) (k : Int) = some (.int (ns.getD k 0)) := by
  apply atI_nat
  rw [List.getElem?_map, List.getElem?_eq_getElem h, List.getD_eq_getElem?_getD, List.getElem?_eq_getElem h]
  rfl
section
variable {P : Program} {w : World} {K : PySem.W.Frag} {mg : Str → Option Value} {base : Heap} {A : Nat → Addr} {D : Nat → FuncData}
theorem ok_cell (T : Txt K mg A D) : FnOk P w K mg base CX0 1 (A 20) (D 20) ["script", "k"] (yCell K) := by
  refine T.F__law_cell.ok sc__law_cell (fun vs H Q E h => ?_) (fun cdv A' outer s H vs Q E hr h => ?_)
  · obtain ⟨l, ns, k, rfl, _⟩ := h; rfl
  obtain ⟨l, ns, k, rfl, hS, q⟩ := h
  refine ⟨_, (pss_cons (ps_if (pt_cmpR op_lt (pv 1) (pe_callB call_len_seq rfl T.z_len PySem.boot_len (pa_cons (pv 0) pa_nil)) (nomark _)) (pss_one (ps_ret (pe_ix (r := rIxL K) ix_list (pv 0) (pv 1) (fun _ _ => rfl)))) pss_nil) (pss_one (ps_ret pe_int))), ?_⟩
  refine ⟨_, rfl, _, rfl, l, _, rfl, .inl hS, _, _, rfl, rfl, _, rfl, ?_⟩
  refine ite2 (fun c => ?_) (fun c => ?_)
  · have c' : (k : Int) < (((ns.map V.int).length : Nat) : Int) := of_decide_eq_true c
    rw [List.length_map] at c'
    exact ⟨_, rfl, _, rfl, l, _, _, _, rfl, rfl, hS, at_ints (by omega), q _⟩
  · exact q 0
def yDigits (K : PySem.W.Frag) : Sp := fun vs H Q _ => ∃ (l : Addr) (ns : List Int), vs = [.ref l, .int 0, .int 63] ∧ SqL K H l (ns.map V.int) ∧
  ∀ (p : Addr) (ds : List Int) (H' : Hp), Same H H' → H p = none → H' p = some (.lst (ds.map V.int)) → ds.length ≤ 3780 → Q (.ref p) H'
theorem len_lt {n : Nat} (h : n ≤ 1000000) : n < sizeLine := Nat.lt_of_le_of_lt h (by decide)
theorem app_map {ds : List Int} {z : Int} : ds.map V.int ++ [V.int z] = (ds ++ [z]).map V.int := by rw [List.map_append]; rfl
theorem ok_digits (T : Txt K mg A D) : FnOk P w K mg base CX0 2 (A 21) (D 21) ["script", "first", "last"] (yDigits K) := by
  refine T.F__law_digits.ok sc__law_digits (fun vs H Q E h => ?_) (fun cdv A' outer s H vs Q E hr h => ?_)
  · obtain ⟨l, ns, rfl, _⟩ := h; rfl
  obtain ⟨l, ns, rfl, hS, q⟩ := h
  have G__law_cell := ok_cell (P := P) (w := w) (base := base) T
  have hnd := sc__law_digits.nd
  refine ⟨_, (pss_cons (ps_set (i := 3) hnd rfl (Or.inl rfl) (pe_lst pa_nil)) (pss_cons (ps_for PassesOwn.never rfl (pi_range2 rfl T.z_range (pa_cons (pv 1) (pa_cons (pv 2) pa_nil))) (pg_name (i := 4) hnd rfl (Or.inl rfl)) (pss_cons (ps_set (i := 5) hnd rfl (Or.inl rfl) (pe_call G__law_cell (hr.mono (by first | decide | omega)) rfl T.m__law_cell T.F__law_cell.kp T.b__law_cell .nil pass0 (pa_cons (pv 0) (pa_cons (pv 4) pa_nil)))) (pss_cons (ps_if (pt_cmpR op_lt (pv 5) pe_int (nomark _)) (pss_one (ps_set (i := 5) hnd rfl (Or.inl rfl) (pe_op op_sub pe_int (pe_op op_mul pe_int (pv 5))))) pss_nil) (pss_one (ps_if (pt_cmpR op_ge (pv 5) (pe_op op_pow pe_int pe_int) (nomark _)) (pss_one (ps_for PassesOwn.never rfl (pi_range1 rfl T.z_range (pa_cons pe_int pa_nil)) (pg_name (i := 6) hnd rfl (Or.inl rfl)) (pss_one (ps_if (pt_cmpR op_gt (pv 5) pe_int (nomark _)) (pss_cons (ps_expr (pe_bm PySem.F.plainAttrs_list PySem.F.slot_list_append PySem.F.type_list_append mt_append (pv 3) (pa_cons (pe_op op_mod (pe_callTy call_int1 rfl T.z_int (by decide +kernel) (pa_cons (pv 5) pa_nil)) pe_int) pa_nil))) (pss_one (ps_set (i := 5) hnd rfl (Or.inl rfl) (pe_op op_fdiv (pv 5) pe_int)))) pss_nil)))) (pss_cons (ps_set (i := 7) hnd rfl (Or.inl rfl) (pe_op op_mod (pe_callTy call_int1 rfl T.z_int (by decide +kernel) (pa_cons (pe_op op_add (pe_op op_add (pe_op op_mul (pv 5) pe_int) (pe_op op_mul (pv 4) pe_int)) pe_int) pa_nil)) pe_int)) (pss_one (ps_for PassesOwn.never rfl (pi_range1 rfl T.z_range (pa_cons pe_int pa_nil)) (pg_name (i := 6) hnd rfl (Or.inl rfl)) (pss_cons (ps_set (i := 7) hnd rfl (Or.inl rfl) (pe_op op_mod (pe_callTy call_int1 rfl T.z_int (by decide +kernel) (pa_cons (pe_op op_add (pe_op op_add (pe_op op_mul (pv 7) pe_int) (pe_op op_mul pe_int (pv 6))) pe_int) pa_nil)) pe_int)) (pss_one (ps_expr (pe_bm PySem.F.plainAttrs_list PySem.F.slot_list_append PySem.F.type_list_append mt_append (pv 3) (pa_cons (pe_op op_mod (pe_callTy call_int1 rfl T.z_int (by decide +kernel) (pa_cons (pe_op op_fdiv (pv 7) pe_int) pa_nil)) pe_int) pa_nil))))))))))))) (pss_one (ps_ret (pv 3))))), ?_⟩
  refine ⟨(by decide), fun p hp => ?_⟩
  have sH := fun o => same_new (o := o) hp
  refine ⟨_, rfl, _, rfl, (0 : Int), (63 : Int), rfl, (by decide), ?_⟩
  refine for_range (lo := 0) (n := 63) (fun i σ H' => ∃ (ds : List Int) (c4 c5 c6 c7 : Option V), σ = [some (.ref l), some (.int 0), some (.int 63), some (.ref p), c4, c5, c6, c7] ∧ Same H H' ∧ H' p = some (.lst (ds.map V.int)) ∧ ds.length ≤ 60 * i)
    ⟨[], none, none, none, none, rfl, sH _, upd_same, Nat.zero_le _⟩ ?_ ?_
  · rintro i σ H1 hi ⟨ds, c4, c5, c6, c7, rfl, s1, hd, hl⟩
    refine ⟨_, rfl, _, rfl, l, ns, i, (by rw [Int.zero_add]; rfl), s1.seq hS, fun z => ?_⟩
    refine ⟨_, rfl, _, _, rfl, rfl, _, rfl, ?_⟩
    refine ite2 (fun c => ?_) (fun c => ?_)
    refine ⟨_, rfl, _, _, rfl, rfl, .inl ⟨by decide, by decide⟩, _, _, rfl, rfl, ?_⟩
    all_goals
      refine ⟨_, rfl, _, _, rfl, rfl, ⟨by decide, by decide, by decide⟩, _, _, rfl, rfl, _, rfl, ?_⟩
      refine ite2 (fun _ => ?_) (fun _ => ?_)
      · refine ⟨_, rfl, by decide, by decide, for_range (n := 60) (fun t σ H' => ∃ (ds : List Int) (c : Int) (c6 : Option V), σ = [some (.ref l), some (.int 0), some (.int 63), some (.ref p), some (.int (0 + (i : Int))), some (.int c), c6, c7] ∧ Same H H' ∧ H' p = some (.lst (ds.map V.int)) ∧ ds.length ≤ 60 * i + t)
          ⟨ds, _, c6, rfl, s1, hd, by omega⟩ ?_ ?_⟩
        · rintro t σ H2 ht ⟨ds2, c, c6, rfl, s2, hd2, hl2⟩
          refine ⟨_, rfl, _, _, rfl, rfl, _, rfl, ?_⟩
          refine ite2 (fun _ => ?_) (fun _ => ?_)
          · refine ⟨_, rfl, .inl ⟨rfl, _, SqL.of hd2⟩, _, rfl, .inl ⟨_, rfl, _, _, rfl, rfl, (by show (0 : Int) < _; decide), _, _, _, rfl, rfl, hd2, (by rw [List.length_map]; exact len_lt (by omega)), ?_⟩⟩
            refine ⟨_, rfl, _, _, rfl, rfl, ⟨by decide, by decide⟩, ?_⟩
            exact ⟨_, _, _, rfl, same_upd s2 hp, by rw [upd_same, app_map], by rw [List.length_append]; simp only [List.length_singleton]; omega⟩
          · exact ⟨_, _, _, rfl, s2, hd2, by omega⟩
        · rintro σ H2 ⟨ds2, c, c6, rfl, s2, hd2, hl2⟩
          exact ⟨_, _, _, _, _, rfl, s2, hd2, by omega⟩
      · refine ⟨_, rfl, _, _, rfl, rfl, .inr ⟨by decide, by decide⟩, _, rfl, _, _, rfl, rfl, .inr ⟨by decide, by decide⟩, _, _, rfl, rfl, _, _, rfl, rfl, .inl ⟨_, rfl, _, _, rfl, rfl, (by show (0 : Int) < _; decide), ?_⟩⟩
        refine ⟨_, rfl, by decide, by decide, for_range (n := 12) (fun t σ H' => ∃ (ds : List Int) (c : Int) (c5 c6 : Option V), σ = [some (.ref l), some (.int 0), some (.int 63), some (.ref p), some (.int (0 + (i : Int))), c5, c6, some (.int c)] ∧ Same H H' ∧ H' p = some (.lst (ds.map V.int)) ∧ ds.length ≤ 60 * i + t)
          ⟨ds, _, _, _, rfl, s1, hd, by omega⟩ ?_ ?_⟩
        · rintro t σ H2 ht ⟨ds2, c, c5, c6, rfl, s2, hd2, hl2⟩
          refine ⟨_, rfl, _, _, rfl, rfl, .inr ⟨by decide, by decide⟩, _, rfl, _, _, rfl, rfl, .inl ⟨by decide, by decide⟩, _, _, rfl, rfl, _, _, rfl, rfl, .inl ⟨_, rfl, _, _, rfl, rfl, (by show (0 : Int) < _; decide), ?_⟩⟩
          refine ⟨_, rfl, .inl ⟨rfl, _, SqL.of hd2⟩, _, rfl, _, _, rfl, rfl, ⟨by decide, by decide⟩, .inl ⟨_, rfl, _, _, rfl, rfl, (by show (0 : Int) < _; decide), _, _, _, rfl, rfl, hd2, (by rw [List.length_map]; exact len_lt (by omega)), ?_⟩⟩
          exact ⟨_, _, _, _, rfl, same_upd s2 hp, by rw [upd_same, app_map], by rw [List.length_append]; simp only [List.length_singleton]; omega⟩
        · rintro σ H2 ⟨ds2, c, c5, c6, rfl, s2, hd2, hl2⟩
          exact ⟨_, _, _, _, _, rfl, s2, hd2, by omega⟩
  · rintro σ H1 ⟨ds, c4, c5, c6, c7, rfl, s1, hd, hl⟩
    exact ⟨_, rfl, q p ds H1 s1 hp hd (by omega)⟩
end


/-- all but the object at b stand as before -/
def Kp (b : Addr) (H H' : Hp) : Prop := ∀ c o, H c = some o → c ≠ b → H' c = some o
theorem Kp.refl (b : Addr) (H : Hp) : Kp b H H := fun _ _ h _ => h
theorem Kp.trans {b : Addr} {H H1 H2 : Hp} (a : Kp b H H1) (c : Kp b H1 H2) : Kp b H H2 := fun x o h n => c x o (a x o h n) n
theorem Kp.upd {b : Addr} {H H' : Hp} {o : HO} (a : Kp b H H') : Kp b H (upd H' b o) := fun x u h n => by rw [upd_ne n]; exact a x u h n
theorem Kp.of {b : Addr} {H H' : Hp} (a : Same H H') : Kp b H H' := fun x o h _ => a x o h
/-- the box of draws: its digits at p, the place -/
def BoxAt (H : Hp) (b p : Addr) : Prop := ∃ (ns : List Int) (n : Nat), H b = some (.lst [.ref p, .int (n : Int)]) ∧ H p = some (.lst (ns.map V.int))
theorem BoxAt.keep {H H' : Hp} {b p : Addr} (h : BoxAt H b p) (k : Same H H') : BoxAt H' b p := by
  obtain ⟨ns, n, h1, h2⟩ := h
  exact ⟨ns, n, k _ _ h1, k _ _ h2⟩
theorem BoxAt.ne {H : Hp} {b p d : Addr} (h : BoxAt H b p) (hd : H d = none) : d ≠ b ∧ d ≠ p := by
  obtain ⟨ns, n, h1, h2⟩ := h
  exact ⟨fun e => (by rw [e, h1] at hd; cases hd), fun e => (by rw [e, h2] at hd; cases hd)⟩
theorem BoxAt.updO {H : Hp} {b p d : Addr} {o : HO} (h : BoxAt H b p) (n1 : d ≠ b) (n2 : d ≠ p) : BoxAt (upd H d o) b p := by
  obtain ⟨ns, n, h1, h2⟩ := h
  exact ⟨ns, n, by rw [upd_ne n1.symm]; exact h1, by rw [upd_ne n2.symm]; exact h2⟩
/-- tuples stand as before -/
def TK (H H' : Hp) : Prop := ∀ c u, (∃ xs, u = .tup xs) → Rd H c u → Rd H' c u
theorem TK.refl (H : Hp) : TK H H := fun _ _ _ h => h
theorem TK.trans {H H1 H2 : Hp} (a : TK H H1) (b : TK H1 H2) : TK H H2 := fun c u h r => b c u h (a c u h r)
theorem TK.same {H H' : Hp} (a : Same H H') : TK H H' := fun c u _ r => by
  rcases r with r | ⟨o, r⟩
  · exact .inl (a _ _ r)
  · exact .inr ⟨o, a _ _ r⟩
theorem TK.kp {b : Addr} {H H' : Hp} {xs : List V} (a : Kp b H H') (h : H b = some (.lst xs)) : TK H H' := fun c u ⟨ys, e⟩ r => by
  subst e
  have hn : c ≠ b := fun z => by subst z; rcases r with r | ⟨o, r⟩ <;> (rw [h] at r; cases r)
  rcases r with r | ⟨o, r⟩
  · exact .inl (a _ _ r hn)
  · exact .inr ⟨o, a _ _ r hn⟩
theorem TK.box {b p : Addr} {H H' : Hp} (h : BoxAt H b p) (a : Kp b H H') : TK H H' := by
  obtain ⟨ns, n, h1, h2⟩ := h
  exact TK.kp a h1
theorem TK.updL {H H' : Hp} {b : Addr} {xs ys : List V} (a : TK H H') (h : H' b = some (.lst xs)) : TK H (upd H' b (.lst ys)) :=
  a.trans (TK.kp (Kp.upd (Kp.refl b H')) h)
theorem TK.new {H H' : Hp} {b : Addr} {o : HO} (a : TK H H') (h : H' b = none) : TK H (upd H' b o) := a.trans (TK.same (same_new h))
theorem TK.seq {K : PySem.W.Frag} {H H' : Hp} (k : TK H H') {a : Addr} {xs : List V} (h : SqT K H a xs) : SqT K H' a xs := by
  rcases h with h | h
  · exact .inl (k _ _ ⟨_, rfl⟩ h)
  · exact .inr h
/-- data without lists -/
inductive Imm : PyData → Prop
  | non : Imm .none
  | bl (b : Bool) : Imm (.bool b)
  | int (i : Int) : Imm (.int i)
  | str (x : Str) : Imm (.str x)
  | tup {ds : List PyData} : (∀ d ∈ ds, Imm d) → Imm (.tuple ds)
mutual
theorem Dp.keep {K : PySem.W.Frag} {H H' : Hp} (k : TK H H') : ∀ {v : V} {d : PyData}, Dp K H v d → Imm d → Dp K H' v d
  | _, _, .non, _ => .non
  | _, _, .bl b, _ => .bl b
  | _, _, .int i, _ => .int i
  | _, _, .str x, _ => .str x
  | _, _, .lst h a, i => nomatch i
  | _, _, .tup h a, i => .tup (k.seq h) (DpAll.keep k a (match i with | .tup j => j))
theorem DpAll.keep {K : PySem.W.Frag} {H H' : Hp} (k : TK H H') : ∀ {vs : List V} {ds : List PyData}, DpAll K H vs ds → (∀ d ∈ ds, Imm d) → DpAll K H' vs ds
  | _, _, .nil, _ => .nil
  | _, _, .cons a b, i => .cons (Dp.keep k a (i _ List.mem_cons_self)) (DpAll.keep k b fun d hd => i d (List.mem_cons_of_mem _ hd))
end
mutual
theorem Dp.same {K : PySem.W.Frag} {H H' : Hp} (k : Same H H') : ∀ {v : V} {d : PyData}, Dp K H v d → Dp K H' v d
  | _, _, .non => .non
  | _, _, .bl b => .bl b
  | _, _, .int i => .int i
  | _, _, .str x => .str x
  | _, _, .lst h a => .lst (k.seq h) (DpAll.same k a)
  | _, _, .tup h a => .tup ((TK.same k).seq h) (DpAll.same k a)
theorem DpAll.same {K : PySem.W.Frag} {H H' : Hp} (k : Same H H') : ∀ {vs : List V} {ds : List PyData}, DpAll K H vs ds → DpAll K H' vs ds
  | _, _, .nil => .nil
  | _, _, .cons a b => .cons (Dp.same k a) (DpAll.same k b)
end
theorem DpAll.len {K : PySem.W.Frag} {H : Hp} : ∀ {vs : List V} {ds : List PyData}, DpAll K H vs ds → vs.length = ds.length
  | _, _, .nil => rfl
  | _, _, .cons a b => by rw [List.length_cons, List.length_cons, DpAll.len b]
theorem DpAll.get {K : PySem.W.Frag} {H : Hp} : ∀ {vs : List V} {ds : List PyData}, DpAll K H vs ds → ∀ {i : Nat} {d : PyData}, ds[i]? = some d → ∃ v, vs[i]? = some v ∧ Dp K H v d
  | _, _, .nil, i, d, h => by simp at h
  | _, _, .cons a b, 0, d, h => by
    have e := Option.some.inj h
    subst e
    exact ⟨_, rfl, a⟩
  | _, _, .cons a b, i + 1, d, h => DpAll.get b (i := i) (by simpa using h)
theorem DpAll.app {K : PySem.W.Frag} {H : Hp} : ∀ {vs ws : List V} {ds es : List PyData}, DpAll K H vs ds → DpAll K H ws es → DpAll K H (vs ++ ws) (ds ++ es)
  | _, _, _, _, .nil, h => h
  | _, _, _, _, .cons a b, h => .cons a (DpAll.app b h)
theorem DpAll.ints {K : PySem.W.Frag} {H : Hp} : ∀ (ns : List Int), DpAll K H (ns.map V.int) (ns.map PyData.int)
  | [] => .nil
  | n :: r => .cons (.int n) (DpAll.ints r)
theorem DpAll.strs {K : PySem.W.Frag} {H : Hp} : ∀ (ns : List Str), DpAll K H (ns.map V.str) (ns.map PyData.str)
  | [] => .nil
  | n :: r => .cons (.str n) (DpAll.strs r)
/-- depth below n, lists not too long -/
def Fits : Nat → PyData → Prop
  | 0, _ => False
  | n + 1, .list xs => xs.length < 2 ^ 60 ∧ ∀ x ∈ xs, Fits n x
  | n + 1, .tuple xs => xs.length < 2 ^ 60 ∧ ∀ x ∈ xs, Fits n x
  | _ + 1, .dict _ => False
  | _ + 1, _ => True
theorem ty_l {K : PySem.W.Frag} {H : Hp} {a : Addr} {xs : List V} (h : SqL K H a xs) : TyX K H (.ref a) (.type "list") := by
  rcases h with (h | ⟨o, h⟩) | ⟨o, its, n, h1, h2, _⟩
  · exact .base (.lst h)
  · exact .base (.frz h)
  · exact .kList h1 h2
theorem ty_t {K : PySem.W.Frag} {H : Hp} {a : Addr} {xs : List V} (h : SqT K H a xs) : TyX K H (.ref a) (.type "tuple") := by
  rcases h with (h | ⟨o, h⟩) | ⟨o, its, n, h1, h2, _⟩
  · exact .base (.tup h)
  · exact .fTuple h
  · exact .kTuple h1 h2
/-- the two are the same data: True -/
def ySame (K : PySem.W.Frag) (n : Nat) : Sp := fun vs H Q _ => ∃ (x y : V) (d : PyData), vs = [x, y] ∧ Dp K H x d ∧ Dp K H y d ∧ Fits n d ∧ Q (.bl true) H
def yDraw (K : PySem.W.Frag) : Sp := fun vs H Q _ => ∃ (b p : Addr) (m : Int), vs = [.ref b, .int m] ∧ BoxAt H b p ∧ 0 < m ∧
  ∀ (r : Int) (H' : Hp), 0 ≤ r → r < m → BoxAt H' b p → Kp b H H' → Q (.int r) H'
section
variable {P : Program} {w : World} {K : PySem.W.Frag} {mg : Str → Option Value} {base : Heap} {A : Nat → Addr} {D : Nat → FuncData}
theorem ok_draw (T : Txt K mg A D) : FnOk P w K mg base CX0 1 (A 22) (D 22) ["box", "many"] (yDraw K) := by
  refine T.F__law_draw.ok sc__law_draw (fun vs H Q E h => ?_) (fun cdv A' outer s H vs Q E hr h => ?_)
  · obtain ⟨b, d, m, rfl, _⟩ := h; rfl
  obtain ⟨b, d, m, rfl, ⟨ns, n, h1, h2⟩, hm, q⟩ := h
  have hnd := sc__law_draw.nd
  have ndb : d ≠ b := fun e => by
    rw [e, h1] at h2
    cases ns with
    | nil => simp at h2
    | cons a r => simp at h2
  refine ⟨_, (pss_cons (ps_set (i := 2) hnd rfl (Or.inl rfl) (pe_ix (r := rIxL K) ix_list (pv 0) pe_int (fun _ _ => rfl))) (pss_cons (ps_asg (pe_op op_add (pv 2) pe_int) (pg_sub (pv 0) pe_int set_list)) (pss_cons (ps_if (pt_cmpR op_lt (pv 2) (pe_callB call_len_seq rfl T.z_len PySem.boot_len (pa_cons (pe_ix (r := rIxL K) ix_list (pv 0) pe_int (fun _ _ => rfl)) pa_nil)) (nomark _)) (pss_one (ps_ret (pe_op op_modN (pe_callTy call_int1 rfl T.z_int (by decide +kernel) (pa_cons (pe_ix (r := rIxL K) ix_list (pe_ix (r := rIxL K) ix_list (pv 0) pe_int (fun _ _ => rfl)) (pv 2) (fun _ _ => rfl)) pa_nil)) (pv 1)))) pss_nil) (pss_one (ps_ret pe_int))))), ?_⟩
  refine ⟨_, rfl, b, _, _, _, rfl, rfl, SqL.of h1, rfl, ?_⟩
  refine ⟨_, rfl, _, _, rfl, rfl, _, rfl, b, _, _, 1, rfl, rfl, h1, rfl, ?_⟩
  have k1 : Kp b H (upd H b (.lst [.ref d, .int ((n : Int) + 1)])) := Kp.upd (Kp.refl b H)
  have e1 : upd H b (.lst [.ref d, .int ((n : Int) + 1)]) b = some (.lst [.ref d, .int ((n : Int) + 1)]) := upd_same
  have e2 : upd H b (.lst [.ref d, .int ((n : Int) + 1)]) d = some (.lst (ns.map V.int)) := k1 _ _ h2 ndb
  have B : BoxAt (upd H b (.lst [.ref d, .int ((n : Int) + 1)])) b d := ⟨ns, n + 1, upd_same, e2⟩
  refine ⟨_, rfl, _, rfl, b, _, _, _, rfl, rfl, SqL.of e1, rfl, d, _, rfl, .inl (SqL.of e2), _, _, rfl, rfl, _, rfl, ?_⟩
  refine ite2 (fun c => ?_) (fun c => ?_)
  · have c' : (n : Int) < (((ns.map V.int).length : Nat) : Int) := of_decide_eq_true c
    rw [List.length_map] at c'
    refine ⟨_, rfl, b, _, _, _, rfl, rfl, SqL.of e1, rfl, _, rfl, d, _, _, _, rfl, rfl, SqL.of e2, at_ints (by omega), .inl ⟨_, rfl, _, rfl, _, _, rfl, rfl, (by show m ≠ 0; omega), ?_⟩⟩
    have z1 := Int.fmod_nonneg_of_pos (ns.getD n 0) hm
    have z2 := Int.fmod_lt_of_pos (ns.getD n 0) hm
    exact q _ _ z1 z2 B k1
  · exact q 0 _ (Int.le_refl 0) hm B k1
theorem ok_same (T : Txt K mg A D) : ∀ n, FnOk P w K mg base CX0 n (A 23) (D 23) ["actual", "due"] (ySame K n)
  | 0 => by
    have no : ∀ vs H Q E, ¬ ySame K 0 vs H Q E := fun vs H Q E h => by
      obtain ⟨x, y, d, _, _, _, f, _⟩ := h
      cases d <;> exact f
    exact ⟨fun vs H Q E h => absurd h (no vs H Q E), fun A outer s H args us vs Q E _ _ _ _ h => absurd h (no vs H Q E)⟩
  | n + 1 => by
    have G__law_same := ok_same T n
    refine T.F__law_same.ok sc__law_same (fun vs H Q E h => ?_) (fun cdv A' outer s H vs Q E hr h => ?_)
    · obtain ⟨x, y, d, rfl, _⟩ := h; rfl
    obtain ⟨x, y, d, rfl, dx, dy, hf, q⟩ := h
    have hnd := sc__law_same.nd
    refine ⟨_, (pss_cons (ps_if (PW.pt (pw_or (pt_val (pe_callB call_isi rfl T.z_isinstance (by decide +kernel) (pa_cons (pv 1) (pa_cons (pe_bltn (v := .ty "list") rfl T.z_list (by decide +kernel) rfl) pa_nil)))) (pw_or1 (pt_val (pe_callB call_isi rfl T.z_isinstance (by decide +kernel) (pa_cons (pv 1) (pa_cons (pe_bltn (v := .ty "tuple") rfl T.z_tuple (by decide +kernel) rfl) pa_nil))))))) (pss_cons (ps_if (PW.pt (pw_or (pt_cmpR op_ne (pe_callB call_isi rfl T.z_isinstance (by decide +kernel) (pa_cons (pv 1) (pa_cons (pe_bltn (v := .ty "list") rfl T.z_list (by decide +kernel) rfl) pa_nil))) (pe_callB call_isi rfl T.z_isinstance (by decide +kernel) (pa_cons (pv 0) (pa_cons (pe_bltn (v := .ty "list") rfl T.z_list (by decide +kernel) rfl) pa_nil))) (nomark _)) (pw_or1 (pt_cmpR op_ne (pe_callB call_isi rfl T.z_isinstance (by decide +kernel) (pa_cons (pv 1) (pa_cons (pe_bltn (v := .ty "tuple") rfl T.z_tuple (by decide +kernel) rfl) pa_nil))) (pe_callB call_isi rfl T.z_isinstance (by decide +kernel) (pa_cons (pv 0) (pa_cons (pe_bltn (v := .ty "tuple") rfl T.z_tuple (by decide +kernel) rfl) pa_nil))) (nomark _))))) (pss_one (ps_ret pe_bl)) pss_nil) (pss_cons (ps_if (pt_cmpR op_ne (pe_callB call_len_seq rfl T.z_len PySem.boot_len (pa_cons (pv 0) pa_nil)) (pe_callB call_len_seq rfl T.z_len PySem.boot_len (pa_cons (pv 1) pa_nil)) (nomark _)) (pss_one (ps_ret pe_bl)) pss_nil) (pss_cons (ps_for PassesOwn.never rfl (pi_range1 rfl T.z_range (pa_cons (pe_callB call_len_seq rfl T.z_len PySem.boot_len (pa_cons (pv 1) pa_nil)) pa_nil)) (pg_name (i := 2) hnd rfl (Or.inl rfl)) (pss_one (ps_if (pt_not (pt_val (pe_call G__law_same (hr.mono (by first | decide | omega)) rfl T.m__law_same T.F__law_same.kp T.b__law_same .nil pass0 (pa_cons (pe_ix (r := rIx K) ix_seq (pv 0) (pv 2) (fun _ _ => rfl)) (pa_cons (pe_ix (r := rIx K) ix_seq (pv 1) (pv 2) (fun _ _ => rfl)) pa_nil))))) (pss_one (ps_ret pe_bl)) pss_nil))) (pss_one (ps_ret pe_bl))))) pss_nil) (pss_cons (ps_if (pt_cmpR op_isN (pv 1) pe_non (nomark _)) (pss_one (ps_ret (pe_cmpR op_isN (pv 0) pe_non (nomark _)))) pss_nil) (pss_cons (ps_if (pt_val (pe_callB call_isi rfl T.z_isinstance (by decide +kernel) (pa_cons (pv 1) (pa_cons (pe_bltn (v := .ty "bool") rfl T.z_bool (by decide +kernel) rfl) pa_nil)))) (pss_one (ps_ret (pe_and (pe_callB call_isi rfl T.z_isinstance (by decide +kernel) (pa_cons (pv 0) (pa_cons (pe_bltn (v := .ty "bool") rfl T.z_bool (by decide +kernel) rfl) pa_nil))) (pe_one (pe_cmpR op_eq (pv 0) (pv 1) (nomark _)))))) pss_nil) (pss_cons (ps_if (pt_val (pe_callB call_isi rfl T.z_isinstance (by decide +kernel) (pa_cons (pv 1) (pa_cons (pe_bltn (v := .ty "str") rfl T.z_str (by decide +kernel) rfl) pa_nil)))) (pss_one (ps_ret (pe_and (pe_callB call_isi rfl T.z_isinstance (by decide +kernel) (pa_cons (pv 0) (pa_cons (pe_bltn (v := .ty "str") rfl T.z_str (by decide +kernel) rfl) pa_nil))) (pe_one (pe_cmpR op_eq (pv 0) (pv 1) (nomark _)))))) pss_nil) (pss_one (ps_ret (pe_and (pe_callB call_isi rfl T.z_isinstance (by decide +kernel) (pa_cons (pv 0) (pa_cons (pe_bltn (v := .ty "int") rfl T.z_int (by decide +kernel) rfl) pa_nil))) (pe_and (pe_not (pe_callB call_isi rfl T.z_isinstance (by decide +kernel) (pa_cons (pv 0) (pa_cons (pe_bltn (v := .ty "bool") rfl T.z_bool (by decide +kernel) rfl) pa_nil)))) (pe_one (pe_cmpR op_eq (pv 0) (pv 1) (nomark _))))))))))), ?_⟩
    cases d with
    | dict _ => exact hf.elim
    | list ds =>
      obtain ⟨hf1, hf2⟩ := hf
      cases dx with | lst hx ax =>
      cases dy with | lst hy ay =>
      rename_i a vs a' vs'
      have l1 := DpAll.len ax
      have l2 := DpAll.len ay
      refine ⟨_, rfl, _, _, _, _, _, rfl, .ty _, ty_l hy, kit_ty (by decide +kernel), _, rfl, iteT (iteT ?_)⟩
      refine ⟨_, rfl, _, _, _, _, true, rfl, .ty _, ty_l hy, kit_ty (by decide +kernel), _, rfl, _, _, _, _, true, rfl, .ty _, ty_l hx, kit_ty (by decide +kernel), rfl, _, rfl, iteNS rfl ?_⟩
      refine ⟨_, rfl, _, _, _, _, false, rfl, .ty _, ty_l hy, kit_ty (by decide +kernel), _, rfl, _, _, _, _, false, rfl, .ty _, ty_l hx, kit_ty (by decide +kernel), rfl, _, rfl, iteNS rfl ?_⟩
      refine ⟨_, rfl, _, _, rfl, .inl hx, _, rfl, _, _, rfl, .inl hy, rfl, _, rfl, iteNS (by rw [l1, l2]) ?_⟩
      refine ⟨_, rfl, _, _, rfl, .inl hy, _, rfl, (by omega), (by omega), ?_⟩
      rw [show ((vs'.length : Nat) : Int).toNat = ds.length by omega]
      refine for_range (n := ds.length) (fun i σ H' => ∃ kv : Option V, σ = [some (.ref a), some (.ref a'), kv] ∧ H' = H) ⟨none, rfl, rfl⟩ ?_ ?_
      · rintro i σ H' hi ⟨kv, rfl, rfl⟩
        obtain ⟨v, ev, dv⟩ := DpAll.get ax (List.getElem?_eq_getElem hi)
        obtain ⟨v', ev', dv'⟩ := DpAll.get ay (List.getElem?_eq_getElem hi)
        have ev1 : atI vs (0 + (i : Int)) = some v := by rw [Int.zero_add]; exact atI_nat ev
        have ev2 : atI vs' (0 + (i : Int)) = some v' := by rw [Int.zero_add]; exact atI_nat ev'
        refine ⟨_, rfl, _, rfl, .inl ⟨_, _, _, _, rfl, rfl, hx, ev1, _, rfl, _, rfl, .inl ⟨_, _, _, _, rfl, rfl, hy, ev2, ?_⟩⟩⟩
        exact ⟨v, v', ds[i], rfl, dv, dv', hf2 _ (List.getElem_mem hi), _, rfl, iteF ⟨_, rfl, rfl⟩⟩
      · rintro σ H' ⟨kv, rfl, rfl⟩
        exact q
    | tuple ds =>
      obtain ⟨hf1, hf2⟩ := hf
      cases dx with | tup hx ax =>
      cases dy with | tup hy ay =>
      rename_i a vs a' vs'
      have l1 := DpAll.len ax
      have l2 := DpAll.len ay
      refine ⟨_, rfl, _, _, _, _, _, rfl, .ty _, ty_t hy, kit_ty (by decide +kernel), _, rfl, iteF ⟨_, rfl, _, _, _, _, _, rfl, .ty _, ty_t hy, kit_ty (by decide +kernel), _, rfl, iteT ?_⟩⟩
      refine ⟨_, rfl, _, _, _, _, false, rfl, .ty _, ty_t hy, kit_ty (by decide +kernel), _, rfl, _, _, _, _, false, rfl, .ty _, ty_t hx, kit_ty (by decide +kernel), rfl, _, rfl, iteNS rfl ?_⟩
      refine ⟨_, rfl, _, _, _, _, true, rfl, .ty _, ty_t hy, kit_ty (by decide +kernel), _, rfl, _, _, _, _, true, rfl, .ty _, ty_t hx, kit_ty (by decide +kernel), rfl, _, rfl, iteNS rfl ?_⟩
      refine ⟨_, rfl, _, _, rfl, .inr hx, _, rfl, _, _, rfl, .inr hy, rfl, _, rfl, iteNS (by rw [l1, l2]) ?_⟩
      refine ⟨_, rfl, _, _, rfl, .inr hy, _, rfl, (by omega), (by omega), ?_⟩
      rw [show ((vs'.length : Nat) : Int).toNat = ds.length by omega]
      refine for_range (n := ds.length) (fun i σ H' => ∃ kv : Option V, σ = [some (.ref a), some (.ref a'), kv] ∧ H' = H) ⟨none, rfl, rfl⟩ ?_ ?_
      · rintro i σ H' hi ⟨kv, rfl, rfl⟩
        obtain ⟨v, ev, dv⟩ := DpAll.get ax (List.getElem?_eq_getElem hi)
        obtain ⟨v', ev', dv'⟩ := DpAll.get ay (List.getElem?_eq_getElem hi)
        have ev1 : atI vs (0 + (i : Int)) = some v := by rw [Int.zero_add]; exact atI_nat ev
        have ev2 : atI vs' (0 + (i : Int)) = some v' := by rw [Int.zero_add]; exact atI_nat ev'
        refine ⟨_, rfl, _, rfl, .inr (.inl ⟨_, _, _, _, rfl, rfl, hx, ev1, _, rfl, _, rfl, .inr (.inl ⟨_, _, _, _, rfl, rfl, hy, ev2, ?_⟩)⟩)⟩
        exact ⟨v, v', ds[i], rfl, dv, dv', hf2 _ (List.getElem_mem hi), _, rfl, iteF ⟨_, rfl, rfl⟩⟩
      · rintro σ H' ⟨kv, rfl, rfl⟩
        exact q
    | none =>
      cases dx with | non =>
      cases dy with | non =>
      refine ⟨_, rfl, _, _, _, _, _, rfl, .ty _, .base (.non), kit_ty (by decide +kernel), _, rfl, iteF ⟨_, rfl, _, _, _, _, _, rfl, .ty _, .base (.non), kit_ty (by decide +kernel), _, rfl, iteF ?_⟩⟩
      refine ⟨_, rfl, rfl, _, rfl, iteT ?_⟩
      exact ⟨_, rfl, rfl, q⟩
    | bool b =>
      cases dx with | bl =>
      cases dy with | bl =>
      refine ⟨_, rfl, _, _, _, _, _, rfl, .ty _, .base (.bl _), kit_ty (by decide +kernel), _, rfl, iteF ⟨_, rfl, _, _, _, _, _, rfl, .ty _, .base (.bl _), kit_ty (by decide +kernel), _, rfl, iteF ?_⟩⟩
      refine ⟨_, rfl, rfl, _, rfl, iteF ?_⟩
      refine ⟨_, rfl, _, _, _, _, _, rfl, .ty _, .base (.bl _), kit_ty (by decide +kernel), _, rfl, iteT ?_⟩
      refine ⟨_, rfl, _, _, _, _, _, rfl, .ty _, .base (.bl _), kit_ty (by decide +kernel), _, rfl, iteT ⟨_, rfl, _, rfl, rfl, ?_⟩⟩
      rw [decide_eq_true rfl]
      exact q
    | str z =>
      cases dx with | str =>
      cases dy with | str =>
      refine ⟨_, rfl, _, _, _, _, _, rfl, .ty _, .base (.str _), kit_ty (by decide +kernel), _, rfl, iteF ⟨_, rfl, _, _, _, _, _, rfl, .ty _, .base (.str _), kit_ty (by decide +kernel), _, rfl, iteF ?_⟩⟩
      refine ⟨_, rfl, rfl, _, rfl, iteF ?_⟩
      refine ⟨_, rfl, _, _, _, _, _, rfl, .ty _, .base (.str _), kit_ty (by decide +kernel), _, rfl, iteF ⟨_, rfl, _, _, _, _, _, rfl, .ty _, .base (.str _), kit_ty (by decide +kernel), _, rfl, iteT ?_⟩⟩
      refine ⟨_, rfl, _, _, _, _, _, rfl, .ty _, .base (.str _), kit_ty (by decide +kernel), _, rfl, iteT ⟨_, rfl, _, rfl, rfl, ?_⟩⟩
      rw [decide_eq_true rfl]
      exact q
    | int i =>
      cases dx with | int =>
      cases dy with | int =>
      refine ⟨_, rfl, _, _, _, _, _, rfl, .ty _, .base (.int _), kit_ty (by decide +kernel), _, rfl, iteF ⟨_, rfl, _, _, _, _, _, rfl, .ty _, .base (.int _), kit_ty (by decide +kernel), _, rfl, iteF ?_⟩⟩
      refine ⟨_, rfl, rfl, _, rfl, iteF ?_⟩
      refine ⟨_, rfl, _, _, _, _, _, rfl, .ty _, .base (.int _), kit_ty (by decide +kernel), _, rfl, iteF ⟨_, rfl, _, _, _, _, _, rfl, .ty _, .base (.int _), kit_ty (by decide +kernel), _, rfl, iteF ?_⟩⟩
      refine ⟨_, rfl, _, _, _, _, _, rfl, .ty _, .base (.int _), kit_ty (by decide +kernel), _, rfl, iteT ⟨_, rfl, _, _, _, _, false, rfl, .ty _, .base (.int _), kit_ty (by decide +kernel), _, rfl, _, rfl, iteT ⟨_, rfl, _, rfl, rfl, ?_⟩⟩⟩
      rw [decide_eq_true rfl]
      exact q
end


theorem take_succ_map {α β : Type} {f : α → β} {l : List α} {i : Nat} {x : α} (h : l[i]? = some x) : (l.take i).map f ++ [f x] = (l.take (i + 1)).map f := by
  rw [List.take_add_one, h, List.map_append]; rfl
theorem take_all {α : Type} {l : List α} {n : Nat} (h : l.length ≤ n) : l.take n = l := List.take_of_length_le h


/-! ### a list of immutable data that grows -/
def LAt (K : PySem.W.Frag) (H : Hp) (d : Addr) (ds : List PyData) : Prop := ∃ vs, H d = some (.lst vs) ∧ DpAll K H vs ds ∧ ∀ x ∈ ds, Imm x
theorem LAt.tk {K : PySem.W.Frag} {H H' : Hp} {d : Addr} {ds : List PyData} (h : LAt K H d ds) (k : TK H H') (e : ∀ o, H d = some o → H' d = some o) : LAt K H' d ds := by
  obtain ⟨vs, h1, h2, h3⟩ := h
  exact ⟨vs, e _ h1, DpAll.keep k h2 h3, h3⟩
theorem LAt.same {K : PySem.W.Frag} {H H' : Hp} {d : Addr} {ds : List PyData} (h : LAt K H d ds) (k : Same H H') : LAt K H' d ds := h.tk (TK.same k) fun o => k _ o
theorem LAt.kp {K : PySem.W.Frag} {H H' : Hp} {b p d : Addr} {ds : List PyData} (h : LAt K H d ds) (B : BoxAt H b p) (k : Kp b H H') (n : d ≠ b) : LAt K H' d ds := h.tk (TK.box B k) fun o e => k _ o e n
theorem LAt.push {K : PySem.W.Frag} {H : Hp} {d : Addr} {ds : List PyData} {vs : List V} {v : V} {x : PyData} (h1 : H d = some (.lst vs)) (h2 : DpAll K H vs ds) (h3 : ∀ x ∈ ds, Imm x) (hv : Dp K H v x) (hx : Imm x) : LAt K (upd H d (.lst (vs ++ [v]))) d (ds ++ [x]) := by
  have k : TK H (upd H d (.lst (vs ++ [v]))) := TK.updL (TK.refl H) h1
  have h4 : ∀ y ∈ ds ++ [x], Imm y := fun y hy => by
    rcases List.mem_append.mp hy with hy | hy
    · exact h3 y hy
    · rw [List.mem_singleton.mp hy]; exact hx
  exact ⟨_, upd_same, DpAll.keep k (DpAll.app h2 (.cons hv .nil)) h4, h4⟩
theorem LAt.nil {K : PySem.W.Frag} {H : Hp} {d : Addr} (h : H d = some (.lst [])) : LAt K H d [] := ⟨[], h, .nil, fun x hx => nomatch hx⟩


def encT (t : Str × Str) : PyData := .tuple [.str t.1, .str t.2]
theorem imm_encT (t : Str × Str) : Imm (encT t) := .tup fun d hd => by
  rcases List.mem_cons.mp hd with rfl | hd
  · exact .str _
  · rw [List.mem_singleton.mp hd]; exact .str _


/-! ### data of questions and documents -/
theorem slA_use {K : PySem.W.Frag} {H : Hp} {Q : VK} {a : Addr} {xs : List V} {lo hi : Option Int} (hx : SqT K H a xs) (h : ∀ p H', Same H H' → SqT K H' p (cutV xs lo hi) → Q (.ref p) H') : rSlA K (.ref a) lo hi H Q := by
  refine ⟨a, xs, rfl, hx, fun hw => ?_, fun _ p hp => h p _ (same_new hp) (SqT.of upd_same)⟩
  have e : cutV xs lo hi = xs := by
    unfold cutV
    rw [hw.1, hw.2, List.drop_zero, Nat.sub_zero, List.take_length]
  exact h a H (Same.refl H) (by rw [e]; exact hx)
theorem catA_use {K : PySem.W.Frag} {H : Hp} {Q : VK} {a b : Addr} {xs ys : List V} (ha : SqT K H a xs) (hb : SqT K H b ys) (hz : xs.length + ys.length ≤ sizeLine) (h : ∀ p H', Same H H' → SqT K H' p (xs ++ ys) → Q (.ref p) H') : rCatA K (.ref a) (.ref b) H Q := by
  refine ⟨a, b, xs, ys, rfl, rfl, ha, hb, hz, fun e => h b H (Same.refl H) (by rw [e]; exact hb), fun _ e => h a H (Same.refl H) (by rw [e, List.append_nil]; exact ha), fun _ _ p hp => h p _ (same_new hp) (SqT.of upd_same)⟩
theorem sIx_n (n d k : Nat) : HT.sIx n d (some (k : Int)) = min k n := HT.sIx_nat n d k
theorem cutV_from (xs : List V) (k : Nat) : cutV xs (some (k : Int)) none = xs.drop k := by
  unfold cutV
  rw [sIx_n, HT.sIx_none]
  by_cases h : k ≤ xs.length
  · rw [Nat.min_eq_left h]
    exact List.take_of_length_le (by rw [List.length_drop]; omega)
  · rw [List.drop_eq_nil_of_le (by omega), List.drop_eq_nil_of_le (by omega), List.take_nil]
theorem cutV_mid (xs : List V) (a b : Nat) : cutV xs (some (a : Int)) (some (b : Int)) = (xs.drop a).take (b - a) := by
  unfold cutV
  rw [sIx_n, sIx_n]
  by_cases h : a ≤ xs.length
  · rw [Nat.min_eq_left h]
    exact List.take_eq_take_iff.mpr (by rw [List.length_drop]; omega)
  · rw [List.drop_eq_nil_of_le (by omega), List.drop_eq_nil_of_le (by omega), List.take_nil, List.take_nil]
abbrev Pat := Str × Str
def encPs (ps : List Pat) : PyData := .tuple (ps.map encT)
def encRow (ps : List Pat) (gap : Nat) : PyData := .tuple [.str "row", encPs ps, .int (gap : Int)]
def encD (ws : List Str) : PyData := .tuple (ws.map .str)
def encW (pl : List Nat) : PyData := .tuple (pl.map fun (n : Nat) => .int (n : Int))
theorem imm_ts (ps : List Pat) : ∀ d ∈ ps.map encT, Imm d := fun d hd => by
  obtain ⟨p, _, rfl⟩ := List.mem_map.mp hd; exact imm_encT p
theorem imm_encW (pl : List Nat) : Imm (encW pl) := .tup fun d hd => by
  obtain ⟨n, _, rfl⟩ := List.mem_map.mp hd; exact .int _
theorem imm_encD (ws : List Str) : Imm (encD ws) := .tup fun d hd => by
  obtain ⟨n, _, rfl⟩ := List.mem_map.mp hd; exact .str _
theorem imm_encPs (ps : List Pat) : Imm (encPs ps) := .tup (imm_ts ps)
theorem imm_encRow (ps : List Pat) (gap : Nat) : Imm (encRow ps gap) := .tup fun d hd => by
  rcases List.mem_cons.mp hd with rfl | hd
  · exact .str _
  · rcases List.mem_cons.mp hd with rfl | hd
    · exact imm_encPs ps
    · rw [List.mem_singleton.mp hd]; exact .int _
theorem Dp.tupI {K : PySem.W.Frag} {H : Hp} {v : V} {ds : List PyData} (h : Dp K H v (.tuple ds)) : ∃ a xs, v = .ref a ∧ SqT K H a xs ∧ DpAll K H xs ds := by
  cases h with
  | tup h1 h2 => exact ⟨_, _, rfl, h1, h2⟩
theorem Dp.strI {K : PySem.W.Frag} {H : Hp} {v : V} {z : Str} (h : Dp K H v (.str z)) : v = .str z := by cases h; rfl
theorem Dp.intI {K : PySem.W.Frag} {H : Hp} {v : V} {z : Int} (h : Dp K H v (.int z)) : v = .int z := by cases h; rfl
theorem DpAll.consI {K : PySem.W.Frag} {H : Hp} {vs : List V} {d : PyData} {ds : List PyData} (h : DpAll K H vs (d :: ds)) : ∃ v r, vs = v :: r ∧ Dp K H v d ∧ DpAll K H r ds := by
  cases h with
  | cons a b => exact ⟨_, _, rfl, a, b⟩
theorem DpAll.nilI {K : PySem.W.Frag} {H : Hp} {vs : List V} (h : DpAll K H vs []) : vs = [] := by cases h; rfl
theorem DpAll.strsI {K : PySem.W.Frag} {H : Hp} : ∀ {vs : List V} {ss : List Str}, DpAll K H vs (ss.map PyData.str) → vs = ss.map V.str
  | _, [], h => DpAll.nilI h
  | _, s :: r, h => by
    obtain ⟨v, t, rfl, h1, h2⟩ := DpAll.consI h
    rw [Dp.strI h1, DpAll.strsI h2]; rfl
theorem DpAll.natsI {K : PySem.W.Frag} {H : Hp} : ∀ {vs : List V} {ss : List Nat}, DpAll K H vs (ss.map fun (n : Nat) => PyData.int (n : Int)) → vs = ss.map fun (n : Nat) => V.int (n : Int)
  | _, [], h => DpAll.nilI h
  | _, s :: r, h => by
    obtain ⟨v, t, rfl, h1, h2⟩ := DpAll.consI h
    rw [Dp.intI h1, DpAll.natsI h2]; rfl
theorem DpAll.nats {K : PySem.W.Frag} {H : Hp} : ∀ (ss : List Nat), DpAll K H (ss.map fun (n : Nat) => V.int (n : Int)) (ss.map fun (n : Nat) => PyData.int (n : Int))
  | [] => .nil
  | n :: r => .cons (.int _) (DpAll.nats r)
theorem dp_encT {K : PySem.W.Frag} {H : Hp} {v : V} {p : Pat} (h : Dp K H v (encT p)) : ∃ q, v = .ref q ∧ SqT K H q [.str p.1, .str p.2] := by
  obtain ⟨a, xs, rfl, h1, h2⟩ := Dp.tupI h
  obtain ⟨x, r, rfl, h3, h4⟩ := DpAll.consI h2
  obtain ⟨y, r2, rfl, h5, h6⟩ := DpAll.consI h4
  rw [Dp.strI h3, Dp.strI h5, DpAll.nilI h6] at h1
  exact ⟨a, rfl, h1⟩
theorem dp_encD {K : PySem.W.Frag} {H : Hp} {v : V} {ws : List Str} (h : Dp K H v (encD ws)) : ∃ q, v = .ref q ∧ SqT K H q (ws.map V.str) := by
  obtain ⟨a, xs, rfl, h1, h2⟩ := Dp.tupI h
  rw [DpAll.strsI h2] at h1
  exact ⟨a, rfl, h1⟩
theorem dp_encW {K : PySem.W.Frag} {H : Hp} {v : V} {pl : List Nat} (h : Dp K H v (encW pl)) : ∃ q, v = .ref q ∧ SqT K H q (pl.map fun (n : Nat) => V.int (n : Int)) := by
  obtain ⟨a, xs, rfl, h1, h2⟩ := Dp.tupI h
  rw [DpAll.natsI h2] at h1
  exact ⟨a, rfl, h1⟩
theorem mk_encW {K : PySem.W.Frag} {H : Hp} {q : Addr} {pl : List Nat} (h : SqT K H q (pl.map fun (n : Nat) => V.int (n : Int))) : Dp K H (.ref q) (encW pl) := .tup h (DpAll.nats pl)
theorem dp_encRow {K : PySem.W.Frag} {H : Hp} {v : V} {ps : List Pat} {gap : Nat} (h : Dp K H v (encRow ps gap)) : ∃ q pa pxs, v = .ref q ∧ SqT K H q [.str "row", .ref pa, .int (gap : Int)] ∧ SqT K H pa pxs ∧ DpAll K H pxs (ps.map encT) := by
  obtain ⟨a, xs, rfl, h1, h2⟩ := Dp.tupI h
  obtain ⟨x, r, rfl, h3, h4⟩ := DpAll.consI h2
  obtain ⟨y, r2, rfl, h5, h6⟩ := DpAll.consI h4
  obtain ⟨z, r3, rfl, h7, h8⟩ := DpAll.consI h6
  obtain ⟨pa, pxs, rfl, h9, h10⟩ := Dp.tupI h5
  rw [Dp.strI h3, Dp.intI h7, DpAll.nilI h8] at h1
  exact ⟨a, pa, pxs, rfl, h1, h9, h10⟩
def fitsB (w : Str) (p : Pat) : Bool := if p.1 = "start" then Txt.startswith w p.2 else decide (w = p.2)
/-- how many of the patterns are taken, one behind the other -/
def tstep (ps : List Pat) (t : Nat) (w : Str) : Nat := if t < ps.length ∧ fitsB w (ps.getD t ("", "")) = true then t + 1 else t
def taken (ps : List Pat) (ws : List Str) : Nat := ws.foldl (tstep ps) 0
def endB (L n gap f : Nat) : Nat := min (f + n + gap) L
def beginsB (ws : List Str) (ps : List Pat) (gap : Nat) (pl : List Nat) : Bool :=
  fitsB (ws.getD (pl.getLastD 0) "") (ps.getD (pl.length - 1) ("", "")) && decide (taken (ps.drop (pl.length - 1)) ((ws.drop (pl.getLastD 0)).take (endB ws.length ps.length gap (pl.headD 0) - pl.getLastD 0)) = (ps.drop (pl.length - 1)).length)
def yFits (K : PySem.W.Frag) : Sp := fun vs H Q _ => ∃ (w : Str) (v : V) (p : Pat), vs = [.str w, v] ∧ Dp K H v (encT p) ∧ Q (.bl (fitsB w p)) H
def yEndB (K : PySem.W.Frag) : Sp := fun vs H Q _ => ∃ (vd vr : V) (ws : List Str) (ps : List Pat) (gap f : Nat), vs = [vd, vr, .int (f : Int)] ∧ Dp K H vd (encD ws) ∧ Dp K H vr (encRow ps gap) ∧ Q (.int ((endB ws.length ps.length gap f : Nat) : Int)) H
def yBegins (K : PySem.W.Frag) : Sp := fun vs H Q _ => ∃ (vd vr vp : V) (ws : List Str) (ps : List Pat) (gap : Nat) (pl : List Nat), vs = [vd, vr, vp] ∧ Dp K H vd (encD ws) ∧ Dp K H vr (encRow ps gap) ∧ Dp K H vp (encW pl) ∧
  pl ≠ [] ∧ pl.length ≤ ps.length ∧ pl.getLastD 0 < endB ws.length ps.length gap (pl.headD 0) ∧ ∀ H', Same H H' → Q (.bl (beginsB ws ps gap pl)) H'


section
variable {P : Program} {w : World} {K : PySem.W.Frag} {mg : Str → Option Value} {base : Heap} {A : Nat → Addr} {D : Nat → FuncData}
theorem ok_fits (T : Txt K mg A D) : FnOk P w K mg base CX0 1 (A 0) (D 0) ["word", "pattern"] (yFits K) := by
  refine T.F_fits.ok sc_fits (fun vs H Q E h => ?_) (fun cdv A' outer s H vs Q E hr h => ?_)
  · obtain ⟨w, v, p, rfl, _⟩ := h; rfl
  obtain ⟨w, v, p, rfl, hd, q⟩ := h
  have hnd := sc_fits.nd
  obtain ⟨a, rfl, ha⟩ := dp_encT hd
  refine ⟨_, (pss_cons (ps_asg (pv 1) (pg_tup rfl (pgs_cons (pg_name (i := 2) hnd rfl (Or.inl rfl)) (pgs_cons (pg_name (i := 3) hnd rfl (Or.inl rfl)) pgs_nil)))) (pss_cons (ps_if (pt_cmpR op_eq (pv 2) pe_str (nomark _)) (pss_one (ps_ret (pe_m1 PySem.F.slot_str_startswith PySem.F.type_str_startswith mt_startswith (pv 0) (pv 3)))) pss_nil) (pss_one (ps_ret (pe_cmpR op_eq (pv 0) (pv 3) (nomark _)))))), ?_⟩
  refine ⟨_, rfl, a, _, rfl, ha, rfl, _, _, rfl, _, _, rfl, rfl, ?_⟩
  refine ⟨_, rfl, rfl, _, rfl, ?_⟩
  refine ite2 (fun c => ?_) (fun c => ?_)
  · have c' : p.1 = "start" := by
      have := of_decide_eq_true c
      injection this
    refine ⟨_, rfl, ⟨_, rfl⟩, _, rfl, _, _, rfl, rfl, ?_⟩
    unfold fitsB at q
    rw [if_pos c'] at q
    exact q
  · have c' : ¬ p.1 = "start" := fun e => c (decide_eq_true (congrArg V.str e))
    refine ⟨_, rfl, _, rfl, rfl, ?_⟩
    unfold fitsB at q
    rw [if_neg c'] at q
    by_cases e : w = p.2
    · rw [decide_eq_true e] at q
      rw [decide_eq_true (congrArg V.str e)]
      exact q
    · rw [decide_eq_false e] at q
      rw [decide_eq_false (fun h => e (V.str.inj h))]
      exact q
theorem ok_end_behind (T : Txt K mg A D) : FnOk P w K mg base CX0 1 (A 6) (D 6) ["document", "row", "first"] (yEndB K) := by
  refine T.F_end_behind.ok sc_end_behind (fun vs H Q E h => ?_) (fun cdv A' outer s H vs Q E hr h => ?_)
  · obtain ⟨vd, vr, ws, ps, gap, f, rfl, _⟩ := h; rfl
  obtain ⟨vd, vr, ws, ps, gap, f, rfl, hd, hrw, q⟩ := h
  have hnd := sc_end_behind.nd
  obtain ⟨ad, rfl, had⟩ := dp_encD hd
  obtain ⟨ar, pa, pxs, rfl, har, hpa, hpx⟩ := dp_encRow hrw
  refine ⟨_, (pss_cons (ps_asg (pv 1) (pg_tup rfl (pgs_cons (pg_name (i := 3) hnd rfl (Or.inl rfl)) (pgs_cons (pg_name (i := 4) hnd rfl (Or.inl rfl)) (pgs_cons (pg_name (i := 5) hnd rfl (Or.inl rfl)) pgs_nil))))) (pss_one (ps_ret (pe_callB (call_min2 rfl) rfl T.z_min (by decide +kernel) (pa_cons (pe_op op_add (pe_op op_add (pv 2) (pe_callB call_len_seq rfl T.z_len PySem.boot_len (pa_cons (pv 4) pa_nil))) (pv 5)) (pa_cons (pe_callB call_len_seq rfl T.z_len PySem.boot_len (pa_cons (pv 0) pa_nil)) pa_nil)))))), ?_⟩
  refine ⟨_, rfl, ar, _, rfl, har, rfl, _, _, rfl, _, _, rfl, _, _, rfl, rfl, ?_⟩
  refine ⟨_, rfl, _, rfl, pa, _, rfl, .inr hpa, _, _, rfl, rfl, _, rfl, _, _, rfl, rfl, _, rfl, ad, _, rfl, .inr had, _, _, rfl, ?_⟩
  have hl : pxs.length = ps.length := by rw [DpAll.len hpx, List.length_map]
  have e : (if ((ws.map V.str).length : Int) < (f : Int) + (pxs.length : Int) + (gap : Int) then ((ws.map V.str).length : Int) else (f : Int) + (pxs.length : Int) + (gap : Int)) = ((endB ws.length ps.length gap f : Nat) : Int) := by
    unfold endB
    rw [List.length_map, hl]
    split <;> omega
  rw [← e] at q
  exact q
theorem ok_begins_standing (T : Txt K mg A D) : FnOk P w K mg base CX0 2 (A 5) (D 5) ["document", "row", "places"] (yBegins K) := by
  refine T.F_begins_standing.ok sc_begins_standing (fun vs H Q E h => ?_) (fun cdv A' outer s H vs Q E hr h => ?_)
  · obtain ⟨vd, vr, vp, ws, ps, gap, pl, rfl, _⟩ := h; rfl
  obtain ⟨vd, vr, vp, ws, ps, gap, pl, rfl, hd, hrw, hp, hne, hk, hlast, q⟩ := h
  have hnd := sc_begins_standing.nd
  have G_fits := ok_fits (P := P) (w := w) (base := base) T
  have G_end_behind := ok_end_behind (P := P) (w := w) (base := base) T
  refine ⟨_, (pss_cons (ps_set (i := 3) hnd rfl (Or.inl rfl) (pe_slice (r := rSlA K) sl_tupA (pe_ix (r := rIxT K) ix_tup (pv 1) pe_int (fun _ _ => rfl)) (po_some (pe_op op_sub (pe_callB call_len_seq rfl T.z_len PySem.boot_len (pa_cons (pv 2) pa_nil)) pe_int)) po_none)) (pss_cons (ps_set (i := 4) hnd rfl (Or.inl rfl) (pe_slice (r := rSlA K) sl_tupA (pv 0) (po_some (pe_ix (r := rIxT K) ix_tup (pv 2) (pe_un un_neg pe_int) (fun _ _ => rfl))) (po_some (pe_call G_end_behind (hr.mono (by first | decide | omega)) rfl T.m_end_behind T.F_end_behind.kp T.b_end_behind .nil pass0 (pa_cons (pv 0) (pa_cons (pv 1) (pa_cons (pe_ix (r := rIxT K) ix_tup (pv 2) pe_int (fun _ _ => rfl)) pa_nil))))))) (pss_cons (ps_if (pt_not (pt_val (pe_call G_fits (hr.mono (by first | decide | omega)) rfl T.m_fits T.F_fits.kp T.b_fits .nil pass0 (pa_cons (pe_ix (r := rIxT K) ix_tup (pv 4) pe_int (fun _ _ => rfl)) (pa_cons (pe_ix (r := rIxT K) ix_tup (pv 3) pe_int (fun _ _ => rfl)) pa_nil))))) (pss_one (ps_ret pe_bl)) pss_nil) (pss_cons (ps_set (i := 5) hnd rfl (Or.inl rfl) pe_int) (pss_cons (ps_for PassesOwn.never rfl (pi_tup (pv 4)) (pg_name (i := 6) hnd rfl (Or.inl rfl)) (pss_one (ps_if (PW.pt (pw_and (pt_cmpR op_lt (pv 5) (pe_callB call_len_seq rfl T.z_len PySem.boot_len (pa_cons (pv 3) pa_nil)) (nomark _)) (pw_and1 (pt_val (pe_call G_fits (hr.mono (by first | decide | omega)) rfl T.m_fits T.F_fits.kp T.b_fits .nil pass0 (pa_cons (pv 6) (pa_cons (pe_ix (r := rIxT K) ix_tup (pv 3) (pv 5) (fun _ _ => rfl)) pa_nil))))))) (pss_one (ps_aug (i := 5) hnd rfl (Or.inl rfl) pe_int ip_add)) pss_nil))) (pss_one (ps_ret (pe_cmpR op_eq (pv 5) (pe_callB call_len_seq rfl T.z_len PySem.boot_len (pa_cons (pv 3) pa_nil)) (nomark _))))))))), ?_⟩
  obtain ⟨ad, rfl, had⟩ := dp_encD hd
  obtain ⟨ar, pa, pxs, rfl, har, hpa, hpx⟩ := dp_encRow hrw
  obtain ⟨ap, rfl, hap⟩ := dp_encW hp
  have hpl : 0 < pl.length := List.length_pos_iff.mpr hne
  have hln : (pl.map fun (n : Nat) => V.int (n : Int)).length = pl.length := List.length_map _
  have hpxl : pxs.length = ps.length := by rw [DpAll.len hpx, List.length_map]
  have hend : endB ws.length ps.length gap (pl.headD 0) ≤ ws.length := Nat.min_le_right _ _
  have atl : atI (pl.map fun (n : Nat) => V.int (n : Int)) (-1) = some (.int ((pl.getLastD 0 : Nat) : Int)) := by
    obtain ⟨u, x, rfl⟩ : ∃ u x, pl = u ++ [x] := ⟨pl.dropLast, pl.getLast hne, (List.dropLast_concat_getLast hne).symm⟩
    rw [List.map_append, List.getLastD_concat]
    exact atI_last _ _
  have at0 : atI (pl.map fun (n : Nat) => V.int (n : Int)) 0 = some (.int ((pl.headD 0 : Nat) : Int)) := by
    cases pl with
    | nil => exact absurd rfl hne
    | cons x u => exact atI_nat (j := 0) rfl
  refine ⟨_, rfl, ar, _, 1, _, rfl, rfl, har, rfl, _, rfl, ap, _, rfl, .inr hap, _, _, rfl, rfl, _, rfl, ?_⟩
  dsimp only [tNoPart]
  refine slA_use hpa fun pw H1 s1 hw => ?_
  have ewt : cutV pxs (some (((pl.map fun (n : Nat) => V.int (n : Int)).length : Int) - 1)) none = pxs.drop (pl.length - 1) := by
    rw [hln, show ((pl.length : Int) - 1) = ((pl.length - 1 : Nat) : Int) by omega]
    exact cutV_from pxs _
  rw [ewt] at hw
  have hap1 := (TK.same s1).seq hap
  refine ⟨_, rfl, _, rfl, _, rfl, ap, _, -1, _, rfl, rfl, hap1, atl, _, rfl, _, rfl, _, rfl, _, rfl, ap, _, 0, _, rfl, rfl, hap1, at0, .ref ad, .ref ar, ws, ps, gap, pl.headD 0, rfl, Dp.same s1 hd, Dp.same s1 hrw, _, rfl, ?_⟩
  refine slA_use ((TK.same s1).seq had) fun pb H2 s2 hb => ?_
  rw [cutV_mid] at hb
  have s12 := s1.trans s2
  have hw2 := (TK.same s2).seq hw
  have hpx2 := DpAll.same s12 hpx
  have lastw : pl.getLastD 0 < ws.length := by omega
  have hk0 : pl.length - 1 < ps.length := by omega
  have gb : ((ws.map V.str).drop (pl.getLastD 0)).take (endB ws.length ps.length gap (pl.headD 0) - pl.getLastD 0) = ((ws.drop (pl.getLastD 0)).take (endB ws.length ps.length gap (pl.headD 0) - pl.getLastD 0)).map V.str := by
    rw [List.map_take, List.map_drop]
  rw [gb] at hb
  have b0 : (((ws.drop (pl.getLastD 0)).take (endB ws.length ps.length gap (pl.headD 0) - pl.getLastD 0)).map V.str)[0]? = some (.str (ws.getD (pl.getLastD 0) "")) := by
    rw [List.getElem?_map, List.getElem?_take_of_lt (by omega), List.getElem?_drop, Nat.add_zero, List.getElem?_eq_getElem lastw, List.getD_eq_getElem?_getD, List.getElem?_eq_getElem lastw]
    rfl
  obtain ⟨v0, hv0, dv0⟩ := DpAll.get hpx2 (i := pl.length - 1) (d := encT (ps.getD (pl.length - 1) ("", ""))) (by
    rw [List.getElem?_map, List.getElem?_eq_getElem hk0, List.getD_eq_getElem?_getD, List.getElem?_eq_getElem hk0]; rfl)
  have w0 : (pxs.drop (pl.length - 1))[0]? = some v0 := by rw [List.getElem?_drop, Nat.add_zero]; exact hv0
  refine ⟨_, rfl, pb, _, 0, _, rfl, rfl, hb, atI_nat (j := 0) b0, _, rfl, pw, _, 0, _, rfl, rfl, hw2, atI_nat (j := 0) w0, _, _, _, rfl, dv0, _, rfl, ?_⟩
  have fin : ∀ r, r = beginsB ws ps gap pl → Q (.bl r) H2 := fun r hr => by rw [hr]; exact q H2 s12
  cases hf : fitsB (ws.getD (pl.getLastD 0) "") (ps.getD (pl.length - 1) ("", "")) with
  | false =>
    refine iteT ?_
    refine fin false ?_
    unfold beginsB
    rw [hf]; rfl
  | true =>
    refine iteF ?_
    refine ⟨_, rfl, pb, rfl, ⟨_, hb⟩, ?_⟩
    have hwl : (pxs.drop (pl.length - 1)).length = (ps.drop (pl.length - 1)).length := by rw [List.length_drop, List.length_drop, hpxl]
    refine for_tup (xs := ((ws.drop (pl.getLastD 0)).take (endB ws.length ps.length gap (pl.headD 0) - pl.getLastD 0)).map V.str) (fun i σ H' => H' = H2 ∧ ∃ (t : Nat) (c6 : Option V), σ = [some (.ref ad), some (.ref ar), some (.ref ap), some (.ref pw), some (.ref pb), some (.int (t : Int)), c6] ∧ t = taken (ps.drop (pl.length - 1)) (((ws.drop (pl.getLastD 0)).take (endB ws.length ps.length gap (pl.headD 0) - pl.getLastD 0)).take i) ∧ t ≤ (ps.drop (pl.length - 1)).length)
      ⟨rfl, 0, _, rfl, rfl, Nat.zero_le _⟩ (fun i σ H' _ h => by rw [h.1]; exact hb) ?_ ?_
    · rintro i x σ H' hi ⟨rfl, t, c6, rfl, ht, htl⟩
      rw [List.getElem?_map] at hi
      obtain ⟨u, hu, rfl⟩ := Option.map_eq_some_iff.mp hi
      have step : taken (ps.drop (pl.length - 1)) (((ws.drop (pl.getLastD 0)).take (endB ws.length ps.length gap (pl.headD 0) - pl.getLastD 0)).take (i + 1)) = tstep (ps.drop (pl.length - 1)) t u := by
        rw [List.take_add_one, hu, ht]
        unfold taken
        rw [List.foldl_append]; rfl
      refine ⟨_, rfl, _, rfl, pw, _, rfl, .inr hw2, _, _, rfl, rfl, _, rfl, ?_⟩
      refine ite2 (fun c1 => ?_) (fun c1 => ?_)
      · have c1' : t < (ps.drop (pl.length - 1)).length := by
          have : (t : Int) < ((pxs.drop (pl.length - 1)).length : Int) := of_decide_eq_true c1
          omega
        obtain ⟨vt, hvt, dvt⟩ := DpAll.get hpx2 (i := pl.length - 1 + t) (d := encT ((ps.drop (pl.length - 1)).getD t ("", ""))) (by
          rw [List.length_drop] at c1'
          have hh : pl.length - 1 + t < ps.length := by omega
          rw [List.getElem?_map, List.getElem?_eq_getElem hh, List.getD_eq_getElem?_getD, List.getElem?_drop, List.getElem?_eq_getElem hh]; rfl)
        have wt : (pxs.drop (pl.length - 1))[t]? = some vt := by rw [List.getElem?_drop]; exact hvt
        refine ⟨_, rfl, _, rfl, _, rfl, pw, _, _, _, rfl, rfl, hw2, atI_nat wt, _, _, _, rfl, dvt, _, rfl, ?_⟩
        cases hft : fitsB u ((ps.drop (pl.length - 1)).getD t ("", "")) with
        | true =>
          refine iteT ?_
          have e : tstep (ps.drop (pl.length - 1)) t u = t + 1 := if_pos ⟨c1', hft⟩
          refine ⟨_, rfl, _, _, rfl, rfl, rfl, t + 1, some (.str u), ?_, by rw [step, e], by omega⟩
          rw [show ((t + 1 : Nat) : Int) = (t : Int) + 1 by omega]; rfl
        | false =>
          refine iteF ?_
          have e : tstep (ps.drop (pl.length - 1)) t u = t := if_neg fun h => by rw [hft] at h; exact absurd h.2 Bool.false_ne_true
          exact ⟨rfl, t, some (.str u), rfl, by rw [step, e], htl⟩
      · have c1' : ¬ t < (ps.drop (pl.length - 1)).length := fun h => c1 (decide_eq_true (show (t : Int) < ((pxs.drop (pl.length - 1)).length : Int) by omega))
        refine iteF ?_
        have e : tstep (ps.drop (pl.length - 1)) t u = t := if_neg fun h => c1' h.1
        exact ⟨rfl, t, some (.str u), rfl, by rw [step, e], htl⟩
    · rintro σ H' ⟨rfl, t, c6, rfl, ht, htl⟩
      rw [List.length_map, List.take_length] at ht
      refine ⟨_, rfl, _, rfl, pw, _, rfl, .inr hw2, rfl, ?_⟩
      refine fin _ ?_
      unfold beginsB
      rw [hf, Bool.true_and, ← ht, ← hwl]
      by_cases e : t = (pxs.drop (pl.length - 1)).length
      · rw [decide_eq_true e, decide_eq_true (congrArg V.int (by omega))]
      · rw [decide_eq_false e, decide_eq_false (fun h => e (by have := V.int.inj h; omega))]
end


def extL (ws : List Str) (ps : List Pat) (gap : Nat) (pl : List Nat) : List (List Nat) :=
  (List.range ((if pl = [] then ws.length else endB ws.length ps.length gap (pl.headD 0)) - (if pl = [] then 0 else pl.getLastD 0 + 1))).map fun j => pl ++ [(if pl = [] then 0 else pl.getLastD 0 + 1) + j]
def extB (ws : List Str) (ps : List Pat) (gap : Nat) (pl : List Nat) : List (List Nat) := (extL ws ps gap pl).filter (beginsB ws ps gap)
theorem head_app {pl : List Nat} {x d : Nat} (h : pl ≠ []) : (pl ++ [x]).headD d = pl.headD d := by
  cases pl with
  | nil => exact absurd rfl h
  | cons a r => rfl
def begunL (ws : List Str) (ps : List Pat) (gap : Nat) : Nat → List (List Nat)
  | 0 => [[]]
  | k + 1 => (begunL ws ps gap k).flatMap (extB ws ps gap)
def Over (ws : List Str) (ps : List Pat) (gap : Nat) : Prop := ∃ k, k ≤ ps.length ∧ 500 < (begunL ws ps gap k).length
theorem mem_extB {ws : List Str} {ps : List Pat} {gap : Nat} {pl v : List Nat} (h : v ∈ extB ws ps gap pl) : ∃ j, v = pl ++ [j] ∧ j < ws.length := by
  have h1 := (List.mem_filter.mp h).1
  unfold extL at h1
  obtain ⟨j, hj, rfl⟩ := List.mem_map.mp h1
  refine ⟨_, rfl, ?_⟩
  have := List.mem_range.mp hj
  have h2 : (if pl = [] then ws.length else endB ws.length ps.length gap (pl.headD 0)) ≤ ws.length := by
    split
    · exact Nat.le_refl _
    · exact Nat.min_le_right _ _
  omega
theorem mem_begunL {ws : List Str} {ps : List Pat} {gap : Nat} : ∀ {k : Nat} {v : List Nat}, v ∈ begunL ws ps gap k → v.length = k ∧ v.getLastD 0 ≤ ws.length
  | 0, v, h => by
    rw [List.mem_singleton.mp h]
    exact ⟨rfl, Nat.zero_le _⟩
  | k + 1, v, h => by
    obtain ⟨u, hu, hv⟩ := List.mem_flatMap.mp h
    obtain ⟨j, rfl, hj⟩ := mem_extB hv
    have := mem_begunL hu
    refine ⟨by rw [List.length_append, List.length_singleton, this.1], ?_⟩
    rw [List.getLastD_concat]; omega
theorem extB_len (ws : List Str) (ps : List Pat) (gap : Nat) (pl : List Nat) : (extB ws ps gap pl).length ≤ ws.length := by
  have h1 := List.length_filter_le (beginsB ws ps gap) (extL ws ps gap pl)
  have h2 : (extL ws ps gap pl).length ≤ ws.length := by
    unfold extL
    rw [List.length_map, List.length_range]
    have h3 : (if pl = [] then ws.length else endB ws.length ps.length gap (pl.headD 0)) ≤ ws.length := by
      split
      · exact Nat.le_refl _
      · exact Nat.min_le_right _ _
    omega
  exact Nat.le_trans h1 h2
theorem flatMap_len {α β : Type} {f : α → List β} {n : Nat} (h : ∀ a, (f a).length ≤ n) : ∀ l : List α, (l.flatMap f).length ≤ l.length * n
  | [] => Nat.zero_le _
  | a :: r => by
    have h1 := h a
    have h2 := flatMap_len h r
    rw [List.flatMap_cons, List.length_append, List.length_cons, Nat.add_mul, Nat.one_mul]
    omega


/-! ### a statement, what holds behind it, then the rest -/
def tCut (t u : TS) : TS := fun D σ H => ∃ Mid : St → Hp → Prop, t { D with nx := Mid } σ H ∧ ∀ σ' H', Mid σ' H' → u D σ' H'
theorem pss_cut {X : Cx} {st : Stmt} {rest : List Stmt} {t u : TS} (h1 : PS X st t) (h2 : PSs X rest u) : PSs X (st :: rest) (tCut t u) := by
  refine ⟨fun pins s σ H D I h => ?_⟩
  obtain ⟨Mid, hm, hu⟩ := h
  refine PySem.wpAny_execs_cons (thn (h1.run pins s σ H { D with nx := Mid } I hm) fun f s1 q => ?_)
  cases f with
  | next =>
    obtain ⟨σ', H', I', q⟩ := q
    exact h2.run pins s1 σ' H' D I' (hu σ' H' q)
  | ret v => exact q
  | brk => exact q
  | cont => exact q


def yLonger (K : PySem.W.Frag) : Sp := fun vs H Q _ => ∃ (vd vr vp : V) (ws : List Str) (ps : List Pat) (gap : Nat) (pl : List Nat), vs = [vd, vr, vp] ∧ Dp K H vd (encD ws) ∧ Dp K H vr (encRow ps gap) ∧ Dp K H vp (encW pl) ∧
  pl.length < ps.length ∧ pl.getLastD 0 ≤ ws.length ∧ ps.length ≤ 100 ∧ ws.length ≤ 1000 ∧ ∀ r H', Same H H' → H r = none → LAt K H' r ((extB ws ps gap pl).map encW) → Q (.ref r) H'
section
variable {P : Program} {w : World} {K : PySem.W.Frag} {mg : Str → Option Value} {base : Heap} {A : Nat → Addr} {D : Nat → FuncData}
theorem ok_longer (T : Txt K mg A D) : FnOk P w K mg base CX0 3 (A 4) (D 4) ["document", "row", "places"] (yLonger K) := by
  refine T.F_longer_by_one.ok sc_longer_by_one (fun vs H Q E h => ?_) (fun cdv A' outer s H vs Q E hr h => ?_)
  · obtain ⟨vd, vr, vp, ws, ps, gap, pl, rfl, _⟩ := h; rfl
  obtain ⟨vd, vr, vp, ws, ps, gap, pl, rfl, hd, hrw, hp, hk, hlast, hps, hws, q⟩ := h
  have hnd := sc_longer_by_one.nd
  have G_end_behind := ok_end_behind (P := P) (w := w) (base := base) T
  have G_begins_standing := ok_begins_standing (P := P) (w := w) (base := base) T
  refine ⟨_, (pss_cons (ps_set (i := 5) hnd rfl (Or.inl rfl) pe_int) (pss_cons (ps_set (i := 6) hnd rfl (Or.inl rfl) (pe_callB call_len_seq rfl T.z_len PySem.boot_len (pa_cons (pv 0) pa_nil))) (pss_cut (ps_if (pt_cmpR op_gt (pe_callB call_len_seq rfl T.z_len PySem.boot_len (pa_cons (pv 2) pa_nil)) pe_int (nomark _)) (pss_cons (ps_set (i := 5) hnd rfl (Or.inl rfl) (pe_op op_add (pe_ix (r := rIxT K) ix_tup (pv 2) (pe_un un_neg pe_int) (fun _ _ => rfl)) pe_int)) (pss_one (ps_set (i := 6) hnd rfl (Or.inl rfl) (pe_call G_end_behind (hr.mono (by first | decide | omega)) rfl T.m_end_behind T.F_end_behind.kp T.b_end_behind .nil pass0 (pa_cons (pv 0) (pa_cons (pv 1) (pa_cons (pe_ix (r := rIxT K) ix_tup (pv 2) pe_int (fun _ _ => rfl)) pa_nil))))))) pss_nil) (pss_cons (ps_setLc (i := 7) (own := [("place", 3)]) rfl hnd rfl rfl (sw_true rfl rfl rfl (by decide +kernel)) (pi_range2 rfl T.z_range (pa_cons (pv 5) (pa_cons (pv 6) pa_nil))) (blkOk_by (own := [("place", 3)]) (N := N_longer_by_one) (sc := defScope s_longer_by_one) (by decide +kernel)) (fun _ _ _ _ _ => (pg_name (i := 3) hnd rfl (Or.inl rfl))) (fun _ _ _ _ _ => pts_nil) (fun _ _ _ _ _ => (pe_op (r := rCatA K) op_catA (pv 2) (pe_tup (pa_cons (pv 3) pa_nil))))) (pss_one (ps_ret (pe_lc (own := [("more", 4)]) rfl hnd (pi_list (pv 7)) (blkOk_by (own := [("more", 4)]) (N := N_longer_by_one) (sc := defScope s_longer_by_one) (by decide +kernel)) (fun _ _ _ _ _ => (pg_name (i := 4) hnd rfl (Or.inl rfl))) (fun _ _ _ _ _ => (pts_one (pt_val (pe_call G_begins_standing (hr.mono (by first | decide | omega)) rfl T.m_begins_standing T.F_begins_standing.kp T.b_begins_standing .nil pass0 (pa_cons (pv 0) (pa_cons (pv 1) (pa_cons (pv 4) pa_nil))))))) (fun _ _ _ _ _ => (pv 4))))))))), ?_⟩
  obtain ⟨ad, rfl, had⟩ := dp_encD hd
  obtain ⟨ar, pa, pxs, rfl, har, hpa, hpx⟩ := dp_encRow hrw
  obtain ⟨ap, rfl, hap⟩ := dp_encW hp
  have hln : (pl.map fun (n : Nat) => V.int (n : Int)).length = pl.length := List.length_map _
  obtain ⟨s0, hs0⟩ : ∃ s0, s0 = if pl = [] then 0 else pl.getLastD 0 + 1 := ⟨_, rfl⟩
  obtain ⟨e0, he0⟩ : ∃ e0, e0 = if pl = [] then ws.length else endB ws.length ps.length gap (pl.headD 0) := ⟨_, rfl⟩
  have he0l : e0 ≤ ws.length := by
    rw [he0]; split
    · exact Nat.le_refl _
    · exact Nat.min_le_right _ _
  have hs0l : s0 ≤ ws.length + 1 := by
    rw [hs0]; split <;> omega
  refine ⟨_, rfl, ad, _, rfl, .inr had, fun σ H' => H' = H ∧ σ = [some (.ref ad), some (.ref ar), some (.ref ap), none, none, some (.int (s0 : Int)), some (.int (e0 : Int)), none], ?_, ?_⟩
  · refine ⟨_, rfl, ap, _, rfl, .inr hap, _, _, rfl, rfl, _, rfl, ?_⟩
    refine ite2 (fun c => ?_) (fun c => ?_)
    · have c' : (0 : Int) < ((pl.map fun (n : Nat) => V.int (n : Int)).length : Int) := of_decide_eq_true c
      have hne : pl ≠ [] := fun e => by rw [e] at c'; exact absurd c' (by decide)
      have atl : atI (pl.map fun (n : Nat) => V.int (n : Int)) (-1) = some (.int ((pl.getLastD 0 : Nat) : Int)) := by
        obtain ⟨u, x, rfl⟩ : ∃ u x, pl = u ++ [x] := ⟨pl.dropLast, pl.getLast hne, (List.dropLast_concat_getLast hne).symm⟩
        rw [List.map_append, List.getLastD_concat]
        exact atI_last _ _
      have at0 : atI (pl.map fun (n : Nat) => V.int (n : Int)) 0 = some (.int ((pl.headD 0 : Nat) : Int)) := by
        cases pl with
        | nil => exact absurd rfl hne
        | cons x u => exact atI_nat (j := 0) rfl
      refine ⟨_, rfl, _, rfl, ap, _, -1, _, rfl, rfl, hap, atl, _, _, rfl, rfl, ?_⟩
      refine ⟨_, rfl, _, rfl, _, rfl, ap, _, 0, _, rfl, rfl, hap, at0, .ref ad, .ref ar, ws, ps, gap, pl.headD 0, rfl, hd, hrw, rfl, ?_⟩
      rw [hs0, he0, if_neg hne, if_neg hne]
      rfl
    · have hne : pl = [] := by
        cases pl with
        | nil => rfl
        | cons x u => exact absurd (decide_eq_true (show (0 : Int) < (((x :: u).map fun (n : Nat) => V.int (n : Int)).length : Int) by rw [List.length_map, List.length_cons]; omega)) c
      refine ⟨rfl, ?_⟩
      rw [hs0, he0, if_pos hne, if_pos hne]
      show [some (V.ref ad), some (V.ref ar), some (V.ref ap), none, none, some (V.int 0), some (V.int ((ws.map V.str).length : Int)), none] = _
      rw [List.length_map]
      rfl
  · rintro σ H' ⟨rfl, rfl⟩
    refine ⟨_, rfl, _, rfl, _, _, rfl, ⟨by omega, by omega, by omega, by omega⟩, fun D hD => ?_⟩
    have ez : ((e0 : Int) - (s0 : Int)).toNat = e0 - s0 := by omega
    rw [ez]
    refine lc_it (walk_range (n := e0 - s0)) (fun i H1 => Same H' H1 ∧ LAt K H1 D ((List.range i).map fun j => encW (pl ++ [s0 + j]))) ⟨same_new hD, LAt.nil upd_same⟩ (fun _ _ _ _ => trivial) ?_ ?_
    · rintro i x H1 H2 hi ⟨s1, L1⟩ ⟨rfl, rfl⟩
      refine ⟨rfl, ?_⟩
      refine ⟨_, rfl, _, rfl, (by show 1 ≤ sizeLine; decide), fun q2 hq2 => ?_⟩
      have sq := same_new (o := .tup [.int ((s0 : Int) + (i : Int))]) hq2
      refine catA_use ((TK.same (s1.trans sq)).seq hap) (SqT.of upd_same) (by rw [hln]; show pl.length + 1 ≤ 16777216; omega) fun p3 H3 s3 h3 => ?_
      obtain ⟨vs, e1, e2, e3⟩ := L1.same (sq.trans s3)
      refine ⟨vs, e1, (by rw [DpAll.len e2, List.length_map, List.length_range]; exact len_lt (by omega)), same_upd ((s1.trans sq).trans s3) hD, ?_⟩
      rw [List.range_succ, List.map_append]
      refine LAt.push e1 e2 e3 (mk_encW ?_) (imm_encW _)
      rw [List.map_append]
      exact h3
    · rintro H1 ⟨s1, L1⟩
      obtain ⟨vs, e1, e2, e3⟩ := L1
      have hlen : vs.length = e0 - s0 := by rw [DpAll.len e2, List.length_map, List.length_range]
      have hE : extL ws ps gap pl = (List.range (e0 - s0)).map fun j => pl ++ [s0 + j] := by rw [hs0, he0]; rfl
      refine ⟨_, rfl, D, rfl, ⟨_, SqL.of e1⟩, fun R hR => ?_⟩
      refine lc_it (walk_list (xs := vs)) (fun i H2 => Same H1 H2 ∧ LAt K H2 R ((((extL ws ps gap pl).take i).filter (beginsB ws ps gap)).map encW)) ⟨same_new hR, LAt.nil upd_same⟩ (fun i H2 _ h => SqL.of (h.1 _ _ e1)) ?_ ?_
      · rintro i x H2 H3 hi ⟨s2, L2⟩ ⟨rfl, hx⟩
        have hi2 : i < e0 - s0 := by omega
        obtain ⟨v, hv, dv⟩ := DpAll.get e2 (i := i) (d := encW (pl ++ [s0 + i])) (by rw [List.getElem?_map, List.getElem?_range hi2]; rfl)
        have ev : x = v := Option.some.inj (hx.symm.trans hv)
        subst ev
        have hEi : (extL ws ps gap pl)[i]? = some (pl ++ [s0 + i]) := by rw [hE, List.getElem?_map, List.getElem?_range hi2]; rfl
        have s02 := s1.trans s2
        have step : ((extL ws ps gap pl).take (i + 1)).filter (beginsB ws ps gap) = ((extL ws ps gap pl).take i).filter (beginsB ws ps gap) ++ (if beginsB ws ps gap (pl ++ [s0 + i]) = true then [pl ++ [s0 + i]] else []) := by
          rw [List.take_add_one, hEi, List.filter_append]
          congr 1
          show List.filter _ [pl ++ [s0 + i]] = _
          rw [List.filter_cons, List.filter_nil]
        have hin : (pl ++ [s0 + i]).getLastD 0 < endB ws.length ps.length gap ((pl ++ [s0 + i]).headD 0) := by
          rw [List.getLastD_concat]
          by_cases hne : pl = []
          · subst hne
            rw [if_pos rfl] at he0 hs0
            show s0 + i < min (s0 + i + ps.length + gap) ws.length
            omega
          · rw [head_app hne]
            rw [if_neg hne] at he0
            omega
        refine ⟨rfl, ?_⟩
        refine ⟨_, rfl, _, rfl, _, rfl, .ref ad, .ref ar, x, ws, ps, gap, pl ++ [s0 + i], rfl, Dp.same s02 hd, Dp.same s02 hrw, Dp.same s2 dv, (by simp), (by rw [List.length_append, List.length_singleton]; omega), hin, fun H4 s4 => ⟨_, rfl, ?_⟩⟩
        have L4 := L2.same s4
        cases hb : beginsB ws ps gap (pl ++ [s0 + i]) with
        | true =>
          refine iteT ?_
          obtain ⟨ws4, f1, f2, f3⟩ := L4
          refine ⟨_, rfl, ws4, f1, ?_, same_upd (s2.trans s4) hR, ?_⟩
          · rw [DpAll.len f2, List.length_map]
            have h1 := List.length_filter_le (beginsB ws ps gap) ((extL ws ps gap pl).take i)
            rw [List.length_take] at h1
            exact len_lt (by omega)
          · rw [step, hb, if_pos rfl, List.map_append]
            exact LAt.push f1 f2 f3 (Dp.same (s2.trans s4) dv) (imm_encW _)
        | false =>
          refine iteF ?_
          refine ⟨s2.trans s4, ?_⟩
          rw [step, hb, if_neg Bool.false_ne_true, List.append_nil]
          exact L4
      · rintro H2 ⟨s2, L2⟩
        rw [take_all (by rw [hE, List.length_map, List.length_range]; omega)] at L2
        exact q R H2 (s1.trans s2) (s1.free hR) L2
end


/-! ### the mathematics of standings -/
def emb : List Pat → List Str → Bool
  | [], _ => true
  | _ :: _, [] => false
  | p :: ps, w :: ws => if fitsB w p = true then emb ps ws else emb (p :: ps) ws
theorem emb_nil (ws : List Str) : emb [] ws = true := by cases ws <;> rfl
theorem emb_yes {p : Pat} {w : Str} (ps : List Pat) (ws : List Str) (h : fitsB w p = true) : emb (p :: ps) (w :: ws) = emb ps ws := if_pos h
theorem emb_not {p : Pat} {w : Str} (ps : List Pat) (ws : List Str) (h : ¬ fitsB w p = true) : emb (p :: ps) (w :: ws) = emb (p :: ps) ws := if_neg h
theorem taken_emb (ps : List Pat) : ∀ (ws : List Str) (t : Nat), t ≤ ps.length → (ws.foldl (tstep ps) t = ps.length ↔ emb (ps.drop t) ws = true)
  | [], t, h => by
    show t = ps.length ↔ _
    by_cases e : t < ps.length
    · rw [List.drop_eq_getElem_cons e]
      refine ⟨fun x => by omega, fun x => ?_⟩
      exact absurd (show false = true from x) Bool.false_ne_true
    · rw [List.drop_eq_nil_of_le (by omega)]
      exact ⟨fun _ => rfl, fun _ => by omega⟩
  | w :: ws, t, h => by
    show ws.foldl (tstep ps) (tstep ps t w) = ps.length ↔ _
    by_cases e : t < ps.length
    · have eg : ps.getD t ("", "") = ps[t] := by rw [List.getD_eq_getElem?_getD, List.getElem?_eq_getElem e]; rfl
      by_cases f : fitsB w ps[t] = true
      · have e1 : tstep ps t w = t + 1 := if_pos ⟨e, by rw [eg]; exact f⟩
        rw [e1, List.drop_eq_getElem_cons e, emb_yes _ _ f]
        exact taken_emb ps ws (t + 1) e
      · have e1 : tstep ps t w = t := if_neg (fun c => f (by rw [← eg]; exact c.2))
        rw [e1, List.drop_eq_getElem_cons e, emb_not _ _ f, ← List.drop_eq_getElem_cons e]
        exact taken_emb ps ws t h
    · have e1 : tstep ps t w = t := if_neg (fun c => e c.1)
      have e2 : ps.drop t = [] := List.drop_eq_nil_of_le (by omega)
      rw [e1, e2]
      refine (taken_emb ps ws t h).trans ?_
      rw [e2, emb_nil, emb_nil]
theorem taken_iff (ps : List Pat) (ws : List Str) : (taken ps ws = ps.length) ↔ emb ps ws = true := taken_emb ps ws 0 (Nat.zero_le _)
theorem emb_both : ∀ ws : List Str, (∀ ps a, emb ps ws = true → emb ps (a :: ws) = true) ∧ (∀ p ps, emb (p :: ps) ws = true → emb ps ws = true)
  | [] => by
    refine ⟨fun ps a h => ?_, fun p ps h => absurd (show false = true from h) Bool.false_ne_true⟩
    cases ps with
    | nil => rfl
    | cons p ps => exact absurd (show false = true from h) Bool.false_ne_true
  | w :: r => by
    obtain ⟨i1, i2⟩ := emb_both r
    have s2 : ∀ p ps, emb (p :: ps) (w :: r) = true → emb ps (w :: r) = true := fun p ps h => by
      by_cases f : fitsB w p = true
      · rw [emb_yes _ _ f] at h
        exact i1 ps w h
      · rw [emb_not _ _ f] at h
        exact i1 ps w (i2 p ps h)
    refine ⟨fun ps a h => ?_, s2⟩
    cases ps with
    | nil => rfl
    | cons p ps =>
      by_cases f : fitsB a p = true
      · rw [emb_yes _ _ f]; exact s2 p ps h
      · rw [emb_not _ _ f]; exact h
theorem emb_drop : ∀ (i : Nat) (ps : List Pat) (ws : List Str), emb ps (ws.drop i) = true → emb ps ws = true
  | 0, ps, ws, h => h
  | i + 1, ps, [], h => by rw [List.drop_nil] at h; exact h
  | i + 1, ps, w :: ws, h => (emb_both ws).1 ps w (emb_drop i ps ws h)
theorem emb_first : ∀ (ws : List Str) (p : Pat) (ps : List Pat), emb (p :: ps) ws = true → ∃ i, i < ws.length ∧ fitsB (ws.getD i "") p = true ∧ emb ps (ws.drop (i + 1)) = true
  | [], p, ps, h => absurd (show false = true from h) Bool.false_ne_true
  | w :: r, p, ps, h => by
    by_cases f : fitsB w p = true
    · rw [emb_yes _ _ f] at h
      exact ⟨0, Nat.succ_pos _, f, h⟩
    · rw [emb_not _ _ f] at h
      obtain ⟨i, h1, h2, h3⟩ := emb_first r p ps h
      exact ⟨i + 1, Nat.succ_lt_succ h1, h2, h3⟩
theorem emb_of {ws : List Str} {p : Pat} {ps : List Pat} {i : Nat} (h1 : i < ws.length) (h2 : fitsB (ws.getD i "") p = true) (h3 : emb ps (ws.drop (i + 1)) = true) : emb (p :: ps) ws = true := by
  refine emb_drop i _ _ ?_
  have e : ws.getD i "" = ws[i] := by rw [List.getD_eq_getElem?_getD, List.getElem?_eq_getElem h1]; rfl
  rw [List.drop_eq_getElem_cons h1, emb_yes _ _ (by rw [← e]; exact h2)]
  exact h3
/-- the rest of the row behind these places can be placed -/
def compB (ws : List Str) (ps : List Pat) (gap : Nat) (pl : List Nat) : Bool :=
  if pl = [] then true else emb (ps.drop pl.length) ((ws.drop (pl.getLastD 0 + 1)).take (endB ws.length ps.length gap (pl.headD 0) - (pl.getLastD 0 + 1)))
def lawC (ws : List Str) (ps : List Pat) (gap : Nat) (pl : List Nat) (j : Nat) : Bool :=
  decide ((pl = [] ∨ pl.getLastD 0 < j) ∧ fitsB (ws.getD j "") (ps.getD pl.length ("", "")) = true ∧ (pl = [] ∨ j < pl.headD 0 + ps.length + gap))
def lawExt (ws : List Str) (ps : List Pat) (gap : Nat) (pl : List Nat) : List (List Nat) := ((List.range ws.length).filter (lawC ws ps gap pl)).map fun j => pl ++ [j]
def waysL (ws : List Str) (ps : List Pat) (gap : Nat) : Nat → List (List Nat)
  | 0 => [[]]
  | k + 1 => (waysL ws ps gap k).flatMap (lawExt ws ps gap)
theorem range_mid : ∀ (n s e : Nat), e ≤ n → (List.range n).filter (fun j => decide (s ≤ j ∧ j < e)) = (List.range (e - s)).map fun j => s + j
  | 0, s, e, h => by
    have : e - s = 0 := by omega
    rw [this]; rfl
  | n + 1, s, e, h => by
    rw [List.range_succ, List.filter_append]
    by_cases h1 : e ≤ n
    · have e1 : [n].filter (fun j => decide (s ≤ j ∧ j < e)) = [] := by
        rw [List.filter_cons_of_neg (by rw [decide_eq_true_eq]; omega)]; rfl
      rw [e1, List.append_nil, range_mid n s e h1]
    · have e0 : e = n + 1 := by omega
      have e2 : (List.range n).filter (fun j => decide (s ≤ j ∧ j < e)) = (List.range n).filter (fun j => decide (s ≤ j ∧ j < n)) := List.filter_congr fun x hx => by
        have := List.mem_range.mp hx
        by_cases c : s ≤ x
        · rw [decide_eq_true (by omega), decide_eq_true (by omega)]
        · rw [decide_eq_false (by omega), decide_eq_false (by omega)]
      rw [e2, range_mid n s n (Nat.le_refl _)]
      by_cases c : s ≤ n
      · have e3 : [n].filter (fun j => decide (s ≤ j ∧ j < e)) = [n] := by
          rw [List.filter_cons_of_pos (by rw [decide_eq_true_eq]; omega)]; rfl
        have e4 : e - s = (n - s) + 1 := by omega
        rw [e3, e4, List.range_succ, List.map_append]
        have e5 : s + (n - s) = n := by omega
        show _ = _ ++ [s + (n - s)]
        rw [e5]
      · have e3 : [n].filter (fun j => decide (s ≤ j ∧ j < e)) = [] := by
          rw [List.filter_cons_of_neg (by rw [decide_eq_true_eq]; omega)]; rfl
        have e4 : e - s = 0 := by omega
        have e5 : n - s = 0 := by omega
        rw [e3, e4, e5]; rfl
/-- one place more: it fits, and the rest can be placed -/
theorem begins_iff {ws : List Str} {ps : List Pat} {gap : Nat} {u : List Nat} {j : Nat} (hu : u.length < ps.length) (hj : j < endB ws.length ps.length gap ((u ++ [j]).headD 0)) :
    beginsB ws ps gap (u ++ [j]) = true ↔ fitsB (ws.getD j "") (ps.getD u.length ("", "")) = true ∧ compB ws ps gap (u ++ [j]) = true := by
  have hjw : j < ws.length := Nat.lt_of_lt_of_le hj (Nat.min_le_right _ _)
  unfold beginsB compB
  rw [if_neg (by simp), List.getLastD_concat, List.length_append, List.length_singleton, Nat.add_sub_cancel, Bool.and_eq_true, decide_eq_true_eq, taken_iff]
  have e1 : ws.getD j "" = ws[j] := by rw [List.getD_eq_getElem?_getD, List.getElem?_eq_getElem hjw]; rfl
  have e2 : ps.getD u.length ("", "") = ps[u.length] := by rw [List.getD_eq_getElem?_getD, List.getElem?_eq_getElem hu]; rfl
  refine and_congr_right fun f => ?_
  rw [e1, e2] at f
  obtain ⟨m, hm⟩ : ∃ m, endB ws.length ps.length gap ((u ++ [j]).headD 0) = j + m + 1 := ⟨endB ws.length ps.length gap ((u ++ [j]).headD 0) - j - 1, by omega⟩
  have k1 : j + m + 1 - j = m + 1 := by omega
  have k2 : j + m + 1 - (j + 1) = m := by omega
  rw [hm, k1, k2, List.drop_eq_getElem_cons hu, List.drop_eq_getElem_cons hjw, List.take_succ_cons, emb_yes _ _ f]
theorem headD_snoc (u : List Nat) (j : Nat) : (u ++ [j]).headD 0 = if u = [] then j else u.headD 0 := by
  cases u with
  | nil => rfl
  | cons a r => rfl
theorem ext_eq {ws : List Str} {ps : List Pat} {gap : Nat} {u : List Nat} (hu : u.length < ps.length) : extB ws ps gap u = (lawExt ws ps gap u).filter (compB ws ps gap) := by
  unfold extB extL lawExt
  obtain ⟨s0, hs0⟩ : ∃ s0, s0 = if u = [] then 0 else u.getLastD 0 + 1 := ⟨_, rfl⟩
  obtain ⟨e0, he0⟩ : ∃ e0, e0 = if u = [] then ws.length else endB ws.length ps.length gap (u.headD 0) := ⟨_, rfl⟩
  have he0l : e0 ≤ ws.length := by
    rw [he0]; split
    · exact Nat.le_refl _
    · exact Nat.min_le_right _ _
  rw [← hs0, ← he0]
  have e1 : ((List.range (e0 - s0)).map fun j => u ++ [s0 + j]) = ((List.range ws.length).filter (fun j => decide (s0 ≤ j ∧ j < e0))).map fun j => u ++ [j] := by
    rw [range_mid _ _ _ he0l, List.map_map]; rfl
  rw [e1, List.filter_map, List.filter_map, List.filter_filter, List.filter_filter]
  congr 1
  refine List.filter_congr fun j hj => ?_
  have hjw := List.mem_range.mp hj
  rw [Bool.eq_iff_iff, Bool.and_eq_true, Bool.and_eq_true, decide_eq_true_eq]
  show beginsB ws ps gap (u ++ [j]) = true ∧ _ ↔ compB ws ps gap (u ++ [j]) = true ∧ _
  unfold lawC
  rw [decide_eq_true_eq]
  have hE : (s0 ≤ j ∧ j < e0) ↔ (u = [] ∨ u.getLastD 0 < j) ∧ (u = [] ∨ j < u.headD 0 + ps.length + gap) := by
    by_cases c : u = []
    · rw [if_pos c] at hs0 he0
      exact ⟨fun _ => ⟨.inl c, .inl c⟩, fun _ => by omega⟩
    · rw [if_neg c] at hs0 he0
      unfold endB at he0
      refine ⟨fun h => ⟨.inr (by omega), .inr (by omega)⟩, fun h => ?_⟩
      obtain ⟨h1, h2⟩ := h
      have h1' := h1.resolve_left c
      have h2' := h2.resolve_left c
      omega
  by_cases hr : s0 ≤ j ∧ j < e0
  · have hj2 : j < endB ws.length ps.length gap ((u ++ [j]).headD 0) := by
      rw [headD_snoc]
      by_cases c : u = []
      · rw [if_pos c]; unfold endB; omega
      · rw [if_neg c]; rw [if_neg c] at he0; omega
    have hb := begins_iff hu hj2
    have hE' := hE.mp hr
    constructor
    · intro h
      have h2 := hb.mp h.1
      exact ⟨h2.2, hE'.1, h2.1, hE'.2⟩
    · intro h
      exact ⟨hb.mpr ⟨h.2.2.1, h.1⟩, hr⟩
  · constructor
    · intro h; exact absurd h.2 hr
    · intro h; exact absurd (hE.mpr ⟨h.2.1, h.2.2.2⟩) hr
theorem mem_lawExt {ws : List Str} {ps : List Pat} {gap : Nat} {u v : List Nat} (h : v ∈ lawExt ws ps gap u) : ∃ j, v = u ++ [j] ∧ j < ws.length ∧ (u = [] ∨ u.getLastD 0 < j) ∧ fitsB (ws.getD j "") (ps.getD u.length ("", "")) = true ∧ (u = [] ∨ j < u.headD 0 + ps.length + gap) := by
  unfold lawExt at h
  obtain ⟨j, hj, rfl⟩ := List.mem_map.mp h
  obtain ⟨h1, h2⟩ := List.mem_filter.mp hj
  unfold lawC at h2
  rw [decide_eq_true_eq] at h2
  exact ⟨j, rfl, List.mem_range.mp h1, h2⟩
theorem mem_waysL {ws : List Str} {ps : List Pat} {gap : Nat} : ∀ {k : Nat} {v : List Nat}, v ∈ waysL ws ps gap k → v.length = k ∧ (v ≠ [] → v.getLastD 0 < ws.length)
  | 0, v, h => by
    have e := List.mem_singleton.mp h
    rw [e]; exact ⟨rfl, fun c => absurd rfl c⟩
  | k + 1, v, h => by
    obtain ⟨u, hu, hv⟩ := List.mem_flatMap.mp h
    obtain ⟨j, rfl, hj, _⟩ := mem_lawExt hv
    have := mem_waysL hu
    refine ⟨by rw [List.length_append, List.length_singleton, this.1], fun _ => ?_⟩
    rw [List.getLastD_concat]; exact hj
theorem flatMap_filter_of {α β : Type} {p : α → Bool} {f : α → List β} : ∀ {l : List α}, (∀ a ∈ l, p a = false → f a = []) → (l.filter p).flatMap f = l.flatMap f
  | [], _ => rfl
  | a :: r, h => by
    have ih := flatMap_filter_of (p := p) (f := f) (l := r) fun x hx => h x (List.mem_cons_of_mem _ hx)
    cases e : p a with
    | true => rw [List.filter_cons_of_pos e, List.flatMap_cons, List.flatMap_cons, ih]
    | false => rw [List.filter_cons_of_neg (by rw [e]; exact Bool.false_ne_true), List.flatMap_cons, ih, h a List.mem_cons_self e]; rfl
theorem flatMap_eq_of {α β : Type} {f g : α → List β} : ∀ {l : List α}, (∀ a ∈ l, f a = g a) → l.flatMap f = l.flatMap g
  | [], _ => rfl
  | a :: r, h => by
    rw [List.flatMap_cons, List.flatMap_cons, h a List.mem_cons_self, flatMap_eq_of fun x hx => h x (List.mem_cons_of_mem _ hx)]
/-- a way that can't go on has no longer one that can -/
theorem comp_back {ws : List Str} {ps : List Pat} {gap : Nat} {u : List Nat} {j : Nat} (hu : u.length < ps.length) (hj : j < ws.length) (h1 : u = [] ∨ u.getLastD 0 < j) (h2 : fitsB (ws.getD j "") (ps.getD u.length ("", "")) = true) (h3 : u = [] ∨ j < u.headD 0 + ps.length + gap)
    (h : compB ws ps gap (u ++ [j]) = true) : compB ws ps gap u = true := by
  unfold compB
  by_cases c : u = []
  · rw [if_pos c]
  · rw [if_neg c]
    have h1' := h1.resolve_left c
    have h3' := h3.resolve_left c
    unfold compB at h
    rw [if_neg (by simp), List.getLastD_concat, List.length_append, List.length_singleton, headD_snoc, if_neg c] at h
    have hE : j < endB ws.length ps.length gap (u.headD 0) := by unfold endB; omega
    obtain ⟨E, hE0⟩ : ∃ E, E = endB ws.length ps.length gap (u.headD 0) := ⟨_, rfl⟩
    have hEl : E ≤ ws.length := by rw [hE0]; exact Nat.min_le_right _ _
    obtain ⟨a, ha⟩ : ∃ a, a = u.getLastD 0 := ⟨_, rfl⟩
    rw [← hE0] at h hE ⊢
    rw [← ha] at h1' ⊢
    have e2 : ps.getD u.length ("", "") = ps[u.length] := by rw [List.getD_eq_getElem?_getD, List.getElem?_eq_getElem hu]; rfl
    rw [List.drop_eq_getElem_cons hu]
    refine emb_of (i := j - (a + 1)) ?_ ?_ ?_
    · rw [List.length_take, List.length_drop]; omega
    · rw [List.getD_eq_getElem?_getD, List.getElem?_take, if_pos (by omega), List.getElem?_drop, show a + 1 + (j - (a + 1)) = j by omega, ← List.getD_eq_getElem?_getD, ← e2]
      exact h2
    · rw [List.drop_take, List.drop_drop, show E - (a + 1) - (j - (a + 1) + 1) = E - (j + 1) by omega, show a + 1 + (j - (a + 1) + 1) = j + 1 by omega]
      exact h
theorem begun_ways (ws : List Str) (ps : List Pat) (gap : Nat) : ∀ k, k ≤ ps.length → begunL ws ps gap k = (waysL ws ps gap k).filter (compB ws ps gap)
  | 0, _ => rfl
  | k + 1, hk => by
    show (begunL ws ps gap k).flatMap (extB ws ps gap) = ((waysL ws ps gap k).flatMap (lawExt ws ps gap)).filter (compB ws ps gap)
    rw [begun_ways ws ps gap k (by omega), List.filter_flatMap, flatMap_eq_of (g := fun a => (lawExt ws ps gap a).filter (compB ws ps gap)) fun u hu => ext_eq (by have := mem_waysL (List.mem_filter.mp hu).1; omega)]
    refine flatMap_filter_of fun u hu hc => ?_
    refine List.filter_eq_nil_iff.mpr fun v hv hcv => ?_
    obtain ⟨j, rfl, hj, h1, h2, h3⟩ := mem_lawExt hv
    have := comp_back (by have := mem_waysL hu; omega) hj h1 h2 h3 hcv
    rw [hc] at this
    exact absurd this Bool.false_ne_true
theorem begun_end (ws : List Str) (ps : List Pat) (gap : Nat) : begunL ws ps gap ps.length = waysL ws ps gap ps.length := by
  rw [begun_ways ws ps gap _ (Nat.le_refl _)]
  refine List.filter_eq_self.mpr fun v hv => ?_
  unfold compB
  split
  · rfl
  · rw [(mem_waysL hv).1, List.drop_length, emb_nil]
theorem ext_some {ws : List Str} {ps : List Pat} {gap k : Nat} {u : List Nat} (h0 : 0 < k) (hk : k < ps.length) (hu : u ∈ begunL ws ps gap k) : extB ws ps gap u ≠ [] := by
  rw [begun_ways ws ps gap k (by omega)] at hu
  obtain ⟨hw, hc⟩ := List.mem_filter.mp hu
  have hl := (mem_waysL hw).1
  have c : u ≠ [] := fun e => by rw [e] at hl; simp at hl; omega
  have hul : u.length < ps.length := by omega
  rw [ext_eq hul]
  unfold compB at hc
  rw [if_neg c, List.drop_eq_getElem_cons hul] at hc
  obtain ⟨i, hi, hf, he⟩ := emb_first _ _ _ hc
  obtain ⟨E, hE0⟩ : ∃ E, E = endB ws.length ps.length gap (u.headD 0) := ⟨_, rfl⟩
  have hEl : E ≤ ws.length := by rw [hE0]; exact Nat.min_le_right _ _
  have hEn : E ≤ u.headD 0 + ps.length + gap := by rw [hE0]; exact Nat.min_le_left _ _
  rw [← hE0] at hi hf he
  rw [List.length_take, List.length_drop] at hi
  obtain ⟨a, ha⟩ : ∃ a, a = u.getLastD 0 := ⟨_, rfl⟩
  rw [← ha] at hi hf he
  have e2 : ps.getD u.length ("", "") = ps[u.length] := by rw [List.getD_eq_getElem?_getD, List.getElem?_eq_getElem hul]; rfl
  rw [List.getD_eq_getElem?_getD, List.getElem?_take, if_pos (by omega), List.getElem?_drop, ← List.getD_eq_getElem?_getD, ← e2] at hf
  rw [List.drop_take, List.drop_drop] at he
  refine List.ne_nil_of_mem (a := u ++ [a + 1 + i]) (List.mem_filter.mpr ⟨List.mem_map.mpr ⟨a + 1 + i, List.mem_filter.mpr ⟨List.mem_range.mpr (by omega), ?_⟩, rfl⟩, ?_⟩)
  · unfold lawC
    rw [decide_eq_true_eq]
    exact ⟨.inr (by omega), hf, .inr (by omega)⟩
  · unfold compB
    rw [if_neg (by simp), List.getLastD_concat, List.length_append, List.length_singleton, headD_snoc, if_neg c, ← hE0, show E - (a + 1 + i + 1) = E - (a + 1) - (i + 1) by omega]
    exact he
theorem flatMap_grows {α β : Type} {f : α → List β} : ∀ {l : List α}, (∀ a ∈ l, f a ≠ []) → l.length ≤ (l.flatMap f).length
  | [], _ => Nat.zero_le _
  | a :: r, h => by
    have ih := flatMap_grows (f := f) (l := r) fun x hx => h x (List.mem_cons_of_mem _ hx)
    have h1 := List.length_pos_iff.mpr (h a List.mem_cons_self)
    rw [List.flatMap_cons, List.length_append, List.length_cons]
    omega
theorem begun_grows (ws : List Str) (ps : List Pat) (gap k : Nat) (h0 : 0 < k) : ∀ d, k + d ≤ ps.length → (begunL ws ps gap k).length ≤ (begunL ws ps gap (k + d)).length
  | 0, _ => Nat.le_refl _
  | d + 1, h => Nat.le_trans (begun_grows ws ps gap k h0 d (by omega)) (flatMap_grows fun u hu => ext_some (by omega) (by omega) hu)
theorem over_iff (ws : List Str) (ps : List Pat) (gap : Nat) : Over ws ps gap ↔ 500 < (waysL ws ps gap ps.length).length := by
  rw [← begun_end]
  constructor
  · rintro ⟨k, hk, h⟩
    by_cases h0 : k = 0
    · subst h0
      exact absurd h (by show ¬ 500 < 1; decide)
    · have := begun_grows ws ps gap k (by omega) (ps.length - k) (by omega)
      rw [show k + (ps.length - k) = ps.length by omega] at this
      omega
  · intro h
    exact ⟨ps.length, Nat.le_refl _, h⟩
/-! the ways rise -/
def RLt (a b : List Nat) : Prop := ∃ p x y ra rb, a = p ++ x :: ra ∧ b = p ++ y :: rb ∧ x < y
theorem ways_rise (ws : List Str) (ps : List Pat) (gap : Nat) : ∀ k, (waysL ws ps gap k).Pairwise RLt
  | 0 => List.pairwise_singleton _ _
  | k + 1 => by
    show ((waysL ws ps gap k).flatMap (lawExt ws ps gap)).Pairwise RLt
    rw [List.pairwise_flatMap]
    refine ⟨fun u _ => ?_, (ways_rise ws ps gap k).imp fun {u1 u2} h x hx y hy => ?_⟩
    · unfold lawExt
      rw [List.pairwise_map]
      exact (List.pairwise_lt_range.filter _).imp fun {i j} h => ⟨u, i, j, [], [], rfl, rfl, h⟩
    · obtain ⟨i, rfl, _⟩ := mem_lawExt hx
      obtain ⟨j, rfl, _⟩ := mem_lawExt hy
      obtain ⟨p, a, b, ra, rb, rfl, rfl, hab⟩ := h
      exact ⟨p, a, b, ra ++ [i], rb ++ [j], by simp, by simp, hab⟩
theorem not_lt_back : ∀ (p : List Int) (x y : Int) (ra rb : List Int), x < y → ¬ (p ++ y :: rb < p ++ x :: ra)
  | [], x, y, ra, rb, h, c => by
    rcases List.cons_lt_cons_iff.mp c with c | c <;> omega
  | a :: p, x, y, ra, rb, h, c => by
    rcases List.cons_lt_cons_iff.mp c with c | c
    · omega
    · exact not_lt_back p x y ra rb h c.2
theorem encW_ints (a : List Nat) : encW a = .tuple ((a.map fun (n : Nat) => (n : Int)).map .int) := by
  unfold encW; rw [List.map_map]; rfl
open PySem.W in
theorem rlt_le {a b : List Nat} (h : RLt a b) : dataLe false id (encW a) (encW b) = true := by
  obtain ⟨p, x, y, ra, rb, rfl, rfl, hab⟩ := h
  show (!dataLt (encW _) (encW _)) = true
  rw [encW_ints, encW_ints, dataLt_tuple]
  have e := dataLt_ints ((p ++ y :: rb).map fun (n : Nat) => (n : Int)) ((p ++ x :: ra).map fun (n : Nat) => (n : Int))
  unfold rowLt at e
  rw [e, decide_eq_false]
  · rfl
  · rw [List.map_append, List.map_append, List.map_cons, List.map_cons]
    exact not_lt_back _ _ _ _ _ (Int.ofNat_lt.mpr hab)
open PySem.W in
theorem ways_sorted (ws : List Str) (ps : List Pat) (gap k : Nat) : ((waysL ws ps gap k).map encW).mergeSort (dataLe false id) = (waysL ws ps gap k).map encW := by
  refine List.mergeSort_of_pairwise ?_
  rw [List.pairwise_map]
  exact (ways_rise ws ps gap k).imp fun h => rlt_le h
theorem lawExt_len (ws : List Str) (ps : List Pat) (gap : Nat) (u : List Nat) : (lawExt ws ps gap u).length ≤ ws.length := by
  unfold lawExt
  rw [List.length_map]
  exact Nat.le_trans (List.length_filter_le _ _) (by rw [List.length_range]; exact Nat.le_refl _)
theorem ways_len (ws : List Str) (ps : List Pat) (gap : Nat) : ∀ k, (waysL ws ps gap k).length ≤ ws.length ^ k
  | 0 => Nat.le_refl _
  | k + 1 => Nat.le_trans (flatMap_len (lawExt_len ws ps gap) _) (by rw [Nat.pow_succ]; exact Nat.mul_le_mul_right _ (ways_len ws ps gap k))


open TL
theorem atI_mem {α : Type} {l : List α} {r : Int} (h0 : 0 ≤ r) (h1 : r < (l.length : Int)) : ∃ c, atI l r = some c ∧ c ∈ l := by
  obtain ⟨n, rfl⟩ := Int.eq_ofNat_of_zero_le h0
  have hn : n < l.length := by omega
  exact ⟨l[n], atI_nat (List.getElem?_eq_getElem hn), List.getElem_mem hn⟩
theorem tl_sgn (c : Nat) : tl (⟨#[c]⟩ : Str) = [c] := rfl


def ySpLaw (K : PySem.W.Frag) : Sp := fun vs H Q _ => ∃ (a : Addr) (ns : List Int), vs = [.ref a] ∧ SqL K H a (ns.map V.int) ∧ ns.length ≤ 63 ∧ ∀ H', Q (.bl true) H'
theorem box_new {H1 : Hp} {p bx : Addr} {ds : List Int} (hp : H1 p = some (.lst (ds.map V.int))) (hb : H1 bx = none) : BoxAt (upd H1 bx (.lst [.ref p, .int 0])) bx p :=
  ⟨ds, 0, upd_same, by rw [upd_ne (ne_of_none hp hb)]; exact hp⟩
theorem pick2 {a b : V} {r : Int} (h0 : 0 ≤ r) (h1 : r < 2) : atI [a, b] r = some (if r = 0 then a else b) := by
  by_cases e : r = 0
  · subst e; rfl
  · have e1 : r = 1 := by omega
    subst e1; rfl
theorem pick2i {x y r : Int} (h0 : 0 ≤ r) (h1 : r < 2) : atI [V.int x, V.int y] r = some (V.int (if r = 0 then x else y)) := by
  rw [pick2 h0 h1]; split <;> rfl
theorem pick2s {x y : Str} {r : Int} (h0 : 0 ≤ r) (h1 : r < 2) : atI [V.str x, V.str y] r = some (V.str (if r = 0 then x else y)) := by
  rw [pick2 h0 h1]; split <;> rfl
theorem atI_map {α β : Type} {f : α → β} {l : List α} {r : Int} {x : α} (h0 : 0 ≤ r) (h : atI l r = some x) : atI (l.map f) r = some (f x) := by
  obtain ⟨n, rfl⟩ := Int.eq_ofNat_of_zero_le h0
  by_cases hn : n < l.length
  · have e : atI l (n : Int) = some l[n] := atI_nat (List.getElem?_eq_getElem hn)
    have e2 : l[n] = x := Option.some.inj (e.symm.trans h)
    exact atI_nat (by rw [List.getElem?_map, List.getElem?_eq_getElem hn, e2]; rfl)
  · unfold atI ixN at h
    rw [if_pos h0, if_neg (by omega)] at h
    cases h


/-! ### sorted(xs) of data, any length -/
open PySem.W (EachIs AllAlike Sortable dataLe) in
def rSortD (K : PySem.W.Frag) : List V → Hp → VK → Prop := fun xs H Q => ∃ (l : Addr) (vs : List V) (ds : List PyData), xs = [.ref l] ∧ SqL K H l vs ∧ DpAll K H vs ds ∧ AllAlike ds ∧ Sortable ds ∧ (∀ d ∈ ds, d.depth ≤ 20) ∧
  ∀ (p : Addr) (vs' : List V), H p = none → DpAll K H vs' (ds.mergeSort (dataLe false id)) → vs'.length = vs.length → Q (.ref p) (upd H p (.lst vs'))
section
open PySem.W (EachIs AllAlike Sortable dataLe)
variable {X : Cx} {pins : List (Addr × Obj)} {σ : St} {H : Hp} {s : Shared}
theorem each_of (I : Inv X pins σ H s) : ∀ {vs : List V} {us : List Value} {ds : List PyData}, Vals vs us → DpAll X.K H vs ds → EachIs (fun u d => ∃ x, RelV x u ∧ Dp X.K H x d) us ds
  | _, _, _, .nil, .nil => .nil
  | _, _, _, .cons r t, .cons d e => .cons ⟨_, r, d⟩ (each_of I t e)
theorem each_reads (I : Inv X pins σ H s) : ∀ {us : List Value} {ds : List PyData}, EachIs (fun u d => ∃ x, RelV x u ∧ Dp X.K H x d) us ds → EachIs (fun u d => ∃ as, PySem.Reads s.heap u (id d) as) us ds
  | _, _, .nil => .nil
  | _, _, .cons h t => .cons (by obtain ⟨x, r, d⟩ := h; exact Dp.reads I _ _ _ d r) (each_reads I t)
theorem each_back {K : PySem.W.Frag} : ∀ {us : List Value} {ds : List PyData}, EachIs (fun u d => ∃ x, RelV x u ∧ Dp K H x d) us ds → ∃ vs, Vals vs us ∧ DpAll K H vs ds
  | _, _, .nil => ⟨[], .nil, .nil⟩
  | _, _, .cons h t => by
    obtain ⟨x, r, d⟩ := h
    obtain ⟨vs, h1, h2⟩ := each_back t
    exact ⟨x :: vs, .cons r h1, .cons d h2⟩
theorem cr_sortedD (hu : X.A.units + 64 < cLine) : CallR X (.builtin "sorted") (rSortD X.K) := by
  intro pins s σ H vs us Q I r h
  obtain ⟨a, xs, ds, rfl, hs, hd, hal, hso, hdep, q⟩ := h
  obtain ⟨its, rv, hl, hz⟩ := I.list hs
  rw [Vals.ref1 r]
  have hlen : ds.length = xs.length := (DpAll.len hd).symm
  have e := each_of I rv hd
  refine PySem.W.sorted_data (R := fun u d => ∃ x, RelV x u ∧ Dp X.K H x d) (enc := id) (bs := ds) hl.isList e (each_reads I e) (by rw [List.map_id]; exact hal) (by rw [List.map_id]; exact hso) (by rw [hlen]; exact hz) (fun d hd => ?_) fun out h1 h2 => ?_
  · have := hdep d hd
    show _ + 2 + d.depth < _
    omega
  · obtain ⟨vs', k1, k2⟩ := each_back h2
    obtain ⟨ep, he'⟩ := PyProof.Rows.sortedAll_at s.heap its out.toArray
    have hl2 : vs'.length = xs.length := by rw [k1.length, h1, hlen]
    exact ⟨.ref _, upd H (s.heap.objs.size + 1) (.lst vs'), I.laid (t' := s.toks) (fun _ _ => PyProof.Rows.sortedAll_old) (Nat.le_succ _) ⟨by rw [hl2]; exact hz, out, ep, k1, he'⟩, rfl, q _ _ (I.hok.fresh (Nat.le_succ _)) k2 hl2⟩
end


/-! ### comprehensions with two fors -/
theorem lci_it {J : It} {n : Nat} {G : Hp → Prop} {Y : Nat → Hp → V → Hp → Prop} (w : Walk J n G Y) {g : TG} {tt : TT} {te : TE} {vs : List Nat} {σ : St} {H1 : Hp} {D : Addr} {Qd : Hp → Prop} (Pv : Nat → Hp → Prop) (h0 : Pv 0 H1) (hG : ∀ i H, i ≤ n → Pv i H → G H)
    (hs : ∀ i x H H', i < n → Pv i H → Y i H x H' → g x (wipe σ vs) H' fun σ2 H2 => wipe σ2 vs = wipe σ vs ∧ tt σ2 H2 fun b H3 =>
      if b = true then te σ2 H3 fun y H4 => ∃ acc, H4 D = some (.lst acc) ∧ acc.length < sizeLine ∧ Pv (i + 1) (upd H4 D (.lst (acc ++ [y]))) else Pv (i + 1) H3) (hd : ∀ H, Pv n H → Qd H) :
    ∃ W : Nat → Nat → Hp → Prop, (∃ m, W 0 m H1) ∧ ∀ i m H, W i m H →
      (J.stop i H ∧ Qd H) ∨ (J.go i H ∧ ∃ Nx : Hp → Prop, (∀ H', Nx H' → ∃ m', m' < m ∧ W (i + 1) m' H') ∧ ∀ x H', J.yld i H x H' → g x (wipe σ vs) H' fun σ2 H2 => wipe σ2 vs = wipe σ vs ∧ tt σ2 H2 fun b H3 =>
        if b = true then te σ2 H3 fun y H4 => ∃ acc, H4 D = some (.lst acc) ∧ acc.length < sizeLine ∧ Nx (upd H4 D (.lst (acc ++ [y]))) else Nx H3) := by
  refine ⟨fun i m H => m = n - i ∧ i ≤ n ∧ Pv i H, ⟨n, by simp, Nat.zero_le _, h0⟩, ?_⟩
  rintro i m H ⟨rfl, hi, p⟩
  have q := hG i H hi p
  by_cases hlt : i < n
  · exact .inr ⟨w.goes i H hlt q, Pv (i + 1), fun H' p' => ⟨n - (i + 1), by omega, rfl, hlt, p'⟩, fun x H' y => hs i x H H' hlt p (w.yields i H x H' hlt q y)⟩
  · have e : i = n := by omega
    subst e
    exact .inl ⟨w.stops H q, hd H p⟩
theorem lc2_it {J : It} {n : Nat} {G : Hp → Prop} {Y : Nat → Hp → V → Hp → Prop} (w : Walk J n G Y) {g g1 : TG} {tt tt1 : TT} {wi1 : TI} {te : TE} {vs vs1 : List Nat} {σ : St} {H1 : Hp} {D : Addr} {Qd : Hp → Prop} (Pv : Nat → Hp → Prop) (h0 : Pv 0 (upd H1 D (.lst []))) (hG : ∀ i H, i ≤ n → Pv i H → G H)
    (hs : ∀ i x H H', i < n → Pv i H → Y i H x H' → g x (wipe σ vs) H' fun σ2 H2 => wipe σ2 vs = wipe σ vs ∧ tt σ2 H2 fun b H3 =>
      if b = true then wi1 σ2 H3 fun J1 H4 => ∃ W1 : Nat → Nat → Hp → Prop, (∃ m, W1 0 m H4) ∧ ∀ j k H, W1 j k H →
        (J1.stop j H ∧ Pv (i + 1) H) ∨ (J1.go j H ∧ ∃ Nx1 : Hp → Prop, (∀ H', Nx1 H' → ∃ k', k' < k ∧ W1 (j + 1) k' H') ∧ ∀ x H', J1.yld j H x H' → g1 x (wipe σ2 vs1) H' fun σ3 H5 => wipe σ3 vs1 = wipe σ2 vs1 ∧ tt1 σ3 H5 fun b H6 =>
          if b = true then te σ3 H6 fun y H7 => ∃ acc, H7 D = some (.lst acc) ∧ acc.length < sizeLine ∧ Nx1 (upd H7 D (.lst (acc ++ [y]))) else Nx1 H6)
      else Pv (i + 1) H3) (hd : ∀ H, Pv n H → Qd H) :
    ∃ W : Nat → Nat → Hp → Prop, (∃ m, W 0 m (upd H1 D (.lst []))) ∧ ∀ i m H, W i m H →
      (J.stop i H ∧ Qd H) ∨ (J.go i H ∧ ∃ Nx : Hp → Prop, (∀ H', Nx H' → ∃ m', m' < m ∧ W (i + 1) m' H') ∧ ∀ x H', J.yld i H x H' → g x (wipe σ vs) H' fun σ2 H2 => wipe σ2 vs = wipe σ vs ∧ tt σ2 H2 fun b H3 =>
        if b = true then wi1 σ2 H3 fun J1 H4 => ∃ W1 : Nat → Nat → Hp → Prop, (∃ m, W1 0 m H4) ∧ ∀ j k H, W1 j k H →
          (J1.stop j H ∧ Nx H) ∨ (J1.go j H ∧ ∃ Nx1 : Hp → Prop, (∀ H', Nx1 H' → ∃ k', k' < k ∧ W1 (j + 1) k' H') ∧ ∀ x H', J1.yld j H x H' → g1 x (wipe σ2 vs1) H' fun σ3 H5 => wipe σ3 vs1 = wipe σ2 vs1 ∧ tt1 σ3 H5 fun b H6 =>
            if b = true then te σ3 H6 fun y H7 => ∃ acc, H7 D = some (.lst acc) ∧ acc.length < sizeLine ∧ Nx1 (upd H7 D (.lst (acc ++ [y]))) else Nx1 H6)
        else Nx H3) := by
  refine ⟨fun i m H => m = n - i ∧ i ≤ n ∧ Pv i H, ⟨n, by simp, Nat.zero_le _, h0⟩, ?_⟩
  rintro i m H ⟨rfl, hi, p⟩
  have q := hG i H hi p
  by_cases hlt : i < n
  · exact .inr ⟨w.goes i H hlt q, Pv (i + 1), fun H' p' => ⟨n - (i + 1), by omega, rfl, hlt, p'⟩, fun x H' y => hs i x H H' hlt p (w.yields i H x H' hlt q y)⟩
  · have e : i = n := by omega
    subst e
    exact .inl ⟨w.stops H q, hd H p⟩


/-! ### drawn words, patterns, documents -/
theorem starts_iff {w e : Str} : Txt.startswith w e = true ↔ (tl w).take e.length = tl e := by
  unfold Txt.startswith
  rw [Bool.and_eq_true_iff, decide_eq_true_iff, PySem.StrLaws.subAt_eq, beq_iff_eq]
  have hw := len_tl w
  constructor
  · rintro ⟨_, h2⟩
    exact h2
  · intro h2
    have h3 := congrArg List.length h2
    rw [List.length_take, ← len_tl e] at h3
    exact ⟨by omega, h2⟩
theorem cut_first (z : Str) (k : Nat) : tl (cutS z none (some (k : Int))) = (tl z).take k := by
  show ((z.cps.toList.drop 0).take (HT.sIx z.length z.length (some (k : Int)) - 0)) = _
  have e : HT.sIx z.length z.length (some (k : Int)) = min k z.length := by
    show (if (k : Int) < 0 then ((k : Int) + (z.length : Int)).toNat else min (k : Int).toNat z.length) = _
    rw [if_neg (by omega), Int.toNat_natCast]
  have e2 : z.length = z.cps.toList.length := len_tl z
  rw [e, List.drop_zero, Nat.sub_zero]
  exact List.take_eq_take_iff.mpr (by omega)
theorem starts_cut (w e : Str) : cutS w none (some ((e.length : Nat) : Int)) = e ↔ Txt.startswith w e = true := by
  rw [starts_iff, ← cut_first]
  exact ⟨fun h => congrArg tl h, fun h => ext_tl h⟩
def yWord (K : PySem.W.Frag) : Sp := fun vs H Q _ => ∃ (b p : Addr), vs = [.ref b] ∧ BoxAt H b p ∧
  ∀ (x : Str) (H' : Hp), x.length ≤ 20 → BoxAt H' b p → Kp b H H' → Q (.str x) H'
def yPat (K : PySem.W.Frag) : Sp := fun vs H Q _ => ∃ (b p : Addr), vs = [.ref b] ∧ BoxAt H b p ∧
  ∀ (q : Addr) (t : Pat) (H' : Hp), t.2.length ≤ 20 → Dp K H' (.ref q) (encT t) → BoxAt H' b p → Kp b H H' → Q (.ref q) H'
def yDocu (K : PySem.W.Frag) : Sp := fun vs H Q _ => ∃ (b p : Addr) (m : Nat), vs = [.ref b, .int (m : Int)] ∧ BoxAt H b p ∧ m ≤ 100 ∧
  ∀ (q : Addr) (ws : List Str) (H' : Hp), ws.length ≤ m → (∀ x ∈ ws, x.length ≤ 20) → Dp K H' (.ref q) (encD ws) → BoxAt H' b p → Kp b H H' → Q (.ref q) H'
def yLFits (K : PySem.W.Frag) : Sp := fun vs H Q _ => ∃ (w : Str) (v : V) (p : Pat), vs = [.str w, v] ∧ Dp K H v (encT p) ∧ w.length ≤ 100 ∧ p.2.length ≤ 100 ∧ Q (.bl (fitsB w p)) H
def words12 : List Str := ["a", "ab", "abc", "b", "ba", "mill", "mills", "weir", "0", "a0", "z9", "bab"]
def words14 : List Str := ["a", "ab", "abc", "b", "ba", "mill", "mills", "weir", "0", "a0", "z9", "bab", "c", "b"]
theorem words12_len : ∀ x ∈ words12, x.length ≤ 20 := by decide +kernel
theorem words14_len : ∀ x ∈ words14, x.length ≤ 20 := by decide +kernel
theorem Kp.none {b : Addr} {H H' : Hp} {l : Addr} (k : Kp b H H') (h : H' l = none) (n : l ≠ b) : H l = none := by
  cases q : H l with
  | none => rfl
  | some o => rw [k l o q n] at h; cases h
section
variable {P : Program} {w : World} {K : PySem.W.Frag} {mg : Str → Option Value} {base : Heap} {A : Nat → Addr} {D : Nat → FuncData}
theorem ok_lword (T : Txt K mg A D) : FnOk P w K mg base CX0 2 (A 24) (D 24) ["box"] (yWord K) := by
  refine T.F__law_word.ok sc__law_word (fun vs H Q E h => ?_) (fun cdv A' outer s H vs Q E hr h => ?_)
  · obtain ⟨b, p, rfl, _⟩ := h; rfl
  obtain ⟨b, p, rfl, B, q⟩ := h
  have hnd := sc__law_word.nd
  have G__law_draw := ok_draw (P := P) (w := w) (base := base) T
  refine ⟨_, (pss_cons (ps_set (i := 1) hnd rfl (Or.inl rfl) (pe_call G__law_draw (hr.mono (by first | decide | omega)) rfl T.m__law_draw T.F__law_draw.kp T.b__law_draw .nil pass0 (pa_cons (pv 0) (pa_cons pe_int pa_nil)))) (pss_cons (ps_if (pt_cmpR op_gt (pv 1) pe_int (nomark _)) (pss_one (ps_ret (pe_ix (r := rIxL K) ix_list (pe_lst (pa_cons pe_str (pa_cons pe_str (pa_cons pe_str (pa_cons pe_str (pa_cons pe_str (pa_cons pe_str (pa_cons pe_str (pa_cons pe_str (pa_cons pe_str (pa_cons pe_str (pa_cons pe_str (pa_cons pe_str pa_nil))))))))))))) (pe_call G__law_draw (hr.mono (by first | decide | omega)) rfl T.m__law_draw T.F__law_draw.kp T.b__law_draw .nil pass0 (pa_cons (pv 0) (pa_cons pe_int pa_nil))) (fun _ _ => rfl)))) pss_nil) (pss_cons (ps_set (i := 2) hnd rfl (Or.inl rfl) pe_str) (pss_cons (ps_for PassesOwn.never rfl (pi_range1 rfl T.z_range (pa_cons (pe_op op_add pe_int (pe_call G__law_draw (hr.mono (by first | decide | omega)) rfl T.m__law_draw T.F__law_draw.kp T.b__law_draw .nil pass0 (pa_cons (pv 0) (pa_cons (pe_ix (r := rIxL K) ix_list (pe_lst (pa_cons pe_int (pa_cons pe_int pa_nil))) (pe_call G__law_draw (hr.mono (by first | decide | omega)) rfl T.m__law_draw T.F__law_draw.kp T.b__law_draw .nil pass0 (pa_cons (pv 0) (pa_cons pe_int pa_nil))) (fun _ _ => rfl)) pa_nil)))) pa_nil)) (pg_name (i := 3) hnd rfl (Or.inl rfl)) (pss_one (ps_set (i := 2) hnd rfl (Or.inl rfl) (pe_op op_add_str (pv 2) (pe_ix ix_str pe_str (pe_call G__law_draw (hr.mono (by first | decide | omega)) rfl T.m__law_draw T.F__law_draw.kp T.b__law_draw .nil pass0 (pa_cons (pv 0) (pa_cons pe_int pa_nil))) (fun _ _ => rfl)))))) (pss_one (ps_ret (pv 2))))))), ?_⟩
  refine ⟨_, rfl, b, p, _, rfl, B, (by decide), fun r1 H1 h10 h11 B1 k1 => ?_⟩
  refine ⟨_, rfl, _, _, rfl, rfl, _, rfl, ?_⟩
  refine ite2 (fun _ => ?_) (fun _ => ?_)
  · refine ⟨(by show 12 ≤ sizeLine; decide), fun l4 hl4 => ⟨_, rfl, b, p, _, rfl, B1.keep (same_new hl4), (by decide), fun r3 H3 h30 h31 B3 k3 => ?_⟩⟩
    obtain ⟨x, hx, hm⟩ := atI_mem (l := words12) h30 h31
    exact ⟨l4, _, r3, _, rfl, rfl, SqL.of (k3 _ _ upd_same (B1.ne hl4).1), atI_map h30 hx, q x H3 (words12_len x hm) B3 ((k1.trans (Kp.of (same_new hl4))).trans k3)⟩
  · refine ⟨_, rfl, (by show 2 ≤ sizeLine; decide), fun l4 hl4 => ⟨_, rfl, b, p, _, rfl, B1.keep (same_new hl4), (by decide), fun r3 H3 h30 h31 B3 k3 => ?_⟩⟩
    refine ⟨l4, _, r3, _, rfl, rfl, SqL.of (k3 _ _ upd_same (B1.ne hl4).1), pick2i h30 h31, b, p, _, rfl, B3, (by split <;> decide), fun r4 H4 h40 h41 B4 k4 => ?_⟩
    have h42 : r4 < 12 := by split at h41 <;> omega
    have kk := ((k1.trans (Kp.of (same_new hl4))).trans k3).trans k4
    refine ⟨_, _, rfl, rfl, _, rfl, (by omega), (by omega), ?_⟩
    refine for_range (n := (1 + r4).toNat) (fun i σ H' => ∃ (t : Str) (kv : Option V), σ = [some (.ref b), some (.int r1), some (.str t), kv] ∧ BoxAt H' b p ∧ Kp b H H' ∧ t.length = i)
      ⟨_, none, rfl, B4, kk, rfl⟩ ?_ ?_
    · rintro i σ H5 hi ⟨t, kv, rfl, B5, k5, hl⟩
      refine ⟨_, rfl, _, rfl, b, p, _, rfl, B5, (by decide), fun r H6 h0 h1 B6 k6 => ?_⟩
      obtain ⟨c, hc, hm⟩ := atI_mem (l := tl ("abcdefghijklmnopqrstuvwxyz0123456789" : Str)) h0 h1
      refine ⟨_, r, c, rfl, rfl, (by decide +kernel), hc, _, _, rfl, rfl, (by show t.length + 1 ≤ 16777216; omega), ?_⟩
      refine ⟨_, _, rfl, B6, k5.trans k6, ?_⟩
      rw [len_tl, tl_append, tl_sgn, List.length_append, List.length_singleton, ← len_tl, hl]
    · rintro σ H5 ⟨t, kv, rfl, B5, k5, hl⟩
      exact ⟨_, rfl, q t H5 (by omega) B5 k5⟩
theorem ok_lpattern (T : Txt K mg A D) : FnOk P w K mg base CX0 3 (A 25) (D 25) ["box"] (yPat K) := by
  refine T.F__law_pattern.ok sc__law_pattern (fun vs H Q E h => ?_) (fun cdv A' outer s H vs Q E hr h => ?_)
  · obtain ⟨b, p, rfl, _⟩ := h; rfl
  obtain ⟨b, p, rfl, B, q⟩ := h
  have hnd := sc__law_pattern.nd
  have G__law_draw := ok_draw (P := P) (w := w) (base := base) T
  have G__law_word := ok_lword (P := P) (w := w) (base := base) T
  refine ⟨_, (pss_one (ps_ret (pe_tup (pa_cons (pe_ix (r := rIxL K) ix_list (pe_lst (pa_cons pe_str (pa_cons pe_str (pa_cons pe_str pa_nil)))) (pe_call G__law_draw (hr.mono (by first | decide | omega)) rfl T.m__law_draw T.F__law_draw.kp T.b__law_draw .nil pass0 (pa_cons (pv 0) (pa_cons pe_int pa_nil))) (fun _ _ => rfl)) (pa_cons (pe_call G__law_word (hr.mono (by first | decide | omega)) rfl T.m__law_word T.F__law_word.kp T.b__law_word .nil pass0 (pa_cons (pv 0) pa_nil)) pa_nil))))), ?_⟩
  refine ⟨(by show 3 ≤ sizeLine; decide), fun l4 hl4 => ⟨_, rfl, b, p, _, rfl, B.keep (same_new hl4), (by decide), fun r3 H3 h30 h31 B3 k3 => ?_⟩⟩
  obtain ⟨x, hx, hm⟩ := atI_mem (l := (["word", "start", "word"] : List Str)) h30 h31
  refine ⟨l4, _, r3, _, rfl, rfl, SqL.of (k3 _ _ upd_same (B.ne hl4).1), atI_map h30 hx, _, rfl, b, p, rfl, B3, fun t H4 ht B4 k4 => ?_⟩
  refine ⟨(by show 2 ≤ sizeLine; decide), fun q1 hq1 => ?_⟩
  have s4 := same_new (o := .tup [.str x, .str t]) hq1
  exact q q1 (x, t) _ ht (.tup (SqT.of upd_same) (.cons (.str _) (.cons (.str _) .nil))) (B4.keep s4) ((((Kp.of (same_new hl4)).trans k3).trans k4).trans (Kp.of s4))
theorem ok_ldocument (T : Txt K mg A D) : FnOk P w K mg base CX0 2 (A 27) (D 27) ["box", "most"] (yDocu K) := by
  refine T.F__law_document.ok sc__law_document (fun vs H Q E h => ?_) (fun cdv A' outer s H vs Q E hr h => ?_)
  · obtain ⟨b, p, m, rfl, _⟩ := h; rfl
  obtain ⟨b, p, m, rfl, B, hm, q⟩ := h
  have hnd := sc__law_document.nd
  have G__law_draw := ok_draw (P := P) (w := w) (base := base) T
  refine ⟨_, (pss_cons (ps_set (i := 2) hnd rfl (Or.inl rfl) (pe_lst pa_nil)) (pss_cons (ps_for PassesOwn.never rfl (pi_range1 rfl T.z_range (pa_cons (pe_call G__law_draw (hr.mono (by first | decide | omega)) rfl T.m__law_draw T.F__law_draw.kp T.b__law_draw .nil pass0 (pa_cons (pv 0) (pa_cons (pe_op op_add (pv 1) pe_int) pa_nil))) pa_nil)) (pg_name (i := 3) hnd rfl (Or.inl rfl)) (pss_one (ps_expr (pe_bm PySem.F.plainAttrs_list PySem.F.slot_list_append PySem.F.type_list_append mt_append (pv 2) (pa_cons (pe_ix (r := rIxL K) ix_list (pe_lst (pa_cons pe_str (pa_cons pe_str (pa_cons pe_str (pa_cons pe_str (pa_cons pe_str (pa_cons pe_str (pa_cons pe_str (pa_cons pe_str (pa_cons pe_str (pa_cons pe_str (pa_cons pe_str (pa_cons pe_str (pa_cons pe_str (pa_cons pe_str pa_nil))))))))))))))) (pe_call G__law_draw (hr.mono (by first | decide | omega)) rfl T.m__law_draw T.F__law_draw.kp T.b__law_draw .nil pass0 (pa_cons (pv 0) (pa_cons pe_int pa_nil))) (fun _ _ => rfl)) pa_nil))))) (pss_one (ps_ret (pe_callTy call_tuple_of rfl T.z_tuple (by decide +kernel) (pa_cons (pv 2) pa_nil)))))), ?_⟩
  refine ⟨(by decide), fun d hd => ?_⟩
  have ndb := B.ne hd
  refine ⟨_, rfl, _, rfl, _, _, rfl, rfl, b, p, _, rfl, B.keep (same_new hd), (by omega), fun r1 H1 h10 h11 B1 k1 => ?_⟩
  refine ⟨_, rfl, (by omega), (by omega), ?_⟩
  refine for_range (n := r1.toNat) (fun i σ H' => ∃ (ws : List Str) (kv : Option V), σ = [some (.ref b), some (.int (m : Int)), some (.ref d), kv] ∧ BoxAt H' b p ∧ Kp b H H' ∧ H' d = some (.lst (ws.map V.str)) ∧ ws.length = i ∧ ∀ x ∈ ws, x.length ≤ 20)
    ⟨[], none, rfl, B1, (Kp.of (same_new hd)).trans k1, k1 _ _ upd_same ndb.1, rfl, (fun x hx => nomatch hx)⟩ ?_ ?_
  · rintro i σ H5 hi ⟨ws, kv, rfl, B5, k5, h5, hl, hw⟩
    have ndb5 : d ≠ b := ndb.1
    refine ⟨_, rfl, .inl ⟨rfl, _, SqL.of h5⟩, (by show 14 ≤ sizeLine; decide), fun l4 hl4 => ⟨_, rfl, b, p, _, rfl, B5.keep (same_new hl4), (by decide), fun r3 H6 h30 h31 B6 k6 => ?_⟩⟩
    obtain ⟨x, hx, hm⟩ := atI_mem (l := words14) h30 h31
    have k56 := (Kp.of (b := b) (same_new (o := .lst (words14.map V.str)) hl4)).trans k6
    have h6 := k56 _ _ h5 ndb5
    refine ⟨l4, _, r3, _, rfl, rfl, SqL.of (k6 _ _ upd_same (B5.ne hl4).1), atI_map h30 hx, d, _, _, rfl, rfl, h6, (by rw [List.length_map]; exact len_lt (by omega)), ?_⟩
    have ndp := fun e => ndb5 e
    have s6 : Kp b H (upd H6 d (.lst (ws.map V.str ++ [V.str x]))) := fun c o hc n => by
      have hcd : c ≠ d := ne_of_none hc hd
      rw [upd_ne hcd]; exact (k5.trans k56) c o hc n
    have B7 : BoxAt (upd H6 d (.lst (ws.map V.str ++ [V.str x]))) b p := B6.updO ndb.1 ndb.2
    refine ⟨ws ++ [x], _, rfl, B7, s6, by rw [upd_same, List.map_append]; rfl, by rw [List.length_append, List.length_singleton, hl], fun y hy => ?_⟩
    rcases List.mem_append.mp hy with hy | hy
    · exact hw y hy
    · rw [List.mem_singleton.mp hy]; exact words14_len x hm
  · rintro σ H5 ⟨ws, kv, rfl, B5, k5, h5, hl, hw⟩
    refine ⟨_, rfl, d, _, rfl, .inl ⟨SqL.of h5, fun p2 hp2 => ?_⟩⟩
    have s2 := same_new (o := .tup (ws.map V.str)) hp2
    exact q p2 ws _ (by omega) hw (.tup (SqT.of upd_same) (DpAll.strs _)) (B5.keep s2) (k5.trans (Kp.of s2))
theorem ok_lfits (T : Txt K mg A D) : FnOk P w K mg base CX0 1 (A 28) (D 28) ["word", "pattern"] (yLFits K) := by
  refine T.F__law_fits.ok sc__law_fits (fun vs H Q E h => ?_) (fun cdv A' outer s H vs Q E hr h => ?_)
  · obtain ⟨w, v, p, rfl, _⟩ := h; rfl
  obtain ⟨w, v, p, rfl, hd, hw, hp, q⟩ := h
  obtain ⟨a, rfl, ha⟩ := dp_encT hd
  refine ⟨_, (pss_cons (ps_if (pt_cmpR op_eq (pe_ix (r := rIxT K) ix_tup (pv 1) pe_int (fun _ _ => rfl)) pe_str (nomark _)) (pss_one (ps_ret (pe_cmpR op_eq (pe_slice sl_str (pv 0) po_none (po_some (pe_callB call_len_str rfl T.z_len PySem.boot_len (pa_cons (pe_ix (r := rIxT K) ix_tup (pv 1) pe_int (fun _ _ => rfl)) pa_nil)))) (pe_ix (r := rIxT K) ix_tup (pv 1) pe_int (fun _ _ => rfl)) (nomark _)))) pss_nil) (pss_one (ps_ret (pe_cmpR op_eq (pv 0) (pe_ix (r := rIxT K) ix_tup (pv 1) pe_int (fun _ _ => rfl)) (nomark _))))), ?_⟩
  refine ⟨_, rfl, a, _, _, _, rfl, rfl, ha, rfl, rfl, _, rfl, ?_⟩
  refine ite2 (fun c => ?_) (fun c => ?_)
  · have c' : p.1 = "start" := by
      have := of_decide_eq_true c
      injection this
    unfold fitsB at q
    rw [if_pos c'] at q
    refine ⟨_, rfl, _, rfl, a, _, _, _, rfl, rfl, ha, rfl, ?_⟩
    refine ⟨_, rfl, (by show p.2.length ≤ 16777216; omega), _, rfl, w, rfl, (by show w.length ≤ 16777216; omega), _, rfl, a, _, _, _, rfl, rfl, ha, rfl, rfl, ?_⟩
    by_cases e : Txt.startswith w p.2 = true
    · rw [e] at q
      rw [decide_eq_true (congrArg V.str ((starts_cut w p.2).mpr e))]
      exact q
    · rw [Bool.eq_false_iff.mpr e] at q
      rw [decide_eq_false (fun h => e ((starts_cut w p.2).mp (V.str.inj h)))]
      exact q
  · have c' : ¬ p.1 = "start" := fun e => c (decide_eq_true (congrArg V.str e))
    unfold fitsB at q
    rw [if_neg c'] at q
    refine ⟨_, rfl, _, rfl, a, _, _, _, rfl, rfl, ha, rfl, rfl, ?_⟩
    by_cases e : w = p.2
    · rw [decide_eq_true e] at q
      rw [decide_eq_true (congrArg V.str e)]
      exact q
    · rw [decide_eq_false e] at q
      rw [decide_eq_false (fun h => e (V.str.inj h))]
      exact q
end


def yLStand (K : PySem.W.Frag) : Sp := fun vs H Q _ => ∃ (vd vr : V) (ws : List Str) (ps : List Pat) (gap : Nat), vs = [vd, vr] ∧ Dp K H vd (encD ws) ∧ Dp K H vr (encRow ps gap) ∧ 1 ≤ ps.length ∧ ps.length ≤ 6 ∧ ws.length ≤ 12 ∧ (∀ x ∈ ws, x.length ≤ 20) ∧ (∀ t ∈ ps, t.2.length ≤ 20) ∧
  ∀ r H' vs', Same H H' → H r = none → H' r = some (.lst vs') → DpAll K H' vs' ((waysL ws ps gap ps.length).map encW) → Q (.ref r) H'
section
variable {P : Program} {w : World} {K : PySem.W.Frag} {mg : Str → Option Value} {base : Heap} {A : Nat → Addr} {D : Nat → FuncData}
theorem ok_lstandings (T : Txt K mg A D) : FnOk P w K mg base CX0 2 (A 29) (D 29) ["document", "row"] (yLStand K) := by
  refine T.F__law_standings.ok sc__law_standings (fun vs H Q E h => ?_) (fun cdv A' outer s H vs Q E hr h => ?_)
  · obtain ⟨vd, vr, ws, ps, gap, rfl, _⟩ := h; rfl
  obtain ⟨vd, vr, ws, ps, gap, rfl, hd, hrw, hp1, hp6, hws, hw20, ht20, q⟩ := h
  have hnd := sc__law_standings.nd
  have G__law_fits := ok_lfits (P := P) (w := w) (base := base) T
  refine ⟨_, (pss_cons (ps_set (i := 2) hnd rfl (Or.inl rfl) (pe_lst (pa_cons (pe_tup pa_nil) pa_nil))) (pss_cons (ps_for PassesOwn.never rfl (pi_tup (pe_ix (r := rIxT K) ix_tup (pv 1) pe_int (fun _ _ => rfl))) (pg_name (i := 3) hnd rfl (Or.inl rfl)) (pss_cons (ps_set (i := 4) hnd rfl (Or.inl rfl) (pe_lst pa_nil)) (pss_cons (ps_for PassesOwn.never rfl (pi_list (pv 2)) (pg_name (i := 5) hnd rfl (Or.inl rfl)) (pss_one (ps_for PassesOwn.never rfl (pi_range1 rfl T.z_range (pa_cons (pe_callB call_len_seq rfl T.z_len PySem.boot_len (pa_cons (pv 0) pa_nil)) pa_nil)) (pg_name (i := 6) hnd rfl (Or.inl rfl)) (pss_one (ps_if (PW.pt (pw_or (pt_cmpR op_eq (pe_callB call_len_seq rfl T.z_len PySem.boot_len (pa_cons (pv 5) pa_nil)) pe_int (nomark _)) (pw_or1 (pt_cmpR op_gt (pv 6) (pe_ix (r := rIxT K) ix_tup (pv 5) (pe_un un_neg pe_int) (fun _ _ => rfl)) (nomark _))))) (pss_one (ps_if (pt_val (pe_call G__law_fits (hr.mono (by first | decide | omega)) rfl T.m__law_fits T.F__law_fits.kp T.b__law_fits .nil pass0 (pa_cons (pe_ix (r := rIxT K) ix_tup (pv 0) (pv 6) (fun _ _ => rfl)) (pa_cons (pv 3) pa_nil)))) (pss_one (ps_if (PW.pt (pw_or (pt_cmpR op_eq (pe_callB call_len_seq rfl T.z_len PySem.boot_len (pa_cons (pv 5) pa_nil)) pe_int (nomark _)) (pw_or1 (pt_cmpR op_lt (pe_op op_sub (pv 6) (pe_ix (r := rIxT K) ix_tup (pv 5) pe_int (fun _ _ => rfl))) (pe_op op_add (pe_callB call_len_seq rfl T.z_len PySem.boot_len (pa_cons (pe_ix (r := rIxT K) ix_tup (pv 1) pe_int (fun _ _ => rfl)) pa_nil)) (pe_ix (r := rIxT K) ix_tup (pv 1) pe_int (fun _ _ => rfl))) (nomark _))))) (pss_one (ps_expr (pe_bm PySem.F.plainAttrs_list PySem.F.slot_list_append PySem.F.type_list_append mt_append (pv 4) (pa_cons (pe_op (r := rCatA K) op_catA (pv 5) (pe_tup (pa_cons (pv 6) pa_nil))) pa_nil)))) pss_nil)) pss_nil)) pss_nil))))) (pss_one (ps_set (i := 2) hnd rfl (Or.inl rfl) (pv 4)))))) (pss_one (ps_ret (pe_callB (cr_sortedD hr.units) rfl T.z_sorted (by decide +kernel) (pa_cons (pv 2) pa_nil)))))), ?_⟩
  obtain ⟨ad, rfl, had⟩ := dp_encD hd
  obtain ⟨ar, pa, pxs, rfl, har, hpa, hpx⟩ := dp_encRow hrw
  have hpxl : pxs.length = ps.length := by rw [DpAll.len hpx, List.length_map]
  refine ⟨(by show 0 ≤ sizeLine; decide), fun t0 ht0 => ⟨(by show 1 ≤ sizeLine; decide), fun d0 hd0 => ?_⟩⟩
  have st0 := same_new (o := .tup []) ht0
  have sd0 := st0.trans (same_new (o := .lst [.ref t0]) hd0)
  refine ⟨_, rfl, ar, _, 1, _, rfl, rfl, (TK.same sd0).seq har, rfl, pa, rfl, ⟨_, (TK.same sd0).seq hpa⟩, ?_⟩
  refine for_tup (xs := pxs) (fun i σ H' => ∃ (d : Addr) (c3 c4 c5 c6 : Option V), σ = [some (.ref ad), some (.ref ar), some (.ref d), c3, c4, c5, c6] ∧ Same H H' ∧ H d = none ∧ LAt K H' d ((waysL ws ps gap i).map encW))
    ⟨d0, _, _, _, _, rfl, sd0, st0.free hd0, ?_⟩ (fun i σ H' _ h => by obtain ⟨_, _, _, _, _, _, s1, _⟩ := h; exact (TK.same s1).seq hpa) ?_ ?_
  · refine ⟨[.ref t0], upd_same, .cons (mk_encW (pl := []) ?_) .nil, fun x hx => by rw [List.mem_singleton.mp hx]; exact imm_encW _⟩
    exact (TK.same (same_new hd0)).seq (SqT.of upd_same)
  · rintro i x σ H1 hi ⟨d, c3, c4, c5, c6, rfl, s1, hd9, L1⟩
    have hil : i < ps.length := by rw [← hpxl]; exact (List.getElem?_eq_some_iff.mp hi).1
    obtain ⟨vx, hvx, dvx⟩ := DpAll.get hpx (i := i) (d := encT ps[i]) (by rw [List.getElem?_map, List.getElem?_eq_getElem hil]; rfl)
    have ex : x = vx := Option.some.inj (hi.symm.trans hvx)
    subst ex
    refine ⟨(by show 0 ≤ sizeLine; decide), fun DD hDD => ?_⟩
    obtain ⟨vw, e1, e2, e3⟩ := L1
    have hvw : vw.length = (waysL ws ps gap i).length := by rw [DpAll.len e2, List.length_map]
    have sD := same_new (o := .lst []) hDD
    refine ⟨_, rfl, d, rfl, ⟨_, SqL.of (sD _ _ e1)⟩, ?_⟩
    refine for_list (xs := vw) (fun j σ H' => ∃ (c5 c6 : Option V), σ = [some (.ref ad), some (.ref ar), some (.ref d), some x, some (.ref DD), c5, c6] ∧ Same H1 H' ∧ LAt K H' DD ((((waysL ws ps gap i).take j).flatMap (lawExt ws ps gap)).map encW))
      ⟨c5, c6, rfl, sD, LAt.nil upd_same⟩ (fun j σ H' _ h => by obtain ⟨_, _, _, s2, _⟩ := h; exact SqL.of (s2 _ _ e1)) ?_ ?_
    · rintro j y σ H2 hj ⟨c5, c6, rfl, s2, L2⟩
      have hjl : j < (waysL ws ps gap i).length := by rw [← hvw]; exact (List.getElem?_eq_some_iff.mp hj).1
      obtain ⟨v, hv, dv⟩ := DpAll.get e2 (i := j) (d := encW (waysL ws ps gap i)[j]) (by rw [List.getElem?_map, List.getElem?_eq_getElem hjl]; rfl)
      have ev : y = v := Option.some.inj (hj.symm.trans hv)
      subst ev
      have hm := mem_waysL (List.getElem_mem hjl)
      obtain ⟨u, hu⟩ : ∃ u, u = (waysL ws ps gap i)[j] := ⟨_, rfl⟩
      rw [← hu] at hm dv
      have s12 := s1.trans s2
      obtain ⟨ay, rfl, hay⟩ := dp_encW (Dp.same s2 dv)
      refine ⟨_, rfl, ad, _, rfl, .inr ((TK.same s12).seq had), ?_⟩
      refine ⟨_, rfl, (by rw [List.length_map]; omega), (by rw [List.length_map]; omega), ?_⟩
      rw [show ((((ws.map V.str).length : Nat) : Int)).toNat = ws.length by rw [List.length_map]; omega]
      have wl := Nat.le_trans (ways_len ws ps gap i) (Nat.le_trans (Nat.pow_le_pow_left hws i) (Nat.pow_le_pow_right (by decide) (show i ≤ 5 by omega)))
      have fl := flatMap_len (lawExt_len ws ps gap) ((waysL ws ps gap i).take j)
      have tkl : ((waysL ws ps gap i).take j).length ≤ 12 ^ 5 := by rw [List.length_take]; omega
      have fl2 : (((waysL ws ps gap i).take j).flatMap (lawExt ws ps gap)).length ≤ 12 ^ 5 * 12 := Nat.le_trans fl (Nat.mul_le_mul tkl hws)
      refine for_range (n := ws.length) (fun m σ H' => ∃ (c6 : Option V), σ = [some (.ref ad), some (.ref ar), some (.ref d), some x, some (.ref DD), some (.ref ay), c6] ∧ Same H1 H' ∧ LAt K H' DD ((((waysL ws ps gap i).take j).flatMap (lawExt ws ps gap) ++ ((List.range m).filter (lawC ws ps gap u)).map fun n => u ++ [n]).map encW) ∧ SqT K H' ay (u.map fun (n : Nat) => V.int (n : Int)))
        ⟨c6, rfl, s2, ?_, hay⟩ ?_ ?_
      · rw [List.range_zero, List.filter_nil, List.map_nil, List.append_nil]; exact L2
      · rintro m σ H3 hm3 ⟨c6, rfl, s3, L3, hy3⟩
        have s13 := s1.trans s3
        have had3 := (TK.same s13).seq had
        have hulen : (u.map fun (n : Nat) => V.int (n : Int)).length = u.length := List.length_map _
        have nextF : lawC ws ps gap u m = false → LAt K H3 DD ((((waysL ws ps gap i).take j).flatMap (lawExt ws ps gap) ++ ((List.range (m + 1)).filter (lawC ws ps gap u)).map fun n => u ++ [n]).map encW) := fun c => by
          rw [List.range_succ, List.filter_append, List.filter_cons_of_neg (by rw [c]; exact Bool.false_ne_true), List.filter_nil, List.append_nil]
          exact L3
        have epk : ps.getD u.length ("", "") = ps[i] := by rw [hm.1, List.getD_eq_getElem?_getD, List.getElem?_eq_getElem hil]; rfl
        have ewm : ws.getD m "" = ws[m] := by rw [List.getD_eq_getElem?_getD, List.getElem?_eq_getElem hm3]; rfl
        have hdoc : atI (ws.map V.str) (0 + (m : Int)) = some (.str ws[m]) := by
          rw [Int.zero_add]; exact atI_nat (by rw [List.getElem?_map, List.getElem?_eq_getElem hm3]; rfl)
        have dx3 : Dp K H3 x (encT ps[i]) := Dp.same s13 dvx
        have fl3 : ((((waysL ws ps gap i).take j).flatMap (lawExt ws ps gap) ++ ((List.range m).filter (lawC ws ps gap u)).map fun n => u ++ [n]).map encW).length ≤ 3000000 := by
          have := List.length_filter_le (lawC ws ps gap u) (List.range m)
          rw [List.length_range] at this
          rw [List.length_map, List.length_append, List.length_map]; omega
        have nextT : lawC ws ps gap u m = true → ∀ (p : Addr) (H4 : Hp), Same H3 H4 → SqT K H4 p ((u ++ [m]).map fun (n : Nat) => V.int (n : Int)) → ∃ (a : Addr) (xs : List V), a = DD ∧ H4 DD = some (.lst xs) ∧ xs.length < sizeLine ∧ (Same H1 (upd H4 DD (.lst (xs ++ [.ref p])))) ∧ LAt K (upd H4 DD (.lst (xs ++ [.ref p]))) DD ((((waysL ws ps gap i).take j).flatMap (lawExt ws ps gap) ++ ((List.range (m + 1)).filter (lawC ws ps gap u)).map fun n => u ++ [n]).map encW) ∧ SqT K (upd H4 DD (.lst (xs ++ [.ref p]))) ay (u.map fun (n : Nat) => V.int (n : Int)) := fun c p H4 s4 h4 => by
          obtain ⟨xs, g1, g2, g3⟩ := L3.same s4
          have hx : xs.length < sizeLine := by
            have e := DpAll.len g2
            show xs.length < 16777216
            omega
          refine ⟨DD, xs, rfl, g1, hx, same_upd (s3.trans s4) hDD, ?_, (TK.updL (TK.refl _) g1).seq ((TK.same s4).seq hy3)⟩
          rw [List.range_succ, List.filter_append, List.filter_cons_of_pos c, List.filter_nil]
          have e := LAt.push g1 g2 g3 (mk_encW h4) (imm_encW _)
          simp only [List.map_append, List.map_cons, List.map_nil, List.append_assoc] at e ⊢
          exact e
        by_cases hu0 : u = []
        · have l0 : (u.map fun (n : Nat) => V.int (n : Int)).length = 0 := by rw [hulen, hu0]; rfl
          refine ⟨_, rfl, ay, _, rfl, .inr hy3, rfl, _, rfl, ite2 (fun _ => ?_) (fun c => absurd (decide_eq_true (by rw [l0]; rfl)) c)⟩
          refine ⟨_, rfl, _, rfl, ad, _, _, _, rfl, rfl, had3, hdoc, _, rfl, ws[m], x, ps[i], rfl, dx3, (by have := hw20 _ (List.getElem_mem hm3); omega), (by have := ht20 _ (List.getElem_mem hil); omega), _, rfl, ?_⟩
          refine ite2 (fun cf => ?_) (fun cf => ?_)
          · refine ⟨_, rfl, ay, _, rfl, .inr hy3, rfl, _, rfl, ite2 (fun _ => ?_) (fun c => absurd (decide_eq_true (by rw [l0]; rfl)) c)⟩
            have cl : lawC ws ps gap u m = true := by
              unfold lawC
              rw [ewm, epk, decide_eq_true_eq]
              exact ⟨.inl hu0, cf, .inl hu0⟩
            refine ⟨_, rfl, .inl ⟨rfl, _, SqL.of L3.choose_spec.1⟩, _, rfl, _, rfl, (by show 1 ≤ sizeLine; decide), fun t1 ht1 => ?_⟩
            have st1 := same_new (o := .tup [.int (0 + (m : Int))]) ht1
            refine catA_use ((TK.same st1).seq hy3) (SqT.of upd_same) (by rw [hulen, hm.1]; show i + 1 ≤ 16777216; omega) fun p4 H4 s4 h4 => ?_
            rw [Int.zero_add] at st1 h4
            obtain ⟨a9, xs, rfl, g1, g2, g3, g4, g5⟩ := nextT cl p4 H4 (by rw [Int.zero_add] at s4; exact st1.trans s4) (by rw [List.map_append]; exact h4)
            exact ⟨a9, xs, _, rfl, rfl, g1, g2, ⟨_, rfl, g3, g4, g5⟩⟩
          · have cl : lawC ws ps gap u m = false := by
              unfold lawC
              rw [ewm, epk, decide_eq_false]
              exact fun h => cf h.2.1
            exact ⟨_, rfl, s3, nextF cl, hy3⟩
        · have hne : u ≠ [] := hu0
          have l1 : 0 < (u.map fun (n : Nat) => V.int (n : Int)).length := by rw [hulen]; exact List.length_pos_iff.mpr hne
          have atl : atI (u.map fun (n : Nat) => V.int (n : Int)) (-1) = some (.int ((u.getLastD 0 : Nat) : Int)) := by
            obtain ⟨u', x', e⟩ : ∃ u' x', u = u' ++ [x'] := ⟨u.dropLast, u.getLast hne, (List.dropLast_concat_getLast hne).symm⟩
            rw [e, List.map_append, List.getLastD_concat]
            exact atI_last _ _
          have at0 : atI (u.map fun (n : Nat) => V.int (n : Int)) 0 = some (.int ((u.headD 0 : Nat) : Int)) := by
            cases u with
            | nil => exact absurd rfl hne
            | cons a r => exact atI_nat (j := 0) rfl
          have lne : ∀ {B C : Prop}, C → (if decide (V.int (((u.map fun (n : Nat) => V.int (n : Int)).length : Nat) : Int) = V.int 0) = true then B else C) := fun h => by
            rw [decide_eq_false (fun e => by injection e with e; omega)]
            exact iteF h
          refine ⟨_, rfl, ay, _, rfl, .inr hy3, rfl, _, rfl, lne ?_⟩
          have no : ∀ {B : Prop}, (lawC ws ps gap u m = false) → (LAt K H3 DD ((((waysL ws ps gap i).take j).flatMap (lawExt ws ps gap) ++ ((List.range (m + 1)).filter (lawC ws ps gap u)).map fun n => u ++ [n]).map encW) → B) → B := fun h k => k (nextF h)
          refine ⟨_, rfl, _, rfl, _, rfl, ay, _, -1, _, rfl, rfl, hy3, atl, _, _, rfl, rfl, _, rfl, ?_⟩
          refine ite2 (fun c1 => ?_) (fun c1 => ?_)
          · have c1' : ((u.getLastD 0 : Nat) : Int) < 0 + (m : Int) := of_decide_eq_true c1
            refine ⟨_, rfl, _, rfl, ad, _, _, _, rfl, rfl, had3, hdoc, _, rfl, ws[m], x, ps[i], rfl, dx3, (by have := hw20 _ (List.getElem_mem hm3); omega), (by have := ht20 _ (List.getElem_mem hil); omega), _, rfl, ?_⟩
            refine ite2 (fun cf => ?_) (fun cf => ?_)
            · refine ⟨_, rfl, ay, _, rfl, .inr hy3, rfl, _, rfl, lne ?_⟩
              refine ⟨_, rfl, _, rfl, ay, _, _, _, rfl, rfl, hy3, at0, _, _, rfl, rfl, ?_⟩
              have hrw3 := (TK.same s13).seq har
              have hpa3 := (TK.same s13).seq hpa
              refine ⟨_, rfl, ar, _, _, _, rfl, rfl, hrw3, rfl, pa, _, rfl, .inr hpa3, _, rfl, ar, _, _, _, rfl, rfl, hrw3, rfl, _, _, rfl, rfl, _, _, rfl, rfl, _, rfl, ?_⟩
              refine ite2 (fun c2 => ?_) (fun c2 => ?_)
              · have c2' : (0 : Int) + (m : Int) - ((u.headD 0 : Nat) : Int) < ((pxs.length : Nat) : Int) + (gap : Int) := of_decide_eq_true c2
                have cl : lawC ws ps gap u m = true := by
                  unfold lawC
                  rw [ewm, epk, decide_eq_true_eq]
                  exact ⟨.inr (by omega), cf, .inr (by omega)⟩
                refine ⟨_, rfl, .inl ⟨rfl, _, SqL.of L3.choose_spec.1⟩, _, rfl, _, rfl, (by show 1 ≤ sizeLine; decide), fun t1 ht1 => ?_⟩
                have st1 := same_new (o := .tup [.int (0 + (m : Int))]) ht1
                refine catA_use ((TK.same st1).seq hy3) (SqT.of upd_same) (by rw [hulen, hm.1]; show i + 1 ≤ 16777216; omega) fun p4 H4 s4 h4 => ?_
                rw [Int.zero_add] at st1 h4
                obtain ⟨a9, xs, rfl, g1, g2, g3, g4, g5⟩ := nextT cl p4 H4 (by rw [Int.zero_add] at s4; exact st1.trans s4) (by rw [List.map_append]; exact h4)
                exact ⟨a9, xs, _, rfl, rfl, g1, g2, ⟨_, rfl, g3, g4, g5⟩⟩
              · have c2' : ¬ (0 : Int) + (m : Int) - ((u.headD 0 : Nat) : Int) < ((pxs.length : Nat) : Int) + (gap : Int) := fun h => c2 (decide_eq_true h)
                have cl : lawC ws ps gap u m = false := by
                  unfold lawC
                  rw [ewm, epk, decide_eq_false]
                  exact fun h => absurd (h.2.2.resolve_left hne) (by omega)
                exact ⟨_, rfl, s3, nextF cl, hy3⟩
            · have cl : lawC ws ps gap u m = false := by
                unfold lawC
                rw [ewm, epk, decide_eq_false]
                exact fun h => cf h.2.1
              exact ⟨_, rfl, s3, nextF cl, hy3⟩
          · have c1' : ¬ ((u.getLastD 0 : Nat) : Int) < 0 + (m : Int) := fun h => c1 (decide_eq_true h)
            have cl : lawC ws ps gap u m = false := by
              unfold lawC
              rw [ewm, epk, decide_eq_false]
              exact fun h => absurd (h.1.resolve_left hne) (by omega)
            exact ⟨_, rfl, s3, nextF cl, hy3⟩
      · rintro σ H3 ⟨c6, rfl, s3, L3, hy3⟩
        refine ⟨_, _, rfl, s3, ?_⟩
        rw [List.take_add_one, List.getElem?_eq_getElem hjl, List.flatMap_append]
        have e9 : List.flatMap (lawExt ws ps gap) (some (waysL ws ps gap i)[j]).toList = lawExt ws ps gap u := by
          rw [← hu]
          show List.flatMap (lawExt ws ps gap) [u] = _
          rw [List.flatMap_singleton]
        rw [e9]
        exact L3
    · rintro σ H2 ⟨c5, c6, rfl, s2, L2⟩
      rw [hvw, take_all (Nat.le_refl _)] at L2
      exact ⟨_, rfl, DD, _, _, _, _, rfl, s1.trans s2, s1.free hDD, L2⟩
  · rintro σ H1 ⟨d, c3, c4, c5, c6, rfl, s1, hd9, L1⟩
    rw [hpxl] at L1
    obtain ⟨vw, e1, e2, e3⟩ := L1
    refine ⟨_, rfl, d, vw, _, rfl, SqL.of e1, e2, ?_, ?_, ?_, fun p vs' hp d2 hl2 => ?_⟩
    · exact PySem.W.AllAlike.of fun a b => by
        show PySem.W.alike (encW a) (encW b) = true
        rw [encW_ints, encW_ints]
        exact PySem.W.alike_ints _ _
    · refine .inl fun dd hdd => ?_
      obtain ⟨v, hv, rfl⟩ := List.mem_map.mp hdd
      have hl := (mem_waysL hv).1
      cases v with
      | nil => simp at hl; omega
      | cons a r => exact ⟨_, _, rfl⟩
    · intro dd hdd
      obtain ⟨v, hv, rfl⟩ := List.mem_map.mp hdd
      rw [encW_ints]
      have e := PySem.W.depth_ints (v.map fun (n : Nat) => (n : Int))
      rw [PyData.depth, e]
      decide
    · rw [ways_sorted] at d2
      exact q p _ vs' (same_upd s1 (s1.free hp)) (s1.free hp) upd_same (DpAll.same (same_new hp) d2)
end


/-! ### any, all of a generator expression whose element may call -/
section
open PySem.Spec PyProof.Rows
/-- the generator's own names are over; the captured ones are the def's -/
def gxEnv (X : Cx) (scope : Scope) (L : Addr) (code : Value) : Env := genEnv scope (cloFrom X.env.cells scope.names []) L code builtinsNs X.env
/-- the context of the generator's code, woken within any, all -/
def gxOf (X : Cx) (N : List Str) (scope : Scope) (code : Value) (s : Shared) (H : Hp) (ex : List Addr) (pn : List (Addr × Obj)) : Cx :=
  { X with A := X.A.in1.in1.deeper (gxEnv X scope s.heap.objs.size code), N := N, s_0 := s, H_0 := H, env := gxEnv X scope s.heap.objs.size code, outer := X.stack, stack := gxEnv X scope s.heap.objs.size code :: X.stack, ex := ex, fn := fun _ => false, calm := true, pn := pn, xe := fun _ _ => False }
variable {X : Cx} {pins : List (Addr × Obj)} {σ : L2.St} {H : Hp} {s : Shared}
/-- what stands in the generator's slots: names captured, with the def's values -/
def CapOk (X : Cx) (scope : Scope) (N : List Str) (σ τ : L2.St) : Prop :=
  τ.length = N.length ∧ ∀ (i : Nat) (y : Str) (v : V), N[i]? = some y → τ[i]? = some (some v) → scope.names.lookup y = some NameKind.free ∧ (X.env.kindOf y = some .cell ∨ X.env.kindOf y = some .free) ∧ Vis X.env.scope y ∧ ∃ j : Nat, X.N[j]? = some y ∧ σ[j]? = some (some v)
theorem gx_inv {N : List Str} {scope : Scope} {code : Value} {fp : List Addr} {a : Addr} {go : Obj} {τ : L2.St} {s5 : Shared} {m : Str → Option Value} (I : Inv X pins σ H s) (hd : X.A.handled = none) (hk : scope.kind = .function) (hfree : ∀ y ∈ scope.names, y.2 = .free → ∃ c, X.env.cells.lookup y.1 = some c) (hcell : ∀ y ∈ scope.names, y.2 ≠ .cell)
    (hfp : ∀ b ∈ fp, FpOk X pins H b ∧ ∃ o, s.heap.get? b = some o) (hos : s5.os = s.os) (hb : AllBare s5.gens) (keep : ∀ b o, s.heap.get? b = some o → s5.heap.get? b = some o) (hn : s5.heap.Ns s.heap.objs.size m) (ha : s5.heap.get? a = some go) (hal : s.heap.objs.size < a) (hgo : ∀ v, go.data ≠ .cell v)
    (hcap : CapOk X scope N σ τ) : Inv (gxOf X N scope code s H fp [(a, go)]) [] τ H s5 := by
  have env := I.env0
  have cm : ∀ y c, (gxEnv X scope s.heap.objs.size code).cells.lookup y = some c → X.env.cells.lookup y = some c := fun y c e => NdefX.clo_cm hfree e
  have free1 : H s.heap.objs.size = none := I.hok.fresh (Nat.le_refl _)
  refine ⟨⟨I.ok.mod, hk, I.ok.glob, rfl, Nat.le_refl _, fun x y c e1 e2 => I.ok.inj x y c (cm _ _ e1) (cm _ _ e2), fun y hy => ?_, fun x c e => absurd (show false = true from e) Bool.false_ne_true, fun _ => hd, Around.frames_deeper env.frames, .inr ⟨rfl, rfl⟩, fun b hbf => ?_, I.bs, env.bsz, fun b o e hbf => ?_, fun b hbf hst => ?_, env.funs, env.frf⟩,
    hos, hb, Un.kept keep, ⟨m, hn, fun i y v e1 e2 e3 => ?_⟩, fun y c e => ?_, free1, fun y c e => I.freeC y c (cm _ _ e), fun p hp => ?_, I.hok.kept keep, hcap.1⟩
  · have hy' : scope.names.lookup y = some .cell ∨ scope.names.lookup y = some .free := hy
    rcases hy' with h | h
    · exact absurd rfl (hcell _ (PySem.mem_of_lookup h))
    · obtain ⟨c, e⟩ := hfree _ (PySem.mem_of_lookup h) rfl
      exact ⟨c, NdefX.clo_has hfree (PySem.mem_of_lookup h) e⟩
  · obtain ⟨⟨f0, f1, f2, f3, f4, f5⟩, o, eo⟩ := hfp b hbf
    exact ⟨Nat.ne_of_lt (Heap.lt_size eo), fun x c e => f4 x c (cm _ _ e)⟩
  · obtain ⟨⟨f0, f1, f2, f3, f4, f5⟩, o', eo⟩ := hfp b hbf
    rcases f3 with f3 | f3
    · exact I.ok.noex b o e f3
    · exact absurd (Nat.lt_of_lt_of_le (Heap.lt_size e) (Nat.le_trans I.ok.bsz f3)) (Nat.lt_irrefl _)
  · obtain ⟨⟨f0, f1, f2, f3, f4, f5⟩, o', eo⟩ := hfp b hbf
    rcases List.mem_cons.mp (I.stkSub b hst) with z | z
    · exact f1 z
    · exact f2 z
  · obtain ⟨k1, k2, k3, j, k4, k5⟩ := hcap.2 i y v e1 e2
    obtain ⟨mx, hnx, hl⟩ := I.loc
    obtain ⟨u, ru, lk⟩ := hl j y v k4 k5 k3
    refine ⟨u, ru, .inr ⟨.inr k1, ?_⟩⟩
    rcases lk with ⟨q, _⟩ | ⟨q, c, ec, hc⟩
    · rcases k2 with k2 | k2 <;> (rw [k2] at q; cases q)
    · obtain ⟨oc, h1, h2⟩ := hc
      exact ⟨c, NdefX.clo_has hfree (PySem.mem_of_lookup k1) ec, oc, keep _ _ h1, h2⟩
  · obtain ⟨v, oc, h1, h2⟩ := I.cell y c (cm _ _ e)
    exact ⟨v, oc, keep _ _ h1, h2⟩
  · have e : p = (a, go) := by simpa [gxOf] using hp
    subst e
    have ge : s.heap.objs.size ≤ a := Nat.le_of_lt hal
    refine ⟨ha, I.hok.fresh ge, Nat.ne_of_gt hal, fun hst => ?_, hgo⟩
    obtain ⟨_, o, ho, _⟩ := env.funs.mem hst
    exact absurd (Nat.lt_of_lt_of_le (Heap.lt_size ho) ge) (Nat.lt_irrefl _)
end


section
open PySem.Spec PyProof.Rows
variable {X : Cx}
/-- the loop's reading: a turn's element is a bool; the one that is `stop` ends the walk, with Qs, or all are over, with Qe -/
def tGxW (J : It) (g : TG) (tt : TT) (te : TE) (stop : Bool) (Qs Qe : Hp → Prop) (W : Nat → Nat → L2.St → Hp → Prop) : Prop := ∀ i m τ H, W i m τ H →
  (J.stop i H ∧ Qe H) ∨ (J.go i H ∧ ∃ Nx : L2.St → Hp → Prop, (∀ τ' H', Nx τ' H' → ∃ m', m' < m ∧ W (i + 1) m' τ' H') ∧ ∀ x H', J.yld i H x H' → g x τ H' fun τ2 H2 => tt τ2 H2 fun b H3 => if b = true then te τ2 H3 fun y H4 => ∃ c, y = .bl c ∧ if c = stop then Qs H4 else Nx τ2 H4 else Nx τ2 H3)
def gxR (Y : Cx) (Qe : Hp → Prop) : GenEnd := fun _ _ r s1 => ((r = .ok (.ret .none) ∨ r = .ok .next) ∧ ∃ τ H, Inv Y [] τ H s1 ∧ Qe H) ∨ ∃ e, r = .error e ∧ False
def gxY (Y : Cx) (stop : Bool) (Qs : Hp → Prop) : Protocol := fun _ _ v s1 kap => ∃ (c : Bool) (τ : L2.St) (H : Hp), v = .bool c ∧ Inv Y [] τ H s1 ∧ (c = stop → Qs H) ∧ (c ≠ stop → ∀ s', s'.heap = s1.heap → s'.os = s1.os → AllBare s'.gens → kap (.send .none) s')
theorem gx_loop {N : List Str} {scope : Scope} {code : Value} {s0 : Shared} {H0 : Hp} {fp : List Addr} {pn : List (Addr × Obj)} {elt iter tg : Expr} {ifs : List Expr} {tt : TT} {gpos : Pos} {it : Addr} {tn : Nat → Heap → Prop} {J : It} {g : TG} {te : TE} {stop : Bool} {Qs Qe : Hp → Prop} {W : Nat → Nat → L2.St → Hp → Prop}
    (hd : X.A.handled = none) (hco : scope.isCoroutine = false) (T : Turn X.prog X.w X.K tg J fp it tn) (hg : PG (gxOf X N scope code s0 H0 fp pn) tg g) (ht : PTs (gxOf X N scope code s0 H0 fp pn) ifs tt) (he : PE (gxOf X N scope code s0 H0 fp pn) elt te)
    (stat : ∀ {H' : Hp}, (∀ b ∈ fp, H' b = none) → ∀ b ∈ fp, FpOk (gxOf X N scope code s0 H0 fp pn) [] H' b) (turn : tGxW J g tt te stop Qs Qe W) :
    ∀ (m n i : Nat) (s₀ s : Shared) (τ : L2.St) (H : Hp), m < n → W i m τ H → Inv (gxOf X N scope code s0 H0 fp pn) [] τ H s → tn i s.heap → (∀ b ∈ fp, H b = none) →
      Seg (model X.prog X.w) X.A.in1.in1 (gxR (gxOf X N scope code s0 H0 fp pn) Qe) (gxY (gxOf X N scope code s0 H0 fp pn) stop Qs) n s₀
        (.compLoop (.GeneratorExp elt [⟨tg, iter, ifs, 0⟩] scope gpos) 0 (.ref it) .none (gxEnv X scope s0.heap.objs.size code))
        ((model X.prog X.w).den (.compLoop (.GeneratorExp elt [⟨tg, iter, ifs, 0⟩] scope gpos) 0 (.ref it) .none (gxEnv X scope s0.heap.objs.size code))) [] s := by
  intro m
  induction m using Nat.strongRecOn with
  | ind m ih =>
    intro n1 i s₀ s τ H hmn w I st fr
    obtain ⟨n, rfl⟩ : ∃ n, n1 = n + 1 := ⟨n1 - 1, by omega⟩
    show Seg _ _ _ _ _ s₀ _ ((compTurn (.GeneratorExp elt [⟨tg, iter, ifs, 0⟩] scope gpos) 0 (.ref it) .none (gxEnv X scope s0.heap.objs.size code)).onRaise (leaving (gxEnv X scope s0.heap.objs.size code))) [] s
    rw [compTurn_gen, Sem.onRaise_eq_wrap]
    refine seg_bind_wrap (wpAny_standAt ?_)
    rcases turn i m τ H w with ⟨stp, qe⟩ | ⟨go, Nx, hN, step⟩
    · refine seg_bind_wrap ?_
      refine wpAny_mono (T.done (gxOf X N scope code s0 H0 fp pn) rfl rfl rfl rfl i [] s τ H (fun _ _ => False) I (stat fr) st stp) (fun r s1 hr => ?_) fun _ _ z => z.elim
      obtain ⟨rfl, I1⟩ := hr
      exact seg_end (.ok .next) (.inl ⟨.inr rfl, τ, H, I1, qe⟩)
    · refine seg_bind_wrap ?_
      refine wpAny_mono (T.item (gxOf X N scope code s0 H0 fp pn) rfl rfl rfl rfl i [] s τ H (fun _ _ => False) I (stat fr) st go) (fun r s1 hr => ?_) fun _ _ z => z.elim
      obtain ⟨u, rfl, h1⟩ := hr
      refine seg_bind_wrap (wpAny_mono h1 (fun _ s2 h2 => ?_) fun _ _ z => z.elim)
      obtain ⟨x, H2, I2, r2, y2, st2, fr2⟩ := h2
      have I2' := I2.pinned (stat fr2) (T.obj _ _ st2)
      refine seg_bind_wrap (wpAny_mono (hg.run _ s2 τ H2 x u _ I2' r2 (step x H2 y2)) (fun _ s3 h3 => ?_) fun _ _ z => z.elim)
      obtain ⟨τ3, H3, I3, q3⟩ := h3
      have later : ∀ {s7 s8 : Shared} {H7 : Hp}, Inv (gxOf X N scope code s0 H0 fp pn) ([] ++ pinsAt fp s2.heap) τ3 H7 s7 → Nx τ3 H7 → s8.heap = s7.heap → s8.os = s7.os → AllBare s8.gens → ∀ s₀' k, n ≤ k →
          Seg (model X.prog X.w) X.A.in1.in1 (gxR (gxOf X N scope code s0 H0 fp pn) Qe) (gxY (gxOf X N scope code s0 H0 fp pn) stop Qs) k s₀'
            (.compLoop (.GeneratorExp elt [⟨tg, iter, ifs, 0⟩] scope gpos) 0 (.ref it) .none (gxEnv X scope s0.heap.objs.size code))
            ((model X.prog X.w).den (.compLoop (.GeneratorExp elt [⟨tg, iter, ifs, 0⟩] scope gpos) 0 (.ref it) .none (gxEnv X scope s0.heap.objs.size code))) [] s8 := fun {s7 s8 H7} I7 n7 eh eo eb s₀' k hnk => by
        obtain ⟨m', hm, w7⟩ := hN τ3 H7 n7
        have I7u : Inv (gxOf X N scope code s0 H0 fp pn) [] τ3 H7 s7 := I7.unpinned
        have st7 : tn (i + 1) s7.heap := T.keep _ _ _ st2 fun b hb o e => (I7.pin (b, o) (List.mem_append_right _ (List.mem_append_right _ (mem_pinsAt hb e)))).1
        refine ih m' hm k (i + 1) s₀' s8 τ3 H7 (by omega) w7 ?_ (by rw [eh]; exact st7) fun b hb => ?_
        · obtain ⟨h8, g8, d8, t8, o8⟩ := s8
          have e1 : h8 = s7.heap := eh
          have e2 : o8 = s7.os := eo
          subst e1 e2
          exact ⟨I7u.ok, I7u.os, eb, I7u.base, I7u.loc, I7u.cell, I7u.free, I7u.freeC, I7u.pin, I7u.hok, I7u.len⟩
        · obtain ⟨o, e, _⟩ := T.obj _ _ st2 b hb
          exact (I7.pin (b, o) (List.mem_append_right _ (List.mem_append_right _ (mem_pinsAt hb e)))).2.1
      refine seg_bind_wrap (wpAny_mono (ht.run _ s3 τ3 H3 _ I3 q3) (fun b s4 h4 => ?_) fun _ _ z => z.elim)
      obtain ⟨H4, I4, q4⟩ := h4
      cases b with
      | false =>
        rw [if_neg Bool.false_ne_true] at q4
        simp only [Bool.false_eq_true, if_false]
        exact seg_again rfl (later I4 q4 rfl rfl I4.bare s₀ (n + 1) (Nat.le_succ n))
      | true =>
        rw [if_pos rfl] at q4
        simp only [if_true]
        have plain : ∀ v, yieldOut (gxEnv X scope s0.heap.objs.size code) v = yieldValue v := fun v => by
          unfold yieldOut
          rw [if_neg (by show ¬ (scope.isCoroutine = true); rw [hco]; exact Bool.false_ne_true)]
        simp only [plain]
        rw [Sem.bind_eq_wrap', Sem.bind_eq_wrap', Sem.wrap_wrap, Sem.wrap_wrap]
        refine seg_wrap (wpAny_mono (he.run _ s4 τ3 H4 _ I4 q4) (fun y s5 h5 => ?_) fun _ _ z => z.elim)
        obtain ⟨y1, H5, I5, r5, c, ey, q5⟩ := h5
        subst ey
        obtain rfl : y = .bool c := r5
        refine seg_at (seg_yield rfl rfl rfl ⟨c, τ3, H5, rfl, I5.unpinned, fun e => ?_, fun e s6 eh eo eb => ?_⟩)
        · rw [if_pos e] at q5; exact q5
        · rw [if_neg e] at q5
          exact seg_again rfl (later I5 q5 eh eo eb s6 n (Nat.le_refl n))
end


section
open PySem.Spec PyProof.Rows GenW
variable {X : Cx}
theorem gx_start {N : List Str} {scope : Scope} {code : Value} {s0 : Shared} {H0 : Hp} {fp : List Addr} {pn : List (Addr × Obj)} {elt iter tg : Expr} {ifs : List Expr} {tt : TT} {gpos : Pos} {it : Addr} {tn : Nat → Heap → Prop} {J : It} {g : TG} {te : TE} {stop : Bool} {Qs Qe : Hp → Prop} {W : Nat → Nat → L2.St → Hp → Prop}
    (hd : X.A.handled = none) (hco : scope.isCoroutine = false) (T : Turn X.prog X.w X.K tg J fp it tn) (hg : PG (gxOf X N scope code s0 H0 fp pn) tg g) (ht : PTs (gxOf X N scope code s0 H0 fp pn) ifs tt) (he : PE (gxOf X N scope code s0 H0 fp pn) elt te)
    (stat : ∀ {H' : Hp}, (∀ b ∈ fp, H' b = none) → ∀ b ∈ fp, FpOk (gxOf X N scope code s0 H0 fp pn) [] H' b) (turn : tGxW J g tt te stop Qs Qe W) {m n : Nat} {s₀ s : Shared} {τ : L2.St} {H : Hp} (hmn : m < n) (w0 : W 0 m τ H) (I : Inv (gxOf X N scope code s0 H0 fp pn) [] τ H s) (st : tn 0 s.heap) (fr : ∀ b ∈ fp, H b = none) :
    Seg (model X.prog X.w) X.A.in1.in1 (gxR (gxOf X N scope code s0 H0 fp pn) Qe) (gxY (gxOf X N scope code s0 H0 fp pn) stop Qs) n s₀
        (.compStart (.GeneratorExp elt [⟨tg, iter, ifs, 0⟩] scope gpos) 0 (.ref it) .none (gxEnv X scope s0.heap.objs.size code))
        ((model X.prog X.w).den (.compStart (.GeneratorExp elt [⟨tg, iter, ifs, 0⟩] scope gpos) 0 (.ref it) .none (gxEnv X scope s0.heap.objs.size code))) [] s := by
  have go := gx_loop (iter := iter) (gpos := gpos) hd hco T hg ht he stat turn m n 0 s₀ s τ H hmn w0 I st fr
  show Seg _ _ _ _ _ s₀ _ ((compStart (.GeneratorExp elt [⟨tg, iter, ifs, 0⟩] scope gpos) 0 (.ref it) .none (gxEnv X scope s0.heap.objs.size code)).onRaise (leaving (gxEnv X scope s0.heap.objs.size code))) [] s
  unfold compStart
  rw [Sem.onRaise_eq_wrap]
  show Seg _ _ _ _ _ s₀ _ ((ask >>= _).wrap _ _ _ _) [] s
  refine seg_bind_wrap (wpAny_askSetting ?_)
  split
  · exact seg_again rfl go
  · refine seg_bind_wrap (wpAny_rule ?_)
    first
      | exact seg_bind_wrap (wpAny_standAt (seg_bind_wrap (T.self _ 0 s _ _ st (seg_again rfl go))))
      | (show Seg _ _ _ _ _ s₀ _ ((standAt iter.pos >>= _).wrap _ _ _ _) [] s; exact seg_bind_wrap (wpAny_standAt (seg_bind_wrap (T.self _ 0 s _ _ st (seg_again rfl go)))))
theorem isGen_of {h : Heap} {a : Addr} {g : Nat} {go : Obj} {nm qn : Value} (e : h.get? a = some go) (h1 : go.cls = .type "generator") (h2 : go.data = .fields #[.int g 0, nm, qn]) (h3 : go.slots = #[]) : h.IsGen a g := ⟨go, nm, qn, e, h1, h2, h3⟩
theorem gx_any {Y : Cx} {a : Addr} {g : Nat} {stop : Bool} {Qs Qe : Hp → Prop} {R : Result → Shared → Prop} (hP : Y.prog = X.prog ∧ Y.w = X.w) (hr : Room 1 X.A) (hgen : ∀ {τ : L2.St} {H : Hp} {s : Shared}, Inv Y [] τ H s → s.heap.IsGen a g)
    (hs : ∀ s1 s' τ H, Inv Y [] τ H s1 → Qs H → s'.os = s1.os → AllBare s'.gens → (∀ b o, s1.heap.get? b = some o → s'.heap.get? b = some o) → stop = true → R (.ok (.ret (.bool true))) s')
    (he : ∀ s1 s' τ H, Inv Y [] τ H s1 → Qe H → s'.os = s1.os → AllBare s'.gens → (∀ b o, s1.heap.get? b = some o → s'.heap.get? b = some o) → stop = true → R (.ok (.ret (.bool false))) s') (hst : stop = true) :
    ∀ (n : Nat) (s : Shared), s.heap.IsGen a g → s.heap.NoLimit → (∃ gs, s.gens[g]? = some gs ∧ gs.Goes (model X.prog X.w) X.A.in1.in1 (gxR Y Qe) (gxY Y stop Qs) n (.send .none) (s.setGen g .running)) →
      codeAny (model X.prog X.w) X.A (.builtin "any.loop" ⟨[.ref a], []⟩) R s := by
  intro n
  induction n with
  | zero =>
    intro s hg hl ⟨gs, hgs, hgo⟩
    refine codeAny_builtin PySem.F.entry_any_loop ?_
    rw [Around.under_plainId PySem.F.plain_any_loop _]
    show wpAny _ X.A.in1 (pyNext (.ref a) >>= _) _ _ s
    refine wpAny_bind (next_genG (A := X.A.in1) hr.hd hl (by have := hr.dp; show X.A.depth < _; omega) hg hgs hgo (fun v s1 gs' hbare hv => ?_) (fun s1 hp h' hk => ?_) fun e s1 hF => hF.elim)
    · obtain ⟨c, τ, H, rfl, I, q1, q2⟩ := hv
      have bare1 := allBare_setGen (g := g) I.bare hbare
      refine wpAny_bind (wpAny_holding (wpAny_truthy_bool (wpAny_bind (wpAny_letGo ?_))))
      cases c with
      | true =>
        rw [if_pos rfl]
        exact wpAny_bind (wpAny_rule (wpAny_pure (hs s1 _ τ H I (q1 hst.symm) rfl bare1 (fun _ _ e => e) hst)))
      | false =>
        rw [if_neg Bool.false_ne_true]
        have ne : false ≠ stop := by rw [hst]; exact Bool.false_ne_true
        exact (q2 ne s1 rfl rfl I.bare).elim
    · obtain ⟨τ, H, I, qe⟩ := hp
      exact wpAny_bind (wpAny_rule (wpAny_pure (he s1 _ τ H I qe rfl (allBare_setGen I.bare rfl) hk hst)))
  | succ n ih =>
    intro s hg hl ⟨gs, hgs, hgo⟩
    have hgl : g < s.gens.size := (Array.getElem?_eq_some_iff.mp hgs).1
    refine codeAny_builtin PySem.F.entry_any_loop ?_
    rw [Around.under_plainId PySem.F.plain_any_loop _]
    show wpAny _ X.A.in1 (pyNext (.ref a) >>= _) _ _ s
    refine wpAny_bind (wpAny_gsz (n := g + 1) hgl (next_genG (A := X.A.in1) hr.hd hl (by have := hr.dp; show X.A.depth < _; omega) hg hgs hgo (fun v s1 gs' hbare hv => ?_) (fun s1 hp h' hk => ?_) fun e s1 hF => hF.elim))
    · intro hsz
      obtain ⟨c, τ, H, rfl, I, q1, q2⟩ := hv
      have bare1 := allBare_setGen (g := g) I.bare hbare
      refine wpAny_bind (wpAny_holding (wpAny_truthy_bool (wpAny_bind (wpAny_letGo ?_))))
      cases c with
      | true =>
        rw [if_pos rfl]
        exact wpAny_bind (wpAny_rule (wpAny_pure (hs s1 _ τ H I (q1 hst.symm) rfl bare1 (fun _ _ e => e) hst)))
      | false =>
        rw [if_neg Bool.false_ne_true]
        have ne : false ≠ stop := by rw [hst]; exact Bool.false_ne_true
        have szg : g < s1.gens.size := by
          have q : (s1.setGen g gs').gens.size = s1.gens.size := setGen_size _ _ _
          have hsz' : g + 1 ≤ (s1.setGen g gs').gens.size := hsz
          omega
        have hgI : s1.heap.IsGen a g := hgen I
        have hlI : s1.heap.NoLimit := I.nolimit
        exact wpAny_pure ⟨plainId_quiet PySem.F.plain_any_loop _, ih (s1.setGen g gs') hgI hlI ⟨gs', setGen_at szg, q2 ne _ rfl rfl (allBare_setGen bare1 rfl)⟩⟩
    · intro hsz
      obtain ⟨τ, H, I, qe⟩ := hp
      exact wpAny_bind (wpAny_rule (wpAny_pure (he s1 _ τ H I qe rfl (allBare_setGen I.bare rfl) hk hst)))
theorem gx_all {Y : Cx} {a : Addr} {g : Nat} {stop : Bool} {Qs Qe : Hp → Prop} {R : Result → Shared → Prop} (hP : Y.prog = X.prog ∧ Y.w = X.w) (hr : Room 1 X.A) (hgen : ∀ {τ : L2.St} {H : Hp} {s : Shared}, Inv Y [] τ H s → s.heap.IsGen a g)
    (hs : ∀ s1 s' τ H, Inv Y [] τ H s1 → Qs H → s'.os = s1.os → AllBare s'.gens → (∀ b o, s1.heap.get? b = some o → s'.heap.get? b = some o) → stop = false → R (.ok (.ret (.bool false))) s')
    (he : ∀ s1 s' τ H, Inv Y [] τ H s1 → Qe H → s'.os = s1.os → AllBare s'.gens → (∀ b o, s1.heap.get? b = some o → s'.heap.get? b = some o) → stop = false → R (.ok (.ret (.bool true))) s') (hst : stop = false) :
    ∀ (n : Nat) (s : Shared), s.heap.IsGen a g → s.heap.NoLimit → (∃ gs, s.gens[g]? = some gs ∧ gs.Goes (model X.prog X.w) X.A.in1.in1 (gxR Y Qe) (gxY Y stop Qs) n (.send .none) (s.setGen g .running)) →
      codeAny (model X.prog X.w) X.A (.builtin "all.loop" ⟨[.ref a], []⟩) R s := by
  intro n
  induction n with
  | zero =>
    intro s hg hl ⟨gs, hgs, hgo⟩
    refine codeAny_builtin PySem.F.entry_all_loop ?_
    rw [Around.under_plainId PySem.F.plain_all_loop _]
    show wpAny _ X.A.in1 (pyNext (.ref a) >>= _) _ _ s
    refine wpAny_bind (next_genG (A := X.A.in1) hr.hd hl (by have := hr.dp; show X.A.depth < _; omega) hg hgs hgo (fun v s1 gs' hbare hv => ?_) (fun s1 hp h' hk => ?_) fun e s1 hF => hF.elim)
    · obtain ⟨c, τ, H, rfl, I, q1, q2⟩ := hv
      have bare1 := allBare_setGen (g := g) I.bare hbare
      refine wpAny_bind (wpAny_holding (wpAny_truthy_bool (wpAny_bind (wpAny_letGo ?_))))
      cases c with
      | false =>
        rw [if_neg Bool.false_ne_true]
        exact wpAny_bind (wpAny_rule (wpAny_pure (hs s1 _ τ H I (q1 hst.symm) rfl bare1 (fun _ _ e => e) hst)))
      | true =>
        rw [if_pos rfl]
        have ne : true ≠ stop := by rw [hst]; exact fun z => Bool.false_ne_true z.symm
        exact (q2 ne s1 rfl rfl I.bare).elim
    · obtain ⟨τ, H, I, qe⟩ := hp
      exact wpAny_bind (wpAny_rule (wpAny_pure (he s1 _ τ H I qe rfl (allBare_setGen I.bare rfl) hk hst)))
  | succ n ih =>
    intro s hg hl ⟨gs, hgs, hgo⟩
    have hgl : g < s.gens.size := (Array.getElem?_eq_some_iff.mp hgs).1
    refine codeAny_builtin PySem.F.entry_all_loop ?_
    rw [Around.under_plainId PySem.F.plain_all_loop _]
    show wpAny _ X.A.in1 (pyNext (.ref a) >>= _) _ _ s
    refine wpAny_bind (wpAny_gsz (n := g + 1) hgl (next_genG (A := X.A.in1) hr.hd hl (by have := hr.dp; show X.A.depth < _; omega) hg hgs hgo (fun v s1 gs' hbare hv => ?_) (fun s1 hp h' hk => ?_) fun e s1 hF => hF.elim))
    · intro hsz
      obtain ⟨c, τ, H, rfl, I, q1, q2⟩ := hv
      have bare1 := allBare_setGen (g := g) I.bare hbare
      refine wpAny_bind (wpAny_holding (wpAny_truthy_bool (wpAny_bind (wpAny_letGo ?_))))
      cases c with
      | false =>
        rw [if_neg Bool.false_ne_true]
        exact wpAny_bind (wpAny_rule (wpAny_pure (hs s1 _ τ H I (q1 hst.symm) rfl bare1 (fun _ _ e => e) hst)))
      | true =>
        rw [if_pos rfl]
        have ne : true ≠ stop := by rw [hst]; exact fun z => Bool.false_ne_true z.symm
        have szg : g < s1.gens.size := by
          have q : (s1.setGen g gs').gens.size = s1.gens.size := setGen_size _ _ _
          have hsz' : g + 1 ≤ (s1.setGen g gs').gens.size := hsz
          omega
        have hgI : s1.heap.IsGen a g := hgen I
        have hlI : s1.heap.NoLimit := I.nolimit
        exact wpAny_pure ⟨plainId_quiet PySem.F.plain_all_loop _, ih (s1.setGen g gs') hgI hlI ⟨gs', setGen_at szg, q2 ne _ rfl rfl (allBare_setGen bare1 rfl)⟩⟩
    · intro hsz
      obtain ⟨τ, H, I, qe⟩ := hp
      exact wpAny_bind (wpAny_rule (wpAny_pure (he s1 _ τ H I qe rfl (allBare_setGen I.bare rfl) hk hst)))
end


section
open PySem.Spec PyProof.Rows GenW GxR
variable {X : Cx} {pins : List (Addr × Obj)} {σ : L2.St}
/-- a generator that has not begun, ready for any, all -/
def GxReady (X : Cx) (pins : List (Addr × Obj)) (σ : L2.St) (stop : Bool) (Qs Qe : Hp → Prop) (a : Addr) (s5 : Shared) : Prop := ∃ (Y : Cx) (g n : Nat), Y.prog = X.prog ∧ Y.w = X.w ∧ (∀ {τ : L2.St} {H : Hp} {s : Shared}, Inv Y [] τ H s → s.heap.IsGen a g) ∧
  (∀ {τ : L2.St} {H : Hp} {s1 s' : Shared}, Inv Y [] τ H s1 → s'.os = s1.os → AllBare s'.gens → (∀ b o, s1.heap.get? b = some o → s'.heap.get? b = some o) → Inv X pins σ H s') ∧ s5.heap.IsGen a g ∧ s5.heap.NoLimit ∧
  ∃ gs, s5.gens[g]? = some gs ∧ gs.Goes (model X.prog X.w) X.A.in1.in1 (gxR Y Qe) (gxY Y stop Qs) n (.send .none) (s5.setGen g .running)
/-- the slots of the generator: none for its own names, the def's j-th for a captured one -/
def capSt (js : List (Option Nat)) (σ : L2.St) : L2.St := js.map fun o => match o with | none => none | some j => (σ[j]?).getD none
def tGx (P : Addr) (js : List (Option Nat)) (wi : TI) (g : TG) (tt : TT) (te : TE) (stop : Bool) : TE := fun σ H Q => wi σ H fun J H1 => TabG H1 P ∧ ∀ H2, Tabbed P H1 H2 → ∃ W : Nat → Nat → L2.St → Hp → Prop, (∃ m, W 0 m (capSt js σ) H2) ∧ tGxW J g tt te stop (fun H' => Q (.bl stop) H') (fun H' => Q (.bl (!stop)) H') W
/-- what a generator's scope needs -/
structure GxS (env : Env) (scope : Scope) : Prop where
  kind : scope.kind = .function
  co : scope.isCoroutine = false
  cell : ∀ y ∈ scope.names, y.2 ≠ .cell
  dot : scope.names.lookup (".0" : Str) = some NameKind.local
  free : ∀ y ∈ scope.names, y.2 = .free → ∃ c, env.cells.lookup y.1 = some c
theorem gx_made {c P : Addr} {elt iter tg : Expr} {ifs : List Expr} {gpos : Pos} {scope : Scope} {N : List Str} {js : List (Option Nat)} {wi : TI} {g : TG} {tt : TT} {te : TE} {k : Nat} {stop : Bool} {H : Hp} {s : Shared} {Q : VK} {Q' : Value → Shared → Prop} (hr : Room k X.A) (hcal : X.calm = true) (TB : TabB X.base X.mg c P) (hcode : X.env.code = .ref c) (S : GxS X.env scope)
    (hcap : ∀ σ : L2.St, CapOk X scope N σ (capSt js σ)) (hi : PI X tg iter wi) (hg : ∀ code s H ex pn, PG (gxOf X N scope code s H ex pn) tg g) (ht : ∀ code s H ex pn, PTs (gxOf X N scope code s H ex pn) ifs tt) (he : ∀ code s H ex pn, PE (gxOf X N scope code s H ex pn) elt te)
    (hs : ∀ v, genFold iter X.env v = pure v) (I : Inv X pins σ H s) (h : tGx P js wi g tt te stop σ H Q) (hQ : ∀ a s5, GxReady X pins σ stop (fun H' => Q (.bl stop) H') (fun H' => Q (.bl (!stop)) H') a s5 → Q' (.ref a) s5) :
    wpAny (model X.prog X.w) X.A (eval (.GeneratorExp elt [⟨tg, iter, ifs, 0⟩] scope gpos) X.env) Q' X.xe s := by
  refine wpAny_GeneratorExp_make S.co (closure_ok S.free) S.cell S.dot S.kind (by have := hr.dp; omega) ?_ hs
  refine thn (hi.run pins s σ H _ I h) fun xv s1 h1 => thn h1 fun itv s2 h2 => ?_
  obtain ⟨it, fp, tn, J, H1, rfl, I2, T, st2, f2, hP, step⟩ := h2
  obtain ⟨ps, eP, tr⟩ := hP
  have lim2 : s2.heap.NoLimit := I2.nolimit
  refine ⟨lim2, ?_⟩
  have hPs : s2.heap.get? P = some { cls := .none, data := .fields ps } := I2.hok P _ eP
  have cd : PySem.W.CodeHd s2.heap c P := TB.code.keeps fun b u e => I2.bk b u e
  have cont : ∀ (code : Value) (h3 : Heap) (tk : Nat) (ps' : Array Value), Heap.ExtBut P s2.heap h3 → s2.heap.objs.size ≤ h3.objs.size → h3.get? P = some { cls := .none, data := .fields ps' } → (∃ more, ps' = ps ++ more) → TriplesOk ps'.toList →
      wpAny (model X.prog X.w) X.A (builtinsFor X.env.globals X.env.builtins) (fun bi s4 => ∀ h', h'.Ns s4.heap.objs.size (fun (y : Str) => if y = ".0" then some (.ref it) else none) → Heap.SameBut s4.heap.objs.size (s4.heap.push { cls := .type "frame", data := .dict #[] }) h' →
        Q' (.ref h'.objs.size) { s4 with gens := s4.gens.push (.fresh (.compStart (.GeneratorExp elt [⟨tg, iter, ifs, 0⟩] scope gpos) 0 (.ref it) .none (genEnv scope (cloFrom X.env.cells scope.names []) s4.heap.objs.size code bi X.env))), toks := s4.toks + 1 + 1 + 1, heap := h'.push { cls := .type "generator", data := .fields #[.int s4.gens.size 0, .str "<genexpr>" (s4.toks + 1), .str (X.env.qual ++ "<genexpr>") (s4.toks + 1 + 1)] } }) X.xe { s2 with heap := h3, toks := tk } := by
    intro code h3 tk ps' hx hsz hP3 hmore ht3
    obtain ⟨bm, ob, e1, e2, e3, e4, e5, e6, e7, e8⟩ := TB.bm
    obtain ⟨more, rfl⟩ := hmore
    have kp3 : ∀ b u, b ≠ P → s2.heap.get? b = some u → h3.get? b = some u := fun b u hb e => hx b u hb e
    refine wpAny_builtinsFor (m := X.mg) (by rw [I2.ok.glob]; exact (I2.mod.glob.keeps I2.bk).extBut hx TB.gP) e1 e2 (kp3 _ _ e4 (I2.bk _ _ e5)) e6 e7 e8 ?_
    intro h' hn hsb
    obtain ⟨s4, hs4⟩ : ∃ s4 : Shared, s4 = { s2 with heap := h3, toks := tk } := ⟨_, rfl⟩
    have s4h : s4.heap = h3 := by rw [hs4]
    have J4 : Inv X pins σ (upd H1 P (.tbl (ps ++ more))) s4 := by
      rw [hs4]
      exact inv_tab (h' := h3) (g' := s2.gens) (d' := s2.drawn) (t' := tk) I2 eP kp3 hP3 I2.bare
    have fpP : ∀ b ∈ fp, b ≠ P := fun b hb e => by
      have := (f2 b hb).1
      rw [e, eP] at this; cases this
    have f4 : ∀ b ∈ fp, FpOk X pins (upd H1 P (.tbl (ps ++ more))) b ∧ ∃ o, s4.heap.get? b = some o := fun b hb => by
      obtain ⟨o, e, _⟩ := T.obj _ _ st2 b hb
      obtain ⟨g0, g1⟩ := f2 b hb
      exact ⟨⟨by rw [upd_ne (fpP b hb)]; exact g0, g1⟩, o, by rw [s4h]; exact kp3 b o (fpP b hb) e⟩
    have st4 : tn 0 s4.heap := by rw [s4h]; exact T.keep _ _ _ st2 fun b hb o e => kp3 b o (fpP b hb) e
    obtain ⟨W, ⟨m0, w0⟩, turn⟩ := step (upd H1 P (.tbl (ps ++ more))) ⟨⟨ps ++ more, upd_same, ht3⟩, fun b hb => upd_ne hb⟩
    show Q' (.ref h'.objs.size) _
    have hn4 : h'.Ns s4.heap.objs.size (fun (y : Str) => if y = ".0" then some (.ref it) else none) := by rw [s4h]; exact hn
    have sz' : h'.objs.size = s4.heap.objs.size + 1 := by rw [s4h]; rw [hsb.1, Heap.size_push]
    have k4 : ∀ b o, s4.heap.get? b = some o → h'.get? b = some o := fun b o e => by
      rw [s4h] at e
      exact hsb.extBut b o (Nat.ne_of_lt (Heap.lt_size e)) (Heap.get?_push_of_some _ e)
    obtain ⟨go, hgo⟩ : ∃ go : Obj, go = { cls := .type "generator", data := .fields #[.int s2.gens.size 0, .str "<genexpr>" (tk + 1), .str (X.env.qual ++ "<genexpr>") (tk + 1 + 1)] } := ⟨_, rfl⟩
    have kg : ∀ b o, s4.heap.get? b = some o → (h'.push go).get? b = some o := fun b o e => Heap.get?_push_of_some _ (k4 b o e)
    have eg : (h'.push go).get? h'.objs.size = some go := Heap.get?_push_size _ (by rw [hgo]; rfl)
    have gcell : ∀ v, go.data ≠ .cell v := fun v q => by rw [hgo] at q; cases q
    have isg : ∀ {h : Heap}, h.get? h'.objs.size = some go → h.IsGen h'.objs.size s2.gens.size := fun {h} e => ⟨go, _, _, e, by rw [hgo], by rw [hgo], by rw [hgo]⟩
    have lim5 : (h'.push go).NoLimit := J4.nolimit.keeps kg
    rw [← hgo]
    refine hQ _ _ ⟨gxOf X N scope code s4 (upd H1 P (.tbl (ps ++ more))) fp [(h'.objs.size, go)], s2.gens.size, m0 + 1, rfl, rfl, fun {τ H s} J => isg (J.pin (h'.objs.size, go) (List.mem_append_left _ (List.mem_singleton.mpr rfl))).1, fun {τ H s1 s'} J eo eb kk => ?_, isg eg, lim5, _, Array.getElem?_push_size .., rfl, ?_⟩
    · exact J4.call' (ch := fp) (eo.trans J.os) (J.base.trans (Un.kept kk)) (J.hok.kept kk) eb fun b hb => by
        obtain ⟨g0, g1, g2, g3, g4, g5⟩ := (f4 b hb).1
        exact ⟨g3, g1, g4, g5⟩
    · subst hs4
      have bare5 : AllBare (s2.gens.push (GenState.fresh (.compStart (.GeneratorExp elt [⟨tg, iter, ifs, 0⟩] scope gpos) 0 (.ref it) .none (gxEnv X scope h3.objs.size code)))) := AllBare.push I2.bare rfl
      have J5 : Inv (gxOf X N scope code { s2 with heap := h3, toks := tk } (upd H1 P (.tbl (ps ++ more))) fp [(h'.objs.size, go)]) [] (capSt js σ) (upd H1 P (.tbl (ps ++ more))) (Shared.setGen { s2 with gens := s2.gens.push (GenState.fresh (.compStart (.GeneratorExp elt [⟨tg, iter, ifs, 0⟩] scope gpos) 0 (.ref it) .none (gxEnv X scope h3.objs.size code))), toks := tk + 1 + 1 + 1, heap := h'.push go } s2.gens.size .running) :=
        gx_inv (m := fun (y : Str) => if y = ".0" then some (.ref it) else none) J4 hr.hd S.kind S.free S.cell f4 rfl (allBare_setGen bare5 rfl) kg (hn4.push _) eg (by rw [sz']; exact Nat.lt_succ_self _) gcell (hcap σ)
      refine gx_start (n := m0 + 1) hr.hd S.co T (hg _ _ _ _ _) (ht _ _ _ _ _) (he _ _ _ _ _) (fun {H'} hn0 b hb => ?_) turn (Nat.lt_succ_self m0) w0 J5 (T.keep _ _ _ st4 fun b hb o e => kg b o e) fun b hb => (f4 b hb).1.1
      obtain ⟨x1, x2⟩ := J5.ok.exf b hb
      refine ⟨hn0 b hb, x1, J5.ok.exfs b hb, .inl hb, x2, fun p hp e => ?_⟩
      have ep : p = (h'.objs.size, go) := by simpa [gxOf] using hp
      obtain ⟨o, eo⟩ := (f4 b hb).2
      have lt := Heap.lt_size eo
      rw [← e, ep] at lt
      have lt2 : (h'.objs.size : Nat) < h3.objs.size := lt
      have e3 : (h'.objs.size : Nat) = h3.objs.size + 1 := sz'
      omega
  cases hf : codeAmong gpos ps.toList with
  | none =>
    refine wpAny_genexprCodeX hcode (cd.code hPs tr) (cd.tab hPs) hf fun c' h' tk hx hge hlt hco' _ htab' _ => ?_
    obtain ⟨o1, vs, f1, tf, fl, tg', inF, tx, t2, op, _, _, _, _, _, _, _, _, _, htr, _⟩ := hco'
    exact cont _ h' tk _ hx (Nat.le_trans hge (Nat.le_of_lt hlt)) htab'.2 ⟨_, rfl⟩ htr
  | some cv =>
    refine wpAny_genexprCode_hit hcode (cd.code hPs tr) hf ?_
    exact cont cv s2.heap s2.toks ps (Heap.ExtBut.refl _ _) (Nat.le_refl _) hPs ⟨#[], by simp⟩ tr
end


section
open PySem.Spec PyProof.Rows GenW GxR
variable {X : Cx}
theorem pe_anyX {c P : Addr} {elt iter tg : Expr} {ifs : List Expr} {p pos gpos : Pos} {scope : Scope} {N : List Str} {js : List (Option Nat)} {wi : TI} {g : TG} {tt : TT} {te : TE} {k : Nat} (hr : Room (k + 1) X.A) (hcal : X.calm = true) (hgl : Gl X "any") (hmg : X.mg "any" = none) (TB : TabB X.base X.mg c P) (hcode : X.env.code = .ref c) (S : GxS X.env scope)
    (hcap : ∀ σ : L2.St, CapOk X scope N σ (capSt js σ)) (hi : PI X tg iter wi) (hg : ∀ code s H ex pn, PG (gxOf X N scope code s H ex pn) tg g) (ht : ∀ code s H ex pn, PTs (gxOf X N scope code s H ex pn) ifs tt) (he : ∀ code s H ex pn, PE (gxOf X N scope code s H ex pn) elt te) (hs : ∀ v, genFold iter X.env v = pure v)
    (hst : starEach [.GeneratorExp elt [⟨tg, iter, ifs, 0⟩] scope gpos] X.env = (false, eval (.GeneratorExp elt [⟨tg, iter, ifs, 0⟩] scope gpos) X.env) :: starEach [] X.env := by rfl) :
    PE X (.Call (.Name "any" p) [.GeneratorExp elt [⟨tg, iter, ifs, 0⟩] scope gpos] [] pos) (tGx P js wi g tt te true) := by
  refine ⟨fun pins s σ H Q I h => ?_⟩
  refine wpAny_Call_Name_kw (ld_blt I hgl hmg boot_any ?_)
  refine PyProof.Rows.callWith_builtin1 ?_ hst (by rfl)
  rw [hst]
  show wpAny _ _ (spliced ((false, eval (.GeneratorExp elt [⟨tg, iter, ifs, 0⟩] scope gpos) X.env) :: backTo pos (starEach [] X.env))) _ _ s
  refine Calls.spliced_cons (gx_made hr hcal TB hcode S hcap hi hg ht he hs I h fun a s5 hG => Calls.spliced_nil ?_)
  obtain ⟨Y, gg, n, hp, hw, hgen, back, hg5, hl5, hgs⟩ := hG
  refine call_function_tree PySem.F.kind_any PySem.F.plain_any PySem.F.entry_any (PySem.F.args_any1 _) ?_
  unfold Builtin.«any»
  refine wpAny_bind (m := oneArg "any" _) (wpAny_pure ?_)
  refine wpAny_bind (wpAny_pyIter_gen hg5 (wpAny_pure ⟨plainId_quiet PySem.F.plain_any_loop _, ?_⟩))
  refine gx_any (Y := Y) ⟨hp, hw⟩ (hr.mono (by omega)) hgen (fun s1 s' τ H' J qs eo eb kk _ => ?_) (fun s1 s' τ H' J qe eo eb kk _ => ?_) rfl n s5 hg5 hl5 hgs
  · exact ⟨.bl true, H', back J eo eb kk, rfl, qs⟩
  · exact ⟨.bl false, H', back J eo eb kk, rfl, qe⟩
theorem pe_allX {c P : Addr} {elt iter tg : Expr} {ifs : List Expr} {p pos gpos : Pos} {scope : Scope} {N : List Str} {js : List (Option Nat)} {wi : TI} {g : TG} {tt : TT} {te : TE} {k : Nat} (hr : Room (k + 1) X.A) (hcal : X.calm = true) (hgl : Gl X "all") (hmg : X.mg "all" = none) (TB : TabB X.base X.mg c P) (hcode : X.env.code = .ref c) (S : GxS X.env scope)
    (hcap : ∀ σ : L2.St, CapOk X scope N σ (capSt js σ)) (hi : PI X tg iter wi) (hg : ∀ code s H ex pn, PG (gxOf X N scope code s H ex pn) tg g) (ht : ∀ code s H ex pn, PTs (gxOf X N scope code s H ex pn) ifs tt) (he : ∀ code s H ex pn, PE (gxOf X N scope code s H ex pn) elt te) (hs : ∀ v, genFold iter X.env v = pure v)
    (hbt : bootBuiltins "all" = some (.builtin "all")) (hst : starEach [.GeneratorExp elt [⟨tg, iter, ifs, 0⟩] scope gpos] X.env = (false, eval (.GeneratorExp elt [⟨tg, iter, ifs, 0⟩] scope gpos) X.env) :: starEach [] X.env := by rfl) :
    PE X (.Call (.Name "all" p) [.GeneratorExp elt [⟨tg, iter, ifs, 0⟩] scope gpos] [] pos) (tGx P js wi g tt te false) := by
  refine ⟨fun pins s σ H Q I h => ?_⟩
  refine wpAny_Call_Name_kw (ld_blt I hgl hmg hbt ?_)
  refine PyProof.Rows.callWith_builtin1 ?_ hst (by rfl)
  rw [hst]
  show wpAny _ _ (spliced ((false, eval (.GeneratorExp elt [⟨tg, iter, ifs, 0⟩] scope gpos) X.env) :: backTo pos (starEach [] X.env))) _ _ s
  refine Calls.spliced_cons (gx_made hr hcal TB hcode S hcap hi hg ht he hs I h fun a s5 hG => Calls.spliced_nil ?_)
  obtain ⟨Y, gg, n, hp, hw, hgen, back, hg5, hl5, hgs⟩ := hG
  refine call_function_tree PySem.F.kind_all PySem.F.plain_all PySem.F.entry_all (PySem.F.args_all1 _) ?_
  unfold Builtin.«all»
  refine wpAny_bind (m := oneArg "all" _) (wpAny_pure ?_)
  refine wpAny_bind (wpAny_pyIter_gen hg5 (wpAny_pure ⟨plainId_quiet PySem.F.plain_all_loop _, ?_⟩))
  refine gx_all (Y := Y) ⟨hp, hw⟩ (hr.mono (by omega)) hgen (fun s1 s' τ H' J qs eo eb kk _ => ?_) (fun s1 s' τ H' J qe eo eb kk _ => ?_) rfl n s5 hg5 hl5 hgs
  · exact ⟨.bl false, H', back J eo eb kk, rfl, qs⟩
  · exact ⟨.bl true, H', back J eo eb kk, rfl, qe⟩
end


section
open PySem.Spec PyProof.Rows GenW GxR
def gxNames (d : Scope) (dN : List Str) (sc : Scope) (N : List Str) (js : List (Option Nat)) : Bool := (N.zip js).all fun p => match p.2 with
  | none => true
  | some j => decide (sc.names.lookup p.1 = some .free) && decide (d.names.lookup p.1 = some .cell) && decide (dN[j]? = some p.1)
theorem capOk_by {X : Cx} {sc d : Scope} {N dN : List Str} {js : List (Option Nat)} (e1 : X.env.scope = d) (e2 : X.N = dN) (hl : js.length = N.length) (h : gxNames d dN sc N js = true) : ∀ σ : L2.St, CapOk X sc N σ (capSt js σ) := by
  intro σ
  refine ⟨by unfold capSt; rw [List.length_map]; exact hl, fun i y v h1 h2 => ?_⟩
  unfold capSt at h2
  rw [List.getElem?_map] at h2
  obtain ⟨o, ho, hv⟩ := Option.map_eq_some_iff.mp h2
  cases o with
  | none => cases hv
  | some j =>
    have hv2 : (σ[j]?).getD none = some v := hv
    have hm : (y, some j) ∈ N.zip js := by
      refine List.mem_iff_getElem?.mpr ⟨i, ?_⟩
      rw [List.getElem?_zip_eq_some]
      exact ⟨h1, ho⟩
    have q := List.all_eq_true.mp h _ hm
    simp only [Bool.and_eq_true, decide_eq_true_eq] at q
    obtain ⟨⟨q1, q2⟩, q3⟩ := q
    have kd : X.env.scope.names.lookup y = some .cell := by rw [e1]; exact q2
    refine ⟨q1, .inl kd, .inr (.inl kd), j, by rw [e2]; exact q3, ?_⟩
    cases hs : σ[j]? with
    | none => rw [hs] at hv2; cases hv2
    | some u =>
      rw [hs] at hv2
      have : u = some v := hv2
      rw [this]
def gxLook (d sc : Scope) : Bool := decide (sc.kind = .function) && !sc.isCoroutine && sc.names.all (fun y => !decide (y.2 = .cell)) && decide (sc.names.lookup (".0" : Str) = some NameKind.local) && sc.names.all (fun y => !decide (y.2 = .free) || decide (d.names.lookup y.1 = some .cell))
theorem gxS_by {env : Env} {sc d : Scope} {n : Nat} (e1 : env.cells = cellsFrom n d.names []) (h : gxLook d sc = true) : GxS env sc := by
  unfold gxLook at h
  simp only [Bool.and_eq_true, Bool.not_eq_true', decide_eq_true_eq, List.all_eq_true, decide_eq_false_iff_not, Bool.or_eq_true] at h
  obtain ⟨⟨⟨⟨h1, h2⟩, h3⟩, h4⟩, h5⟩ := h
  refine ⟨h1, h2, h3, h4, fun y hy hf => ?_⟩
  rw [e1]
  rcases h5 y hy with z | z
  · exact absurd hf z
  · exact cell_has z
theorem room_gx {k : Nat} {A : Around} {e : Env} (r : Room (k + 3) A) : Room k (A.in1.in1.deeper e) := r.in1.in1.deeper e
/-- the generator's turns over a walk -/
theorem gx_it {J : It} {n : Nat} {G : Hp → Prop} {Y : Nat → Hp → V → Hp → Prop} (w : Walk J n G Y) {g : TG} {tt : TT} {te : TE} {τ : L2.St} {H1 : Hp} {stop : Bool} {Qs Qe : Hp → Prop} (Pv : Nat → L2.St → Hp → Prop) (h0 : Pv 0 τ H1) (hG : ∀ i τ H, i ≤ n → Pv i τ H → G H)
    (hs : ∀ i x τ H H', i < n → Pv i τ H → Y i H x H' → g x τ H' fun τ2 H2 => tt τ2 H2 fun b H3 => if b = true then te τ2 H3 fun y H4 => ∃ c, y = .bl c ∧ if c = stop then Qs H4 else Pv (i + 1) τ2 H4 else Pv (i + 1) τ2 H3) (hd : ∀ τ H, Pv n τ H → Qe H) :
    ∃ W : Nat → Nat → L2.St → Hp → Prop, (∃ m, W 0 m τ H1) ∧ tGxW J g tt te stop Qs Qe W := by
  refine ⟨fun i m τ H => m = n - i ∧ i ≤ n ∧ Pv i τ H, ⟨n, by simp, Nat.zero_le _, h0⟩, ?_⟩
  rintro i m τ H ⟨rfl, hi, p⟩
  have q := hG i τ H hi p
  by_cases hlt : i < n
  · exact .inr ⟨w.goes i H hlt q, Pv (i + 1), fun τ' H' p' => ⟨n - (i + 1), by omega, rfl, hlt, p'⟩, fun x H' y => hs i x τ H H' hlt p (w.yields i H x H' hlt q y)⟩
  · have e : i = n := by omega
    subst e
    exact .inl ⟨w.stops H q, hd τ H p⟩
end
section
open PySem.Spec PyProof.Rows
variable {P : Program} {w : World} {K : PySem.W.Frag} {mg : Str → Option Value} {base : Heap}
/-- a def whose code object is known by its place -/
theorem fun_okC {x qual : Str} {st : Stmt} {f c : Addr} {fd : FuncData} {N ps : List Str} {k : Nat} {sp : Sp} (F : Fun K x qual st f fd) (hc : fd.code = .ref c) (S : FnScope N ps (defScope st)) (len : ∀ vs H Q E, sp vs H Q E → vs.length = ps.length)
    (hbody : ∀ (A : Around) (outer : List Env) (s : Shared) (H : Hp) (vs : List V) (Q : VK) (E : XK), Room k (A.deeper (envOfC qual (defScope st) s.heap.objs.size f (.ref c))) → sp vs H Q E →
      ∃ t, PSs (cxOf CX0 P w K mg base N qual (defScope st) f (.ref c) A outer s H E).nox (defBody st) t ∧ t { nx := fun _ H' => Q .non H', rt := Q } (start N vs) H) : FnOk P w K mg base CX0 (k + 1) f fd ps sp := by
  obtain ⟨oc, od, kV, doc, pm, an, cdv, ct, osl, rfl, lk, hcd⟩ := F.ex
  have e : cdv = .ref c := hc
  subst e
  refine fn_of lk hcd S len fun A outer s H vs Q E hr hsp => ?_
  obtain ⟨t, h, q⟩ := hbody A outer s H vs Q E hr hsp
  exact ⟨t, h.nox, q⟩
end


/-! ### several tables of code objects: (P, none) of generators, (P, name) of lambdas -/
theorem fa_nil {α : Type} {M : α → Prop} : ∀ p ∈ ([] : List α), M p := fun p hp => nomatch hp
theorem fa_cons {α : Type} {M : α → Prop} {a : α} {l : List α} (h : M a) (t : ∀ p ∈ l, M p) : ∀ p ∈ a :: l, M p := fun p hp => by
  rcases List.mem_cons.mp hp with rfl | hp
  · exact h
  · exact t p hp
/-- the def's code object has its table at P -/
def TbF (base : Heap) (mg : Str → Option Value) (fd : FuncData) (P : Addr) : Prop := ∃ c, fd.code = .ref c ∧ LamX.TabB base mg c P
theorem tabB_of {base : Heap} {mg : Str → Option Value} {c P : Addr} (t : LamX.TabB base mg c P) : GxR.TabB base mg c P := ⟨t.code, t.bm, t.gP⟩
abbrev Tbl2 := Addr × Option Str
section
open GxR
def TabX (H : Hp) (t : Tbl2) : Prop := match t.2 with
  | none => TabG H t.1
  | some q => LamX.TabS H t.1 q
theorem TabX.tbl {H : Hp} {t : Tbl2} (h : TabX H t) : ∃ ps, H t.1 = some (.tbl ps) := by
  obtain ⟨P, o⟩ := t
  cases o with
  | none => obtain ⟨ps, e, _⟩ := (show TabG H P from h); exact ⟨ps, e⟩
  | some q => obtain ⟨ps, e, _⟩ := (show LamX.TabS H P q from h); exact ⟨ps, e⟩
/-- what is tracked away from the address P stands -/
theorem TabX.but {H H1 : Hp} {t : Tbl2} {P : Addr} (h : TabX H t) (hn : t.1 ≠ P) (k : ∀ b o, b ≠ P → H b = some o → H1 b = some o) (hP : ∀ c q, H P ≠ some (LamX.CodeO c q)) : TabX H1 t := by
  obtain ⟨R, o⟩ := t
  cases o with
  | none => obtain ⟨ps, e, z⟩ := (show TabG H R from h); exact (⟨ps, k _ _ hn e, z⟩ : TabG H1 R)
  | some q =>
    obtain ⟨ps, e, z, y⟩ := (show LamX.TabS H R q from h)
    refine (⟨ps, k _ _ hn e, z, fun pos cv hc => ?_⟩ : LamX.TabS H1 R q)
    obtain ⟨c, e1, e2⟩ := y pos cv hc
    exact ⟨c, e1, k _ _ (fun n => hP c q (by rw [← n]; exact e2)) e2⟩
theorem TabX.same {H H1 : Hp} {t : Tbl2} (h : TabX H t) (s : Same H H1) : TabX H1 t := by
  obtain ⟨R, o⟩ := t
  cases o with
  | none => obtain ⟨ps, e, z⟩ := (show TabG H R from h); exact (⟨ps, s _ _ e, z⟩ : TabG H1 R)
  | some q => exact LamX.TabS.ext (show LamX.TabS H R q from h) s
def TabsG (H : Hp) (Ps : List Tbl2) : Prop := (Ps.map (·.1)).Nodup ∧ ∀ t ∈ Ps, TabX H t
def noT (Ps : List Tbl2) (c : Addr) : Prop := ∀ t ∈ Ps, t.1 ≠ c
/-- all but the tables stand as before -/
def KT (Ps : List Tbl2) (H H' : Hp) : Prop := TabsG H' Ps ∧ ∀ c o, H c = some o → noT Ps c → H' c = some o
variable {Ps : List Tbl2} {P : Addr} {H H1 H2 : Hp}
theorem uniq_of : ∀ {Ps : List Tbl2}, (Ps.map (·.1)).Nodup → ∀ t ∈ Ps, ∀ u ∈ Ps, t.1 = u.1 → t = u
  | [], _, _, h, _, _, _ => nomatch h
  | a :: l, nd, t, ht, u, hu, e => by
    rw [List.map_cons, List.nodup_cons] at nd
    rcases List.mem_cons.mp ht with h1 | h1
    · rcases List.mem_cons.mp hu with h2 | h2
      · rw [h1, h2]
      · exact (nd.1 (List.mem_map.mpr ⟨u, h2, by rw [← e, h1]⟩)).elim
    · rcases List.mem_cons.mp hu with h2 | h2
      · exact (nd.1 (List.mem_map.mpr ⟨t, h1, by rw [e, h2]⟩)).elim
      · exact uniq_of nd.2 t h1 u h2 e
theorem TabsG.same (h : TabsG H Ps) (s : Same H H1) : TabsG H1 Ps := ⟨h.1, fun t ht => (h.2 t ht).same s⟩
theorem TabsG.kp {b : Addr} {xs : List V} (h : TabsG H Ps) (hb : H b = some (.lst xs)) (k : Kp b H H1) : TabsG H1 Ps := ⟨h.1, fun t ht => (h.2 t ht).but (P := b) (fun z => by
  obtain ⟨ps, e⟩ := (h.2 t ht).tbl
  rw [z, hb] at e
  cases e) (fun c o n e => k c o e n) (fun c q e => by rw [hb] at e; exact nomatch e)⟩
theorem TabsG.box {b p : Addr} (h : TabsG H Ps) (B : BoxAt H b p) (k : Kp b H H1) : TabsG H1 Ps := by
  obtain ⟨ns, n, h1, h2⟩ := B
  exact h.kp h1 k
theorem TabsG.no {o : HO} {c : Addr} (h : TabsG H Ps) (hc : H c = some o) (hn : ∀ ps, o ≠ .tbl ps) : noT Ps c := fun t ht z => by
  obtain ⟨ps, e⟩ := (h.2 t ht).tbl
  rw [z, hc] at e
  exact hn ps (Option.some.inj e)
theorem KT.refl (h : TabsG H Ps) : KT Ps H H := ⟨h, fun _ _ e _ => e⟩
theorem KT.trans (a : KT Ps H H1) (b : KT Ps H1 H2) : KT Ps H H2 := ⟨b.1, fun c o h n => b.2 c o (a.2 c o h n) n⟩
theorem KT.same (a : KT Ps H H1) (s : Same H1 H2) : KT Ps H H2 := ⟨a.1.same s, fun c o h n => s _ _ (a.2 c o h n)⟩
theorem KT.of (h : TabsG H Ps) (s : Same H H1) : KT Ps H H1 := (KT.refl h).same s
/-- a table is written -/
theorem KT.wrote {o : Option Str} (h : TabsG H Ps) (hP : (P, o) ∈ Ps) (t : TabX H1 (P, o)) (k : ∀ b u, b ≠ P → H b = some u → H1 b = some u) : KT Ps H H1 := by
  refine ⟨⟨h.1, fun u hu => ?_⟩, fun c u e n => k c u (fun z => n _ hP z.symm) e⟩
  by_cases e : u.1 = P
  · rw [uniq_of h.1 u hu (P, o) hP e]; exact t
  · refine (h.2 u hu).but e k fun c q z => ?_
    obtain ⟨ps, e2⟩ := (h.2 _ hP).tbl
    rw [show H P = some (.tbl ps) from e2] at z
    exact LamX.codeO_ne ps (Option.some.inj z).symm
theorem KT.tabbed (h : TabsG H Ps) (hP : (P, none) ∈ Ps) (t : Tabbed P H H1) : KT Ps H H1 := KT.wrote h hP (show TabG H1 P from t.1) fun b u n e => by rw [t.2 b n]; exact e
theorem KT.at_ (a : KT Ps H H1) (h : TabsG H Ps) {c : Addr} {o : HO} (e : H c = some o) (n : ∀ ps, o ≠ .tbl ps) : H1 c = some o := a.2 c o e (h.no e n)
theorem KT.tk (a : KT Ps H H1) (h : TabsG H Ps) : TK H H1 := by
  intro c u hu r
  obtain ⟨ys, rfl⟩ := hu
  rcases r with r | ⟨o, r⟩
  · exact .inl (a.at_ h r fun ps z => nomatch z)
  · exact .inr ⟨o, a.at_ h r fun ps z => nomatch z⟩
theorem KT.lst (a : KT Ps H H1) (h : TabsG H Ps) {c : Addr} {xs : List V} (e : H c = some (.lst xs)) : H1 c = some (.lst xs) := a.at_ h e fun ps z => nomatch z
theorem KT.seqL {K : PySem.W.Frag} (a : KT Ps H H1) (h : TabsG H Ps) {c : Addr} {xs : List V} (e : SqL K H c xs) : SqL K H1 c xs := by
  rcases e with (e | ⟨o, e⟩) | e
  · exact .inl (.inl (a.lst h e))
  · exact .inl (.inr ⟨o, a.at_ h e fun ps z => nomatch z⟩)
  · exact .inr e
theorem KT.box {b p : Addr} (a : KT Ps H H1) (h : TabsG H Ps) (B : BoxAt H b p) : BoxAt H1 b p := by
  obtain ⟨ns, n, h1, h2⟩ := B
  exact ⟨ns, n, a.lst h h1, a.lst h h2⟩
theorem KT.lat {K : PySem.W.Frag} {d : Addr} {ds : List PyData} (a : KT Ps H H1) (h : TabsG H Ps) (L : LAt K H d ds) : LAt K H1 d ds := L.tk (a.tk h) fun o e => by
  obtain ⟨vs, e1, _⟩ := L
  rw [e1] at e
  have e := Option.some.inj e
  subst e
  exact a.lst h e1
theorem tab_of (h : TabsG H Ps) (m : (P, none) ∈ Ps) : TabG H P := h.2 _ m
theorem tabS_of {q : Str} (h : TabsG H Ps) (m : (P, some q) ∈ Ps) : LamX.TabS H P q := h.2 _ m
/-- at the start all tables are empty -/
theorem TabsG.start (hn : (Ps.map (·.1)).Nodup) (h : ∀ P ∈ Ps.map (·.1), H P = some (.tbl #[])) : TabsG H Ps := ⟨hn, fun t ht => by
  have e := h t.1 (List.mem_map.mpr ⟨t, ht, rfl⟩)
  obtain ⟨R, o⟩ := t
  cases o with
  | none => exact (⟨#[], e, trivial⟩ : TabG H R)
  | some q => exact (LamX.TabS.nil e : LamX.TabS H R q)⟩
end
def ySpLawT (K : PySem.W.Frag) (As : List Addr) : Sp := fun vs H Q E => As.Nodup ∧ (∀ P ∈ As, H P = some (.tbl #[])) ∧ ySpLaw K vs H Q E


/-! ### a lambda with parameters and captured names, handed to a def that calls it -/
section
open PySem.Spec PyProof.Rows NdefX LamX
/-- the lambda's words -/
abbrev lamF (q : Str) (params : Arguments) (scope : Scope) (cl : List (Str × Addr)) (c' : Addr) : NF := ⟨"<lambda>", q, params, [], scope, cl, c'⟩
/-- the base holds the lambda at f, and the cells that it captured: fr, with the values ws -/
structure LamAt (base : Heap) (q : Str) (params : Arguments) (body : Expr) (scope : Scope) (f c' : Addr) (cl : List (Str × Addr)) (fr : List Str) (ws : List V) : Prop where
  obj : ∃ pm ctv, base.get? f = some (PySem.W.kla_obj "<lambda>" q params body scope cl pm c' ctv)
  len : ws.length = fr.length
  all : ∀ y c, cl.lookup y = some c → ∃ v, base.IsCell c v
  inj : ∀ x y c, cl.lookup x = some c → cl.lookup y = some c → x = y
  has : ∀ (i : Nat) (y : Str), fr[i]? = some y → ∃ c, cl.lookup y = some c ∧ ∀ v, ws[i]? = some v → ∃ u, L2.RelV v u ∧ base.IsCell c (some u)
/-- the function at f, called with one value, promises sp -/
structure LamOk (P : Program) (w : World) (K : PySem.W.Frag) (mg : Str → Option Value) (base : Heap) (j : Nat) (f : Addr) (sp : V → Hp → VK → Prop) : Prop where
  fn : ∃ oc od fd sl, base.get? f = some ⟨oc, od, .func fd, sl⟩
  run : ∀ (A : Around) (outer : List Env) (s : Shared) (H : Hp) (u : Value) (v : V) (Q : VK), Room j A → Env0 P w K mg base A outer s H → L2.RelV v u → sp v H Q → codeAny (model P w) A (.call (.ref f) ⟨[u], []⟩) (CR CX0 outer P w H s Q E0) s
theorem IsCell.up {h h' : Heap} {c : Addr} {v : Option Value} (z : h.IsCell c v) (k : ∀ b o, h.get? b = some o → h'.get? b = some o) : h'.IsCell c v := by
  obtain ⟨o, ho, hd⟩ := z
  exact ⟨o, k _ _ ho, hd⟩
theorem LamAt.cells {base : Heap} {q : Str} {params : Arguments} {body : Expr} {scope : Scope} {f c' : Addr} {cl : List (Str × Addr)} {fr : List Str} {ws : List V} (L : LamAt base q params body scope f c' cl fr ws) {h : Heap} {H : Hp} (k : ∀ b o, base.get? b = some o → h.get? b = some o ∧ H b = none) : CellsAt cl fr (ws.map some) h H := by
  refine ⟨by rw [List.length_map]; exact L.len, fun y c e => ?_, L.inj, fun i y e => ?_⟩
  · obtain ⟨v, z⟩ := L.all y c e
    have z2 := z
    obtain ⟨o, ho, _⟩ := z2
    exact ⟨(k c o ho).2, v, IsCell.up z fun b o e => (k b o e).1⟩
  · obtain ⟨c, hc, hv⟩ := L.has i y e
    refine ⟨c, hc, fun v ev => ?_⟩
    rw [List.getElem?_map] at ev
    obtain ⟨v2, e2, e3⟩ := Option.map_eq_some_iff.mp ev
    obtain ⟨u, r, z⟩ := hv v2 e2
    rw [← Option.some.inj e3]
    exact ⟨u, r, IsCell.up z fun b o e => (k b o e).1⟩
/-- the lambda by its body -/
theorem lam_ok {P : Program} {w : World} {K : PySem.W.Frag} {mg : Str → Option Value} {base : Heap} {q : Str} {params : Arguments} {body : Expr} {scope : Scope} {f c' : Addr} {cl : List (Str × Addr)} {fr N : List Str} {ws : List V} {x : Str} {j : Nat} {sp : V → Hp → VK → Prop}
    (L : LamAt base q params body scope f c' cl fr ws) (S : NScope N [x] fr scope) (hb : ∀ (pm cv ctv : Value) (u : Value), bindArgs (PySem.W.kla_fn "<lambda>" q params body scope cl pm cv ctv) ⟨[u], []⟩ = pure [(x, u)])
    (hcode : ∀ v H Q, sp v H Q → H c' = some (CodeO c' q))
    (hbody : ∀ (A : Around) (outer : List Env) (s : Shared) (H : Hp) (v : V) (Q : VK), Room j (A.deeper (envF (lamF q params scope cl c') f s.heap.objs.size)) → sp v H Q → ∃ t, PE (ncx CX0 P w K mg base N (lamF q params scope cl c') f A outer s H E0) body t ∧ t (startF N [v] (ws.map some)) H Q) :
    LamOk P w K mg base (j + 1) f sp := by
  obtain ⟨pm, ctv, hobj⟩ := L.obj
  refine ⟨⟨_, _, _, _, hobj⟩, fun A outer s H u v Q hr e0 r h => ?_⟩
  have C := L.cells e0.bs
  have lim : s.heap.NoLimit := e0.mod.nolimit.keeps fun b o e => (e0.bs b o e).1
  have hrec := codeO_at e0.hok (hcode v H Q h)
  refine PySem.W.kla_callFunE hr.depth (e0.bs _ _ hobj).1 rfl S.co S.gen rfl hrec ?_
  rw [hb]
  refine wpAny_pure (wpAny_newFunctionEnv S.nocell (fun ⟨n, v1⟩ hy => S.par n (by rw [List.mem_singleton] at hy ⊢; exact (Prod.mk.inj hy).1)) (fun g hns hsb => ⟨lim.fresh _ hsb, ?_⟩) S.kind)
  have up : ∀ b o, s.heap.get? b = some o → g.get? b = some o := fun b o e => hsb.extBut b o (Nat.ne_of_lt (Heap.lt_size e)) (Heap.get?_push_of_some _ e)
  have I := inv_startN (CX := CX0) (F := lamF q params scope cl c') (f := f) (E := E0) (tk := s.toks + ([(x, u)] : List (Str × Value)).length) S hr.hd e0 (vs := [v]) (us := [u]) rfl (.cons r .nil) C hns up
  obtain ⟨t, ht, hq⟩ := hbody A outer s H v Q (hr.deeper _) h
  refine PySem.W.kla_codeExpr (wpAny_mono (ht.run [] _ _ H Q I hq) (fun v2 s2 h2 => ?_) fun e2 s2 h2 => h2)
  obtain ⟨y, H2, J, ry, qy⟩ := h2
  exact ⟨y, H2, J.os, J.bare, J.base, J.hok, ry, qy⟩
/-- x(e), x a name that holds such a function -/
def tLamC (i : Nat) (f : Addr) (sp : V → Hp → VK → Prop) (te : TE) : TE := fun σ H Q => σ[i]? = some (some (.ref f)) ∧ te σ H fun v H1 => sp v H1 Q
theorem pe_lamC {X : Cx} {x : Str} {i j : Nat} {f : Addr} {sp : V → Hp → VK → Prop} {e : Expr} {te : TE} {p1 p2 : Pos} (L : LamOk X.prog X.w X.K X.mg X.base j f sp) (hr : Room j X.A) (hN : X.N[i]? = some x) (hv : Vis X.env.scope x) (he : PE X e te)
    (hd : (x == ("__debug__" : Str)) = false := by decide) (hcd : (x == ("__classdict__" : Str)) = false := by decide)
    (hs : starEach [e] X.env = (false, eval e X.env) :: starEach [] X.env := by rfl) : PE X (.Call (.Name x p1) [e] [] p2) (tLamC i f sp te) := by
  refine ⟨fun pins s σ H Q I ⟨h1, h2⟩ => ?_⟩
  refine wpAny_Call_Name_kw (thn ((pe_var (pos := p1) (i := i) hN hv hd hcd).run pins s σ H (fun v G => v = .ref f ∧ G = H) I ⟨.ref f, h1, rfl, rfl⟩) fun u1 s1 z1 => ?_)
  obtain ⟨v1, H1, I1, r1, e1, e2⟩ := z1
  subst e1
  subst e2
  cases (show u1 = Value.ref f from r1)
  have fnAt : ∀ {s3 : Shared} {H3 : Hp}, Inv X pins σ H3 s3 → PySem.W.FnAt f s3.heap := fun J => by
    obtain ⟨oc, od, fd, sl, hf⟩ := L.fn
    exact ⟨oc, od, fd, sl, J.bk _ _ hf⟩
  refine PySem.W.callWith_F (first := []) (fnAt I1) ?_ hs (by rfl)
  rw [hs]
  show wpAny _ _ (spliced ((false, eval e X.env) :: backTo p2 (starEach [] X.env))) _ _ _
  refine Calls.spliced_cons (thn (he.run pins s1 σ H1 _ I1 h2) fun u3 s3 z3 => Calls.spliced_nil ?_)
  obtain ⟨v3, H3, I3, r3, q3⟩ := z3
  refine ⟨fnAt I3, ?_⟩
  refine wpAny_call (codeAny_mono (L.run X.A X.stack s3 H3 u3 v3 Q hr I3.env0 r3 q3) fun r s4 h4 => ?_)
  cases r with
  | error e => exact h4.elim
  | ok fl =>
    cases fl with
    | ret u => exact I3.after h4
    | next => exact h4.elim
    | brk => exact h4.elim
    | cont => exact h4.elim
/-- all that stands untracked may be taken for the base -/
theorem funs_re {h base base' : Heap} : ∀ {l : List Env}, h.FunFrames base l → (∀ b ∈ frs l, base'.get? b = none) → h.FunFrames base' l
  | [], _, _ => trivial
  | env :: rest, z, hn => by
    obtain ⟨h1, ⟨L, o, h2, h3, h4, h5⟩, h6⟩ := z
    have e : frs (env :: rest) = L :: frs rest := by
      show (env :: rest).filterMap (·.frame) = L :: rest.filterMap (·.frame)
      rw [List.filterMap_cons, h2]
    rw [e] at hn
    exact ⟨h1, ⟨L, o, h2, hn L List.mem_cons_self, h4, h5⟩, funs_re h6 fun b hb => hn b (List.mem_cons_of_mem _ hb)⟩
theorem rebase {P : Program} {w : World} {K : PySem.W.Frag} {mg : Str → Option Value} {base : Heap} {A : Around} {outer : List Env} {s : Shared} {H : Hp} (e0 : Env0 P w K mg base A outer s H) :
    ∃ base', Env0 P w K mg base' A outer s H ∧ (∀ b o, base.get? b = some o → base'.get? b = some o) ∧ ∀ b o, s.heap.get? b = some o → H b = none → b ∉ frs outer → base'.get? b = some o := by
  classical
  obtain ⟨Hh, hHh⟩ : ∃ Hh : Hp, Hh = fun b => if b ∈ frs outer then some (.lst []) else H b := ⟨_, rfl⟩
  have n1 : ∀ b, b ∉ frs outer → Hh b = H b := fun b hb => by rw [hHh]; exact if_neg hb
  have n2 : ∀ b, Hh b = none → b ∉ frs outer ∧ H b = none := fun b e => by
    by_cases hb : b ∈ frs outer
    · rw [hHh] at e
      have e3 := (if_pos hb).symm.trans e
      exact nomatch e3
    · exact ⟨hb, (n1 b hb).symm.trans e⟩
  have get : ∀ b o, s.heap.get? b = some o → H b = none → b ∉ frs outer → (hidT s.heap Hh).get? b = some o := fun b o e n hb => hidT_get e (by rw [n1 b hb]; exact n)
  have sub : ∀ b o, base.get? b = some o → (hidT s.heap Hh).get? b = some o := fun b o e => get b o (e0.bs b o e).1 (e0.bs b o e).2 fun hb => by
    have := (e0.funs.mem hb).1
    rw [e] at this
    exact nomatch this
  refine ⟨hidT s.heap Hh, ⟨e0.frames, ⟨e0.mod.kin.keeps sub, e0.mod.glob.keeps sub, ?_, e0.mod.nolimit.keeps sub⟩, fun b o e => ?_, Nat.le_of_eq (hidT_size _ _), ?_, e0.frf, e0.hok, e0.bare⟩, sub, get⟩
  · obtain ⟨mb, h1, h2⟩ := e0.mod.blt
    exact ⟨mb, h1.keeps sub, h2⟩
  · have z := of_hidT e
    exact ⟨z.1, (n2 b z.2).2⟩
  · refine funs_re e0.funs fun b hb => ?_
    cases e : (hidT s.heap Hh).get? b with
    | none => rfl
    | some o => exact absurd hb (n2 b (of_hidT e).2).1
end


section
open PySem.Spec PyProof.Rows NdefX LamX
variable {X : Cx} {pins : List (Addr × Obj)} {σ : L2.St} {H : Hp} {s : Shared}
theorem kept_code {H H1 : Hp} {P : Addr} {ps : Array Value} (hP : H P = some (.tbl ps)) (k : ∀ b u, b ≠ P → H b = some u → H1 b = some u) {c : Addr} {q : Str} (e : H c = some (CodeO c q)) : H1 c = some (CodeO c q) :=
  k c _ (fun z => by rw [z, hP] at e; exact codeO_ne ps (Option.some.inj e).symm) e
/-- a lambda is made: its code object is new, or the table tells it -/
theorem lam_new {c P : Addr} {q : Str} {params : Arguments} {body : Expr} {scope : Scope} {pos : Pos} {FE : Value → Shared → Prop} {QQ : Value → Shared → Prop} (I : Inv X pins σ H s) (TB : LamX.TabB X.base X.mg c P) (hcode : X.env.code = .ref c) (hq : X.env.qual ++ "<lambda>" = q) (hT : TabS H P q) (hdef : defaultsOf params X.env = ([], []))
    (hfree : ∀ y ∈ scope.names, y.2 = .free → ∃ a, X.env.cells.lookup y.1 = some a)
    (fin : ∀ (f c' : Addr) (pm ctv : Value) (H1 : Hp) (s1 : Shared), Inv X pins σ H1 s1 → (∀ b u, b ≠ P → H b = some u → H1 b = some u) → TabS H1 P q → s1.heap.get? f = some (PySem.W.kla_obj "<lambda>" q params body scope (cloFrom X.env.cells scope.names []) pm c' ctv) → H1 f = none → f ∉ frs X.stack → H1 c' = some (CodeO c' q) → QQ (.ref f) s1) :
    wpAny (model X.prog X.w) X.A (eval (.Lambda params body scope pos) X.env) QQ FE s := by
  subst hq
  obtain ⟨ps, eP, tr, told⟩ := hT
  have heapP : s.heap.get? P = some { cls := .none, data := .fields ps } := I.hok P _ eP
  have off : ∀ f, s.heap.objs.size ≤ f → f ∉ frs X.stack := fun f ge z => by
    rcases List.mem_cons.mp (I.stkSub _ z) with z | z
    · exact absurd (Nat.lt_of_lt_of_le I.lt ge) (by rw [z]; exact Nat.lt_irrefl _)
    · exact I.nofs ge z
  refine PySem.W.kla_eval hdef ?_
  cases found : codeAmong pos ps.toList with
  | some cv =>
    obtain ⟨a, rfl, ea⟩ := told pos cv found
    refine PySem.W.kla_makeFunctionHit (c := c) (P := P) (ps := ps) (mg := X.mg) (closure_ok hfree) I.ok.glob (I.mod.glob.keeps I.bk) hcode (TB.code.keeps I.bk) heapP tr found (TB.bm.keeps I.bk) fun ctv g tk up sz => ?_
    have J : Inv X pins σ H { s with heap := g.push (PySem.W.kla_obj "<lambda>" (X.env.qual ++ "<lambda>") params body scope (cloFrom X.env.cells scope.names []) ((X.mg "__name__").getD .none) a ctv), toks := tk } := I.kept fun b u e => Heap.get?_push_of_some _ (up b u e)
    exact fin g.objs.size a _ ctv H _ J (fun b u _ e => e) ⟨ps, eP, tr, told⟩ (Heap.get?_push_size _ rfl) (I.hok.fresh sz) (off _ sz) ea
  | none =>
    refine PySem.W.kla_makeFunction (c := c) (P := P) (ps := ps) (mg := X.mg) (closure_ok hfree) I.ok.glob (I.mod.glob.keeps I.bk) hcode (TB.code.keeps I.bk) heapP tr found TB.gP (TB.bm.keeps I.bk) fun a ctv g tk up ge lt rec tab => ?_
    obtain ⟨a2, oc, vs, t, ea2, hoc, hd, hv⟩ := rec
    cases ea2
    have sz : s.heap.objs.size ≤ g.objs.size := Nat.le_trans ge (Nat.le_of_lt lt)
    have na : H a = none := I.hok.fresh ge
    have nPa : P ≠ a := ne_of_none eP na
    obtain ⟨more, hmore⟩ : ∃ more : Array Value, more = #[rawInt pos.line, rawInt pos.col, .ref a] := ⟨_, rfl⟩
    rw [← hmore] at tab
    have J := inv_table (t' := tk) (q := X.env.qual ++ "<lambda>") (more := more) (h' := g.push (PySem.W.kla_obj "<lambda>" (X.env.qual ++ "<lambda>") params body scope (cloFrom X.env.cells scope.names []) ((X.mg "__name__").getD .none) a ctv)) I eP
      (fun b u hb e => Heap.get?_push_of_some _ (up b u hb e)) (Heap.get?_push_of_some _ tab) ge ⟨oc, vs, t, Heap.get?_push_of_some _ hoc, hd, hv⟩
    have kp : ∀ b u, b ≠ P → H b = some u → upd (upd H P (.tbl (ps ++ more))) a (CodeO a (X.env.qual ++ "<lambda>")) b = some u := fun b u hb e => by
      rw [upd_ne (ne_of_none e na), upd_ne hb]; exact e
    have eL : (ps ++ more).toList = ps.toList ++ [rawInt pos.line, rawInt pos.col, .ref a] := by rw [hmore]; simp
    refine fin g.objs.size a _ ctv _ _ J kp ⟨ps ++ more, by rw [upd_ne nPa, upd_same], by rw [eL]; exact PySem.TriplesOk_snoc _ _ _ _ tr, fun p cv hcv => ?_⟩ (Heap.get?_push_size _ rfl) ?_ (off _ sz) upd_same
    · rw [eL] at hcv
      rcases among_app _ tr hcv with z | z
      · obtain ⟨b, e1, e2⟩ := told p cv z
        exact ⟨b, e1, kept_code eP kp e2⟩
      · exact ⟨a, z, upd_same⟩
    · have n2 : g.objs.size ≠ P := Nat.ne_of_gt (Nat.lt_of_lt_of_le (Heap.lt_size heapP) sz)
      rw [upd_ne (Nat.ne_of_gt lt), upd_ne n2]
      exact I.hok.fresh sz
/-- x(e, lambda ..): the def x is asked over a base that holds the lambda -/
def tMk (P : Addr) (q : Str) (js : List Nat) (sp : List V → Addr → Addr → Sp) (te : TE) : TE := fun σ H Q => te σ H fun v H1 => TabS H1 P q ∧ ∃ ws : List V, js.map (slotAt σ) = ws.map some ∧
  ∀ (f c' : Addr) (H2 : Hp), (∀ b u, b ≠ P → H1 b = some u → H2 b = some u) → TabS H2 P q → H2 c' = some (CodeO c' q) → sp ws f c' [v, .ref f] H2 Q E0
theorem pe_mk {x : Str} {g c P : Addr} {q : Str} {k : Nat} {fdg : FuncData} {a1 a2 : Str} {params : Arguments} {body : Expr} {scope : Scope} {fr : List Str} {js : List Nat} {sp : List V → Addr → Addr → Sp} {e : Expr} {te : TE} {p lpos pos : Pos}
    (F : ∀ (base' : Heap) (f c' : Addr) (cl : List (Str × Addr)) (ws : List V), (∀ b o, X.base.get? b = some o → base'.get? b = some o) → Mod X.K X.mg base' → LamAt base' q params body scope f c' cl fr ws → FnOk X.prog X.w X.K X.mg base' CX0 k g fdg [a1, a2] (sp ws f c'))
    (hr : Room k X.A) (hg : Gl X x) (hm : X.mg x = some (.ref g)) (hk : PySem.W.keepIn X.K (.ref g) = true) (hb : Binds X.K fdg [a1, a2] []) (TB : LamX.TabB X.base X.mg c P) (hcode : X.env.code = .ref c) (hq : X.env.qual ++ "<lambda>" = q) (hdef : defaultsOf params X.env = ([], []))
    (hfree : ∀ y ∈ scope.names, y.2 = .free → X.env.scope.names.lookup y.1 = some .cell ∨ X.env.scope.names.lookup y.1 = some .free) (hfr : ∀ y ∈ fr, (y, NameKind.free) ∈ scope.names) (hjs : js.map (fun j => X.N[j]?) = fr.map some) (hfn : ∀ y, X.fn y = true) (he : PE X e te)
    (hdb : (x == ("__debug__" : Str)) = false := by decide) (hst : starEach [e, .Lambda params body scope lpos] X.env = (false, eval e X.env) :: starEach [.Lambda params body scope lpos] X.env := by rfl) : PE X (.Call (.Name x p) [e, .Lambda params body scope lpos] [] pos) (tMk P q js sp te) := by
  refine ⟨fun pins s σ H Q I h => ?_⟩
  have free2 : ∀ y ∈ scope.names, y.2 = .free → ∃ a, X.env.cells.lookup y.1 = some a := fun y hy z => (hfree y hy z).elim (fun t => I.ok.has _ (.inl t)) fun t => I.ok.has _ (.inr t)
  refine wpAny_Call_Name_kw (ld_glob I hg hm ?_ hdb)
  refine PySem.W.callWith_K (h₀ := X.base) I.ok.mod.kin hk ?_ hst (by rfl)
  rw [hst]
  show wpAny _ _ (spliced ((false, eval e X.env) :: (false, eval (.Lambda params body scope lpos) X.env) :: backTo pos (starEach [] X.env))) _ _ s
  refine Calls.spliced_cons (thn (he.run pins s σ H _ I h) fun u1 s1 z1 => ?_)
  obtain ⟨v1, H1, I1, r1, hT, ws, ews, step⟩ := z1
  refine Calls.spliced_cons (lam_new I1 TB hcode hq hT hdef free2 fun f c' pm ctv H2 s2 I2 kp T2 hf nf off hc => Calls.spliced_nil ?_)
  refine ⟨I2.kIn, ?_⟩
  have C := cells_of I2 (Caps.made I2.ok hfree hfr hjs)
  have offc : ∀ y a, (cloFrom X.env.cells scope.names []).lookup y = some a → a ∉ frs X.stack := fun y a e z => by
    have e2 := clo_cm free2 e
    rcases List.mem_cons.mp (I2.stkSub _ z) with z | z
    · obtain ⟨o, ho, hd⟩ := ((C.all y a e).2).choose_spec
      obtain ⟨m, ⟨o2, es, ep, ho2, hd2, _⟩, _⟩ := I2.loc
      rw [z, ho2] at ho
      have e3 := Option.some.inj ho
      rw [← e3, hd2] at hd
      exact nomatch hd
    · have ge := I2.ok.cab y a (hfn y) e2
      obtain ⟨_, o, ho, _⟩ := I2.ok.funs.mem z
      exact absurd (Nat.lt_of_lt_of_le (Heap.lt_size ho) ge) (Nat.lt_irrefl _)
  obtain ⟨base', E1, sub, get⟩ := rebase I2.env0
  have cellB : ∀ y a v, (cloFrom X.env.cells scope.names []).lookup y = some a → s2.heap.IsCell a v → base'.IsCell a v := fun y a v e z => by
    obtain ⟨o, ho, hd⟩ := z
    exact ⟨o, get a o ho (C.all y a e).1 (offc y a e), hd⟩
  have L : LamAt base' q params body scope f c' (cloFrom X.env.cells scope.names []) fr ws := by
    refine ⟨⟨pm, ctv, get f _ hf nf off⟩, ?_, fun y a e => ?_, C.inj, fun i y ey => ?_⟩
    · have := C.len
      rw [ews, List.length_map] at this
      exact this
    · obtain ⟨v, z⟩ := (C.all y a e).2
      exact ⟨v, cellB y a v e z⟩
    · obtain ⟨a, ha, hv⟩ := C.has i y ey
      refine ⟨a, ha, fun v ev => ?_⟩
      obtain ⟨u, ru, z⟩ := hv v (by rw [ews, List.getElem?_map, ev]; rfl)
      exact ⟨u, ru, cellB y a _ ha z⟩
  have FF := F base' f c' _ ws sub E1.mod L
  have q2 := step f c' H2 kp T2 hc
  have rv : Vals [v1, V.ref f] [u1, Value.ref f] := .cons r1 (.cons rfl .nil)
  refine wpAny_call (codeAny_mono (FF.run X.A X.stack s2 H2 ⟨[u1, .ref f], []⟩ [u1, .ref f] [v1, .ref f] Q E0 hr E1 (hb s2 [u1, .ref f] I2.kIn rfl) rv q2) fun r s4 h4 => ?_)
  cases r with
  | error e => exact h4.elim
  | ok fl =>
    cases fl with
    | ret u => exact I2.after h4
    | next => exact h4.elim
    | brk => exact h4.elim
    | cont => exact h4.elim
end


theorem strF {A B : Prop} {a b : Str} (h : a ≠ b) (hb : B) : if decide (V.str a = V.str b) = true then A else B := by
  rw [if_neg fun c => h (V.str.inj (of_decide_eq_true c))]
  exact hb
theorem strT {A B : Prop} {a : Str} (ha : A) : if decide (V.str a = V.str a) = true then A else B := by
  rw [if_pos (decide_eq_true rfl)]
  exact ha
theorem dp_kind {K : PySem.W.Frag} {H : Hp} {v : V} {k : Str} {ds : List PyData} (h : Dp K H v (.tuple (.str k :: ds))) : ∃ a us, v = .ref a ∧ SqT K H a (.str k :: us) ∧ DpAll K H us ds := by
  obtain ⟨a, xs, rfl, h1, h2⟩ := Dp.tupI h
  obtain ⟨v, r, rfl, h3, h4⟩ := DpAll.consI h2
  rw [Dp.strI h3] at h1
  exact ⟨a, r, rfl, h1, h4⟩


/-! ### questions of a bounded depth -/
inductive Qd (α : Type) : Type
  | all : Qd α
  | row (ps : List Pat) (gap : Nat) : Qd α
  | neg (q : α) : Qd α
  | bin (o : Bool) (qs : List α) : Qd α
def Qn : Nat → Type
  | 0 => Empty
  | n + 1 => Qd (Qn n)
def encQ : ∀ n, Qn n → PyData
  | 0, q => nomatch (q : Empty)
  | n + 1, q => match (q : Qd (Qn n)) with
    | .all => .tuple [.str "all"]
    | .row ps gap => encRow ps gap
    | .neg q => .tuple [.str "not", encQ n q]
    | .bin o qs => .tuple [.str (if o = true then "or" else "and"), .tuple (qs.map (encQ n))]
def rowB (ws : List Str) (ps : List Pat) (gap : Nat) : Bool := (List.range ws.length).any fun j => beginsB ws ps gap [j]
def qB (ws : List Str) : ∀ n, Qn n → Bool
  | 0, q => nomatch (q : Empty)
  | n + 1, q => match (q : Qd (Qn n)) with
    | .all => true
    | .row ps gap => rowB ws ps gap
    | .neg q => !(qB ws n q)
    | .bin o qs => if o = true then qs.any (qB ws n) else qs.all (qB ws n)
def okQ : ∀ n, Qn n → Prop
  | 0, q => nomatch (q : Empty)
  | n + 1, q => match (q : Qd (Qn n)) with
    | .all => True
    | .row ps _ => 1 ≤ ps.length ∧ ps.length ≤ 6 ∧ ∀ t ∈ ps, t.2.length ≤ 20
    | .neg q => okQ n q
    | .bin _ qs => qs.length ≤ 100 ∧ ∀ q ∈ qs, okQ n q
theorem imm_encQ : ∀ n (q : Qn n), Imm (encQ n q)
  | 0, q => nomatch (q : Empty)
  | n + 1, q => match (q : Qd (Qn n)) with
    | .all => .tup fun d hd => by rw [List.mem_singleton.mp hd]; exact .str _
    | .row ps gap => imm_encRow ps gap
    | .neg q => .tup fun d hd => by
      rcases List.mem_cons.mp hd with rfl | hd
      · exact .str _
      · rw [List.mem_singleton.mp hd]; exact imm_encQ n q
    | .bin o qs => .tup fun d hd => by
      rcases List.mem_cons.mp hd with rfl | hd
      · exact .str _
      · rw [List.mem_singleton.mp hd]
        refine .tup fun x hx => ?_
        obtain ⟨y, _, rfl⟩ := List.mem_map.mp hx
        exact imm_encQ n y


/-! ### questions by what their rows are met -/
def qBy (rb : List Pat → Nat → Bool) : ∀ n, Qn n → Bool
  | 0, q => nomatch (q : Empty)
  | n + 1, q => match (q : Qd (Qn n)) with
    | .all => true
    | .row ps gap => rb ps gap
    | .neg q => !(qBy rb n q)
    | .bin o qs => if o = true then qs.any (qBy rb n) else qs.all (qBy rb n)
theorem qB_by (ws : List Str) : ∀ n (q : Qn n), qB ws n q = qBy (rowB ws) n q
  | 0, q => nomatch (q : Empty)
  | n + 1, q => match (q : Qd (Qn n)) with
    | .all => rfl
    | .row ps gap => rfl
    | .neg q => by
      show (!(qB ws n q)) = !(qBy (rowB ws) n q)
      rw [qB_by ws n q]
    | .bin o qs => by
      have e : qB ws n = qBy (rowB ws) n := funext (qB_by ws n)
      show (if o = true then qs.any (qB ws n) else qs.all (qB ws n)) = if o = true then qs.any (qBy (rowB ws) n) else qs.all (qBy (rowB ws) n)
      rw [e]
def okR (ps : List Pat) : Prop := 1 ≤ ps.length ∧ ps.length ≤ 6 ∧ ∀ t ∈ ps, t.2.length ≤ 20
/-- what the function that is handed over promises of a row -/
def spRow (K : PySem.W.Frag) (Ps : List Tbl2) (G : Hp → Prop) (rb : List Pat → Nat → Bool) : V → Hp → VK → Prop := fun v H Q => ∃ ps gap, Dp K H v (encRow ps gap) ∧ okR ps ∧ TabsG H Ps ∧ G H ∧ ∀ H', KT Ps H H' → Q (.bl (rb ps gap)) H'
def yHolds (K : PySem.W.Frag) (Ps : List Tbl2) (f : Addr) (G : Hp → Prop) (rb : List Pat → Nat → Bool) (n : Nat) : Sp := fun vs H Q _ => ∃ (vq : V) (q : Qn n), vs = [vq, .ref f] ∧ Dp K H vq (encQ n q) ∧ okQ n q ∧ TabsG H Ps ∧ G H ∧ ∀ H', KT Ps H H' → Q (.bl (qBy rb n q)) H'
def yHas (K : PySem.W.Frag) (Ps : List Tbl2) : Sp := fun vs H Q _ => ∃ (vd vr : V) (ws : List Str) (ps : List Pat) (gap : Nat), vs = [vd, vr] ∧ Dp K H vd (encD ws) ∧ Dp K H vr (encRow ps gap) ∧ okR ps ∧ TabsG H Ps ∧ ws.length ≤ 1000 ∧ ∀ H', KT Ps H H' → Q (.bl (rowB ws ps gap)) H'
def yMatch (K : PySem.W.Frag) (Ps : List Tbl2) (n : Nat) : Sp := fun vs H Q _ => ∃ (vd vq : V) (ws : List Str) (q : Qn n), vs = [vd, vq] ∧ Dp K H vd (encD ws) ∧ Dp K H vq (encQ n q) ∧ okQ n q ∧ TabsG H Ps ∧ ws.length ≤ 1000 ∧ ∀ H', KT Ps H H' → Q (.bl (qB ws n q)) H'
section
variable {P : Program} {w : World} {K : PySem.W.Frag} {mg : Str → Option Value} {base : Heap} {A : Nat → Addr} {D : Nat → FuncData}
theorem ok_has_standing (T : Txt K mg A D) {Ps : List Tbl2} {P1 : Addr} (TF : TbF base mg (D 3) P1) (hP : (P1, none) ∈ Ps) : FnOk P w K mg base CX0 6 (A 3) (D 3) ["document", "row"] (yHas K Ps) := by
  obtain ⟨cc, hc, TB0⟩ := TF
  have TB := tabB_of TB0
  have G_begins_standing := ok_begins_standing (P := P) (w := w) (base := base) T
  refine (fun_okC (k := 5) T.F_has_standing hc sc_has_standing (fun vs H Q E h => ?_) (fun A' outer s H vs Q E hr h => ?_) : FnOk P w K mg base CX0 6 _ _ _ _)
  · obtain ⟨vd, vr, ws, ps, gap, rfl, _⟩ := h; rfl
  obtain ⟨vd, vr, ws, ps, gap, rfl, hd, hq, ⟨ok1, ok2, ok3⟩, hT, hws, fin⟩ := h
  have hnd := sc_has_standing.nd
  refine ⟨_, (pss_one (ps_ret (pe_anyX (N := ["place", "document", "row"]) (js := [none, some 0, some 1]) hr rfl rfl T.z_any TB rfl (gxS_by (n := s.heap.objs.size + 1) (d := defScope s_has_standing) rfl (by decide +kernel)) (capOk_by (d := defScope s_has_standing) (dN := N_has_standing) rfl rfl rfl (by decide +kernel)) (pi_range1 rfl T.z_range (pa_cons (pe_callB call_len_seq rfl T.z_len PySem.boot_len (pa_cons (pv 0) pa_nil)) pa_nil)) (fun _ _ _ _ _ => (pg_name (i := 0) (show List.Nodup (["place", "document", "row"] : List Str) by decide) rfl (Or.inl rfl))) (fun _ _ _ _ _ => pts_nil) (fun _ _ _ _ _ => (pe_call G_begins_standing (room_gx (hr.mono (by first | decide | omega))) rfl T.m_begins_standing T.F_begins_standing.kp T.b_begins_standing .nil pass0 (pa_cons (pv 1) (pa_cons (pv 2) (pa_cons (pe_tup (pa_cons (pv 0) pa_nil)) pa_nil))))) (by intro _; rfl)))), ?_⟩
  obtain ⟨ad, rfl, had⟩ := dp_encD hd
  obtain ⟨ar, pa, pxs, rfl, har, hpa, hpx⟩ := dp_encRow hq
  have e0 : (((ws.map V.str).length : Nat) : Int).toNat = ws.length := by rw [List.length_map]; omega
  refine ⟨_, rfl, ad, _, rfl, .inr had, _, rfl, (by rw [List.length_map]; omega), (by rw [List.length_map]; omega), tab_of hT hP, fun H2 t2 => ?_⟩
  have k2 := KT.tabbed hT hP t2
  rw [e0]
  refine gx_it (walk_range (n := ws.length)) (fun i τ H' => KT Ps H H' ∧ (∃ c0, τ = [c0, some (.ref ad), some (.ref ar)]) ∧ ∀ j, j < i → beginsB ws ps gap [j] = false) ⟨k2, ⟨_, rfl⟩, fun j hj => absurd hj (Nat.not_lt_zero j)⟩ (fun _ _ _ _ _ => trivial) ?_ ?_
  · rintro i x τ H3 H4 hi ⟨k3, ⟨c0, rfl⟩, no⟩ ⟨rfl, rfl⟩
    have tk := k3.tk hT
    refine ⟨_, rfl, _, rfl, _, rfl, (by show 1 ≤ sizeLine; decide), fun q2 hq2 => ?_⟩
    have s2 := same_new (o := .tup [.int (0 + (i : Int))]) hq2
    refine ⟨.ref ad, .ref ar, .ref q2, ws, ps, gap, [i], rfl, Dp.same s2 (Dp.keep tk hd (imm_encD ws)), Dp.same s2 (Dp.keep tk hq (imm_encRow ps gap)), mk_encW (SqT.of ?_), List.cons_ne_nil _ _, ok1, ?_, fun H5 s5 => ⟨_, rfl, ?_⟩⟩
    · show upd H4 q2 (HO.tup [V.int (0 + (i : Int))]) q2 = some (HO.tup [V.int (i : Int)])
      rw [Int.zero_add]; exact upd_same
    · show i < min (i + ps.length + gap) ws.length
      omega
    · have k5 := k3.same (s2.trans s5)
      cases hb : beginsB ws ps gap [i] with
      | true =>
        rw [if_pos rfl]
        have e : rowB ws ps gap = true := List.any_eq_true.mpr ⟨i, List.mem_range.mpr hi, hb⟩
        rw [e] at fin
        exact fin H5 k5
      | false =>
        rw [if_neg Bool.false_ne_true]
        refine ⟨k5, ⟨_, rfl⟩, fun j hj => ?_⟩
        by_cases ej : j = i
        · rw [ej]; exact hb
        · exact no j (by omega)
  · rintro τ H3 ⟨k3, _, no⟩
    have e : rowB ws ps gap = false := List.any_eq_false.mpr fun j hj => by rw [no j (List.mem_range.mp hj)]; exact Bool.false_ne_true
    rw [e] at fin
    exact fin H3 k3
theorem ok_holds (T : Txt K mg A D) {Ps : List Tbl2} {P1 : Addr} (TF : TbF base mg (D 2) P1) (hP : (P1, none) ∈ Ps) {f : Addr} {j : Nat} {G : Hp → Prop} {rb : List Pat → Nat → Bool} (hG : ∀ H H', G H → TabsG H Ps → KT Ps H H' → G H') (LM : LamOk P w K mg base j f (spRow K Ps G rb)) :
    ∀ n, FnOk P w K mg base CX0 (4 * n + j) (A 2) (D 2) ["question", "is_met"] (yHolds K Ps f G rb n)
  | 0 => by
    have no : ∀ vs H Q E, ¬ yHolds K Ps f G rb 0 vs H Q E := fun vs H Q E h => by
      obtain ⟨vq, q, _⟩ := h
      exact nomatch (q : Empty)
    exact ⟨fun vs H Q E h => absurd h (no vs H Q E), fun A outer s H args us vs Q E _ _ _ _ h => absurd h (no vs H Q E)⟩
  | n + 1 => by
    have G_holds : FnOk P w K mg base CX0 (4 * n + j) (A 2) (D 2) ["question", "is_met"] (yHolds K Ps f G rb n) := ok_holds T TF hP hG LM n
    obtain ⟨cc, hc, TB0⟩ := TF
    have TB := tabB_of TB0
    have lv : 4 * (n + 1) + j = 4 * n + j + 3 + 1 := by omega
    rw [lv]
    refine (fun_okC (k := 4 * n + j + 3) T.F_holds hc sc_holds (fun vs H Q E h => ?_) (fun A' outer s H vs Q E hr h => ?_) : FnOk P w K mg base CX0 (4 * n + j + 3 + 1) _ _ _ _)
    · obtain ⟨vq, q, rfl, _⟩ := h; rfl
    obtain ⟨vq, q, rfl, hq, ok, hT, hg, fin⟩ := h
    have hnd := sc_holds.nd
    refine ⟨_, (pss_cons (ps_set (i := 3) hnd rfl (Or.inl rfl) (pe_ix (r := rIxT K) ix_tup (pv 0) pe_int (fun _ _ => rfl))) (pss_cons (ps_if (pt_cmpR op_eq (pv 3) pe_str (nomark _)) (pss_one (ps_ret (pe_lamC (i := 1) (f := f) LM (hr.mono (by first | decide | omega)) rfl (by first | exact Or.inl rfl | exact Or.inr (Or.inl rfl)) (pv 0)))) pss_nil) (pss_cons (ps_if (pt_cmpR op_eq (pv 3) pe_str (nomark _)) (pss_one (ps_ret pe_bl)) pss_nil) (pss_cons (ps_if (pt_cmpR op_eq (pv 3) pe_str (nomark _)) (pss_one (ps_ret (pe_not (pe_call G_holds (hr.mono (by first | decide | omega)) rfl T.m_holds T.F_holds.kp T.b_holds .nil pass0 (pa_cons (pe_ix (r := rIxT K) ix_tup (pv 0) pe_int (fun _ _ => rfl)) (pa_cons (pv 1) pa_nil)))))) pss_nil) (pss_cons (ps_if (pt_cmpR op_eq (pv 3) pe_str (nomark _)) (pss_one (ps_ret (pe_allX (N := ["part", "is_met"]) (js := [none, some 1]) hr rfl rfl T.z_all TB rfl (gxS_by (n := s.heap.objs.size + 1) (d := defScope s_holds) rfl (by decide +kernel)) (capOk_by (d := defScope s_holds) (dN := N_holds) rfl rfl rfl (by decide +kernel)) (pi_tup (pe_ix (r := rIxT K) ix_tup (pv 0) pe_int (fun _ _ => rfl))) (fun _ _ _ _ _ => (pg_name (i := 0) (show List.Nodup (["part", "is_met"] : List Str) by decide) rfl (Or.inl rfl))) (fun _ _ _ _ _ => pts_nil) (fun _ _ _ _ _ => (pe_call G_holds (room_gx (hr.mono (by first | decide | omega))) rfl T.m_holds T.F_holds.kp T.b_holds .nil pass0 (pa_cons (pv 0) (pa_cons (pv 1) pa_nil)))) (by intro _; rfl) (by decide +kernel)))) pss_nil) (pss_one (ps_ret (pe_anyX (N := ["part", "is_met"]) (js := [none, some 1]) hr rfl rfl T.z_any TB rfl (gxS_by (n := s.heap.objs.size + 1) (d := defScope s_holds) rfl (by decide +kernel)) (capOk_by (d := defScope s_holds) (dN := N_holds) rfl rfl rfl (by decide +kernel)) (pi_tup (pe_ix (r := rIxT K) ix_tup (pv 0) pe_int (fun _ _ => rfl))) (fun _ _ _ _ _ => (pg_name (i := 0) (show List.Nodup (["part", "is_met"] : List Str) by decide) rfl (Or.inl rfl))) (fun _ _ _ _ _ => pts_nil) (fun _ _ _ _ _ => (pe_call G_holds (room_gx (hr.mono (by first | decide | omega))) rfl T.m_holds T.F_holds.kp T.b_holds .nil pass0 (pa_cons (pv 0) (pa_cons (pv 1) pa_nil)))) (by intro _; rfl))))))))), ?_⟩
    rcases q with _ | ⟨ps, gap⟩ | q | ⟨o, qs⟩
    · obtain ⟨aq, us, rfl, haq, hus⟩ := dp_kind (show Dp K H vq (.tuple [.str "all"]) from hq)
      refine ⟨_, rfl, aq, _, 0, _, rfl, rfl, haq, atI_nat (j := 0) rfl, ?_⟩
      refine ⟨_, rfl, rfl, _, rfl, strF (by decide) ?_⟩
      refine ⟨_, rfl, rfl, _, rfl, strT ?_⟩
      exact fin H (KT.refl hT)
    · obtain ⟨ar, pa, pxs, rfl, har, hpa, hpx⟩ := dp_encRow (show Dp K H vq (encRow ps gap) from hq)
      refine ⟨_, rfl, ar, _, 0, _, rfl, rfl, har, rfl, ?_⟩
      refine ⟨_, rfl, rfl, _, rfl, strT ?_⟩
      exact ⟨rfl, _, rfl, ps, gap, hq, ok, hT, hg, fin⟩
    · obtain ⟨aq, us, rfl, haq, hus⟩ := dp_kind (show Dp K H vq (.tuple [.str "not", encQ n q]) from hq)
      obtain ⟨v1, us2, rfl, hv1, hnil⟩ := DpAll.consI hus
      refine ⟨_, rfl, aq, _, 0, _, rfl, rfl, haq, atI_nat (j := 0) rfl, ?_⟩
      refine ⟨_, rfl, rfl, _, rfl, strF (by decide) ?_⟩
      refine ⟨_, rfl, rfl, _, rfl, strF (by decide) ?_⟩
      refine ⟨_, rfl, rfl, _, rfl, strT ?_⟩
      exact ⟨_, rfl, aq, _, 1, _, rfl, rfl, haq, atI_nat (j := 1) rfl, _, rfl, v1, q, rfl, hv1, ok, hT, hg, fun H' k' => ⟨_, rfl, fin H' k'⟩⟩
    · obtain ⟨aq, us, rfl, haq, hus⟩ := dp_kind (show Dp K H vq (.tuple [.str (if o = true then "or" else "and"), .tuple (qs.map (encQ n))]) from hq)
      obtain ⟨v1, us2, rfl, hv1, hnil⟩ := DpAll.consI hus
      obtain ⟨ap, xs, rfl, hap, hxs⟩ := Dp.tupI hv1
      have hl : xs.length = qs.length := by rw [DpAll.len hxs, List.length_map]
      have part : ∀ i (x : V) H3, KT Ps H H3 → xs[i]? = some x → ∃ q, qs[i]? = some q ∧ Dp K H3 x (encQ n q) ∧ okQ n q := fun i x H3 k3 hx => by
        have hi := (List.getElem?_eq_some_iff.mp hx).1
        rw [hl] at hi
        obtain ⟨v, hv, dv⟩ := DpAll.get hxs (i := i) (d := encQ n qs[i]) (by rw [List.getElem?_map, List.getElem?_eq_getElem hi]; rfl)
        have ev : x = v := Option.some.inj (hx.symm.trans hv)
        subst ev
        exact ⟨qs[i], List.getElem?_eq_getElem hi, Dp.keep (k3.tk hT) dv (imm_encQ n _), (show qs.length ≤ 100 ∧ ∀ q ∈ qs, okQ n q from ok).2 _ (List.getElem_mem hi)⟩
      refine ⟨_, rfl, aq, _, 0, _, rfl, rfl, haq, atI_nat (j := 0) rfl, ?_⟩
      cases o with
      | false =>
        refine ⟨_, rfl, rfl, _, rfl, strF (by decide) ?_⟩
        refine ⟨_, rfl, rfl, _, rfl, strF (by decide) ?_⟩
        refine ⟨_, rfl, rfl, _, rfl, strF (by decide) ?_⟩
        refine ⟨_, rfl, rfl, _, rfl, strT ?_⟩
        refine ⟨_, rfl, aq, _, 1, _, rfl, rfl, haq, atI_nat (j := 1) rfl, ap, rfl, ⟨xs, hap⟩, tab_of hT hP, fun H2 t2 => ?_⟩
        have k2 := KT.tabbed hT hP t2
        refine gx_it (walk_tup (xs := xs)) (fun i τ H' => KT Ps H H' ∧ (∃ c0, τ = [c0, some (.ref f)]) ∧ ∀ j y, j < i → qs[j]? = some y → qBy rb n y = true) ⟨k2, ⟨_, rfl⟩, fun j y hj => absurd hj (Nat.not_lt_zero j)⟩ (fun _ _ H' _ h => (h.1.tk hT).seq hap) ?_ ?_
        · rintro i x τ H3 H4 hi ⟨k3, ⟨c0, rfl⟩, no⟩ ⟨rfl, hx⟩
          obtain ⟨y, hy, dy, oky⟩ := part i x H4 k3 hx
          refine ⟨_, rfl, _, rfl, x, y, rfl, dy, oky, k3.1, hG _ _ hg hT k3, fun H5 k5 => ⟨_, rfl, ?_⟩⟩
          cases hb : qBy rb n y with
          | true =>
            rw [if_neg (fun z => Bool.false_ne_true z.symm)]
            refine ⟨k3.trans k5, ⟨_, rfl⟩, fun j z hj hz => ?_⟩
            by_cases ej : j = i
            · subst ej
              have ez : z = y := Option.some.inj (hz.symm.trans hy)
              rw [ez]; exact hb
            · exact no j z (by omega) hz
          | false =>
            rw [if_pos rfl]
            have e : qBy rb (n + 1) (Qd.bin false qs) = false := List.all_eq_false.mpr ⟨y, List.mem_of_getElem? hy, by rw [hb]; exact Bool.false_ne_true⟩
            rw [e] at fin
            exact fin H5 (k3.trans k5)
        · rintro τ H3 ⟨k3, _, no⟩
          have e : qBy rb (n + 1) (Qd.bin false qs) = true := List.all_eq_true.mpr fun y hy => by
            obtain ⟨j, hj, e⟩ := List.mem_iff_getElem.mp hy
            exact no j y (by rw [hl]; exact hj) (by rw [List.getElem?_eq_getElem hj, e])
          rw [e] at fin
          exact fin H3 k3
      | true =>
        refine ⟨_, rfl, rfl, _, rfl, strF (by decide) ?_⟩
        refine ⟨_, rfl, rfl, _, rfl, strF (by decide) ?_⟩
        refine ⟨_, rfl, rfl, _, rfl, strF (by decide) ?_⟩
        refine ⟨_, rfl, rfl, _, rfl, strF (by decide) ?_⟩
        refine ⟨_, rfl, aq, _, 1, _, rfl, rfl, haq, atI_nat (j := 1) rfl, ap, rfl, ⟨xs, hap⟩, tab_of hT hP, fun H2 t2 => ?_⟩
        have k2 := KT.tabbed hT hP t2
        refine gx_it (walk_tup (xs := xs)) (fun i τ H' => KT Ps H H' ∧ (∃ c0, τ = [c0, some (.ref f)]) ∧ ∀ j y, j < i → qs[j]? = some y → qBy rb n y = false) ⟨k2, ⟨_, rfl⟩, fun j y hj => absurd hj (Nat.not_lt_zero j)⟩ (fun _ _ H' _ h => (h.1.tk hT).seq hap) ?_ ?_
        · rintro i x τ H3 H4 hi ⟨k3, ⟨c0, rfl⟩, no⟩ ⟨rfl, hx⟩
          obtain ⟨y, hy, dy, oky⟩ := part i x H4 k3 hx
          refine ⟨_, rfl, _, rfl, x, y, rfl, dy, oky, k3.1, hG _ _ hg hT k3, fun H5 k5 => ⟨_, rfl, ?_⟩⟩
          cases hb : qBy rb n y with
          | true =>
            rw [if_pos rfl]
            have e : qBy rb (n + 1) (Qd.bin true qs) = true := List.any_eq_true.mpr ⟨y, List.mem_of_getElem? hy, hb⟩
            rw [e] at fin
            exact fin H5 (k3.trans k5)
          | false =>
            rw [if_neg Bool.false_ne_true]
            refine ⟨k3.trans k5, ⟨_, rfl⟩, fun j z hj hz => ?_⟩
            by_cases ej : j = i
            · subst ej
              have ez : z = y := Option.some.inj (hz.symm.trans hy)
              rw [ez]; exact hb
            · exact no j z (by omega) hz
        · rintro τ H3 ⟨k3, _, no⟩
          have e : qBy rb (n + 1) (Qd.bin true qs) = false := List.any_eq_false.mpr fun y hy => by
            obtain ⟨j, hj, e⟩ := List.mem_iff_getElem.mp hy
            rw [no j y (by rw [hl]; exact hj) (by rw [List.getElem?_eq_getElem hj, e])]
            exact Bool.false_ne_true
          rw [e] at fin
          exact fin H3 k3
end


/-! ### matches: the lambda and its maker -/
def lamParts : List Stmt → Arguments × Expr × Scope
  | [.Return (some (.Call _ [_, .Lambda ps b sc _] _ _)) _] => (ps, b, sc)
  | _ => (⟨[], [], none, [], [], none, []⟩, .Constant .none 0 ⟨0, 0, 0, 0⟩, ⟨.function, [], false, false, []⟩)
abbrev lamQ : Str := "matches.<locals>.<lambda>"
abbrev lamB : Expr := (lamParts (defBody s_matches)).2.1
abbrev lamP : Arguments := (lamParts (defBody s_matches)).1
abbrev lamC : Scope := (lamParts (defBody s_matches)).2.2
/-- what the lambda needs: its document, its code object -/
def Gm (K : PySem.W.Frag) (vd : V) (ws : List Str) (c' : Addr) (H : Hp) : Prop := Dp K H vd (encD ws) ∧ H c' = some (LamX.CodeO c' lamQ) ∧ ws.length ≤ 1000
theorem Gm.kt {K : PySem.W.Frag} {vd : V} {ws : List Str} {c' : Addr} {Ps : List Tbl2} : ∀ H H', Gm K vd ws c' H → TabsG H Ps → KT Ps H H' → Gm K vd ws c' H' := fun H H' g t k =>
  ⟨Dp.keep (k.tk t) g.1 (imm_encD ws), k.at_ t g.2.1 LamX.codeO_ne, g.2.2⟩
def spMk (K : PySem.W.Frag) (Ps : List Tbl2) (n : Nat) : List V → Addr → Addr → Sp := fun ws' f c' vs H Q E => ∃ (vd : V) (ws : List Str), ws' = [vd] ∧ yHolds K Ps f (Gm K vd ws c') (rowB ws) n vs H Q E
section
variable {P : Program} {w : World} {K : PySem.W.Frag} {mg : Str → Option Value} {base : Heap} {A : Nat → Addr} {D : Nat → FuncData}
theorem ok_lam (T : Txt K mg A D) {Ps : List Tbl2} {P1 : Addr} (TF : TbF base mg (D 3) P1) (hP : (P1, none) ∈ Ps) {f c' : Addr} {cl : List (Str × Addr)} {vd : V} {ws : List Str} (L : LamAt base lamQ lamP lamB lamC f c' cl ["document"] [vd]) :
    LamOk P w K mg base 7 f (spRow K Ps (Gm K vd ws c') (rowB ws)) := by
  have G_has_standing := ok_has_standing (P := P) (w := w) (base := base) T TF hP
  refine lam_ok (N := ["row", "document"]) (j := 6) L (NdefX.nscope_by (by decide +kernel)) (fun pm cv ctv u => rfl) (fun v H Q h => ?_) (fun A' outer s H v Q hr h => ?_)
  · obtain ⟨ps, gap, _, _, _, g, _⟩ := h
    exact g.2.1
  · obtain ⟨ps, gap, hd, ok, hT, g, q⟩ := h
    refine ⟨_, (show PE (NdefX.ncx CX0 P w K mg base ["row", "document"] (lamF lamQ lamP lamC cl c') f A' outer s H E0) (.Call (.Name "has_standing" _) [.Name "document" _, .Name "row" _] [] _) _ from
      (pe_call G_has_standing (hr.mono (by decide)) rfl T.m_has_standing T.F_has_standing.kp T.b_has_standing .nil pass0 (pa_cons (pv 1) (pa_cons (pv 0) pa_nil)))), ?_⟩
    exact ⟨_, rfl, _, rfl, vd, v, ws, ps, gap, rfl, g.1, hd, ok, hT, g.2.2, q⟩
end


theorem TbF.up {base base' : Heap} {mg : Str → Option Value} {fd : FuncData} {P : Addr} (k : ∀ b o, base.get? b = some o → base'.get? b = some o) (h : TbF base mg fd P) : TbF base' mg fd P := by
  obtain ⟨c, e, t⟩ := h
  exact ⟨c, e, ⟨t.code.keeps k, t.bm.keeps k, t.gP⟩⟩
section
variable {P : Program} {w : World} {K : PySem.W.Frag} {mg : Str → Option Value} {base : Heap} {A : Nat → Addr} {D : Nat → FuncData}
theorem ok_matches (T : Txt K mg A D) {Ps : List Tbl2} {P1 P2 P3 : Addr} (TFs : TbF base mg (D 3) P1) (hP1 : (P1, none) ∈ Ps) (TFh : TbF base mg (D 2) P2) (hP2 : (P2, none) ∈ Ps) (TFm : TbF base mg (D 1) P3) (hP3 : (P3, some lamQ) ∈ Ps) (n : Nat) :
    FnOk P w K mg base CX0 (4 * n + 8) (A 1) (D 1) ["document", "question"] (yMatch K Ps n) := by
  obtain ⟨cc, hc, TBm⟩ := TFm
  have FH : ∀ (base' : Heap) (f c' : Addr) (cl : List (Str × Addr)) (ws' : List V), (∀ b o, base.get? b = some o → base'.get? b = some o) → Mod K mg base' → LamAt base' lamQ lamP lamB lamC f c' cl ["document"] ws' → FnOk P w K mg base' CX0 (4 * n + 7) (A 2) (D 2) ["question", "is_met"] (spMk K Ps n ws' f c') := fun base' f c' cl ws' sub M L => by
    refine ⟨fun vs H Q E h => ?_, fun A outer s H args us vs Q E hr e0 hb hv h => ?_⟩
    · obtain ⟨vd, ws, rfl, h⟩ := h
      obtain ⟨vq, q, rfl, _⟩ := h
      rfl
    · obtain ⟨vd, ws, rfl, h⟩ := h
      exact (ok_holds T (TFh.up sub) hP2 Gm.kt (ok_lam T (TFs.up sub) hP1 L) n).run A outer s H args us vs Q E hr e0 hb hv h
  refine (fun_okC (k := 4 * n + 7) T.F_matches hc sc_matches (fun vs H Q E h => ?_) (fun A' outer s H vs Q E hr h => ?_) : FnOk P w K mg base CX0 (4 * n + 7 + 1) _ _ _ _)
  · obtain ⟨vd, vq, ws, q, rfl, _⟩ := h; rfl
  obtain ⟨vd, vq, ws, q, rfl, hd, hq, ok, hT, hws, fin⟩ := h
  have hnd := sc_matches.nd
  refine ⟨_, (pss_one (ps_ret (pe_mk (fr := ["document"]) (js := [0]) (sp := spMk K Ps n) (q := lamQ) FH (hr.mono (by first | decide | omega)) rfl T.m_holds T.F_holds.kp T.b_holds TBm rfl (by first | rfl | decide +kernel) rfl (NdefX.ndef_free (sc := defScope s_matches) (fr := ["document"]) (by decide +kernel)) (NdefX.ndef_fr (sc := defScope s_matches) (by decide +kernel)) rfl (fun _ => rfl) (pv 1)))), ?_⟩
  refine ⟨_, rfl, tabS_of hT hP3, [vd], rfl, fun f c' H2 kp T2 hc2 => ?_⟩
  have k2 : KT Ps H H2 := KT.wrote hT hP3 T2 kp
  refine ⟨vd, ws, rfl, vq, q, rfl, Dp.keep (k2.tk hT) hq (imm_encQ n q), ok, k2.1, ⟨Dp.keep (k2.tk hT) hd (imm_encD ws), hc2, hws⟩, fun H3 k3 => ?_⟩
  rw [← qB_by]
  exact fin H3 (k2.trans k3)
end


theorem kp_updN {b d : Addr} {H H' : Hp} {o : HO} (k : Kp b H H') (h : H d = none) : Kp b H (upd H' d o) := fun c u hc n => by rw [upd_ne (ne_of_none hc h)]; exact k c u hc n
theorem ite_dup {c : Prop} [Decidable c] {A X : Prop} (main : A) (rest : A → ¬ c → X) : if c then A else X := by
  split
  · exact main
  · exact rest main ‹_›
def yQuest (K : PySem.W.Frag) : Nat → Sp
  | 0 => fun _ _ _ _ => False
  | d + 1 => fun vs H Q _ => ∃ (b p : Addr), vs = [.ref b, .int (d : Int), .bl false] ∧ BoxAt H b p ∧
    ∀ v H' (q : Qn (d + 1)), okQ (d + 1) q → Dp K H' v (encQ (d + 1) q) → BoxAt H' b p → Kp b H H' → Q v H'
section
variable {P : Program} {w : World} {K : PySem.W.Frag} {mg : Str → Option Value} {base : Heap} {A : Nat → Addr} {D : Nat → FuncData}
theorem ok_lquestion (T : Txt K mg A D) : ∀ d, FnOk P w K mg base CX0 (d + 3) (A 26) (D 26) ["box", "depth", "simple"] (yQuest K d)
  | 0 => ⟨fun vs H Q E h => h.elim, fun A outer s H args us vs Q E _ _ _ _ h => h.elim⟩
  | d + 1 => by
    have G__law_question := ok_lquestion T d
    have G__law_draw := ok_draw (P := P) (w := w) (base := base) T
    have G__law_pattern := ok_lpattern (P := P) (w := w) (base := base) T
    refine T.F__law_question.ok (k := d + 3) sc__law_question (fun vs H Q E h => ?_) (fun cdv A' outer s H vs Q E hr h => ?_)
    · obtain ⟨b, p, rfl, _⟩ := h; rfl
    obtain ⟨b, p, rfl, B, fin⟩ := h
    have hnd := sc__law_question.nd
    refine ⟨_, (pss_cons (ps_set (i := 4) hnd rfl (Or.inl rfl) (pe_call G__law_draw (hr.mono (by first | decide | omega)) rfl T.m__law_draw T.F__law_draw.kp T.b__law_draw .nil pass0 (pa_cons (pv 0) (pa_cons pe_int pa_nil)))) (pss_cons (ps_if (PW.pt (pw_or (pt_cmpR op_eq (pv 1) pe_int (nomark _)) (pw_or1 (pt_cmpR op_lt (pv 4) pe_int (nomark _))))) (pss_cons (ps_if (pt_cmpR op_eq (pe_call G__law_draw (hr.mono (by first | decide | omega)) rfl T.m__law_draw T.F__law_draw.kp T.b__law_draw .nil pass0 (pa_cons (pv 0) (pa_cons pe_int pa_nil))) pe_int (nomark _)) (pss_one (ps_ret (pe_tup (pa_cons pe_str pa_nil)))) pss_nil) (pss_cons (ps_set (i := 5) hnd rfl (Or.inl rfl) pe_int) (pss_cons (ps_set (i := 6) hnd rfl (Or.inl rfl) pe_int) (pss_cut (ps_if (PW.pt (pw_and (pt_not (pt_val (pv 2))) (pw_and1 (pt_cmpR op_eq (pe_call G__law_draw (hr.mono (by first | decide | omega)) rfl T.m__law_draw T.F__law_draw.kp T.b__law_draw .nil pass0 (pa_cons (pv 0) (pa_cons pe_int pa_nil))) pe_int (nomark _))))) (pss_cons (ps_set (i := 5) hnd rfl (Or.inl rfl) (pe_op op_add (pe_op op_add pe_int (pe_call G__law_draw (hr.mono (by first | decide | omega)) rfl T.m__law_draw T.F__law_draw.kp T.b__law_draw .nil pass0 (pa_cons (pv 0) (pa_cons pe_int pa_nil)))) (pe_op op_mul pe_int (pe_op op_fdiv (pe_call G__law_draw (hr.mono (by first | decide | omega)) rfl T.m__law_draw T.F__law_draw.kp T.b__law_draw .nil pass0 (pa_cons (pv 0) (pa_cons pe_int pa_nil))) pe_int)))) (pss_one (ps_set (i := 6) hnd rfl (Or.inl rfl) (pe_op op_mul (pe_call G__law_draw (hr.mono (by first | decide | omega)) rfl T.m__law_draw T.F__law_draw.kp T.b__law_draw .nil pass0 (pa_cons (pv 0) (pa_cons pe_int pa_nil))) (pe_op op_fdiv (pe_call G__law_draw (hr.mono (by first | decide | omega)) rfl T.m__law_draw T.F__law_draw.kp T.b__law_draw .nil pass0 (pa_cons (pv 0) (pa_cons pe_int pa_nil))) pe_int))))) pss_nil) (pss_one (ps_ret (pe_tup (pa_cons pe_str (pa_cons (pe_callTy call_tuple_of rfl T.z_tuple (by decide +kernel) (pa_cons (pe_lc (own := [("k", 3)]) rfl hnd (pi_range1 rfl T.z_range (pa_cons (pv 5) pa_nil)) (blkOk_by (own := [("k", 3)]) (N := N__law_question) (sc := defScope s__law_question) (by decide +kernel)) (fun _ _ _ _ _ => (pg_name (i := 3) hnd rfl (Or.inl rfl))) (fun _ _ _ _ _ => pts_nil) (fun _ _ _ _ _ => (pe_call G__law_pattern (hr.mono (by first | decide | omega)) rfl T.m__law_pattern T.F__law_pattern.kp T.b__law_pattern .nil pass0 (pa_cons (pv 0) pa_nil)))) pa_nil)) (pa_cons (pv 6) pa_nil)))))))))) pss_nil) (pss_cons (ps_if (pt_cmpR op_eq (pv 4) pe_int (nomark _)) (pss_one (ps_ret (pe_tup (pa_cons pe_str (pa_cons (pe_call G__law_question (hr.mono (by first | decide | omega)) rfl T.m__law_question T.F__law_question.kp T.b__law_question .nil pass0 (pa_cons (pv 0) (pa_cons (pe_op op_sub (pv 1) pe_int) (pa_cons (pv 2) pa_nil)))) pa_nil))))) pss_nil) (pss_cons (ps_setLc (i := 7) (own := [("k", 3)]) rfl hnd rfl rfl (sw_true rfl rfl rfl (by decide +kernel)) (pi_range1 rfl T.z_range (pa_cons (pe_op op_add pe_int (pe_op op_fdiv (pe_call G__law_draw (hr.mono (by first | decide | omega)) rfl T.m__law_draw T.F__law_draw.kp T.b__law_draw .nil pass0 (pa_cons (pv 0) (pa_cons pe_int pa_nil))) pe_int)) pa_nil)) (blkOk_by (own := [("k", 3)]) (N := N__law_question) (sc := defScope s__law_question) (by decide +kernel)) (fun _ _ _ _ _ => (pg_name (i := 3) hnd rfl (Or.inl rfl))) (fun _ _ _ _ _ => pts_nil) (fun _ _ _ _ _ => (pe_call G__law_question (hr.mono (by first | decide | omega)) rfl T.m__law_question T.F__law_question.kp T.b__law_question .nil pass0 (pa_cons (pv 0) (pa_cons (pe_op op_sub (pv 1) pe_int) (pa_cons (pv 2) pa_nil)))))) (pss_one (ps_ret (pe_tup (pa_cons (pe_ix (r := rIxL K) ix_list (pe_lst (pa_cons pe_str (pa_cons pe_str pa_nil))) (pe_op op_mod (pe_callTy call_int1 rfl T.z_int (by decide +kernel) (pa_cons (pv 4) pa_nil)) pe_int) (fun _ _ => rfl)) (pa_cons (pe_callTy call_tuple_of rfl T.z_tuple (by decide +kernel) (pa_cons (pv 7) pa_nil)) pa_nil))))))))), ?_⟩
    refine ⟨_, rfl, b, p, 8, rfl, B, (by decide), fun r H1 h10 h11 B1 k1 => ?_⟩
    refine ⟨_, rfl, rfl, _, rfl, ?_⟩
    refine ite_dup ?_ (fun mn c1 => ?_)
    · refine ⟨_, rfl, b, p, 9, rfl, B1, (by decide), fun r2 H2 h20 h21 B2 k2 => ⟨rfl, _, rfl, ?_⟩⟩
      refine ite2 (fun c2 => ?_) (fun c2 => ?_)
      · refine ⟨(by show 1 ≤ sizeLine; decide), fun t ht => ?_⟩
        have s3 := same_new (o := .tup [.str "all"]) ht
        exact fin (.ref t) _ Qd.all True.intro (.tup (SqT.of upd_same) (.cons (.str _) .nil)) (B2.keep s3) ((k1.trans k2).trans (Kp.of s3))
      · refine ⟨fun σ H' => ∃ (m g : Nat), σ = [some (.ref b), some (.int (d : Int)), some (.bl false), none, some (.int r), some (.int (m : Int)), some (.int (g : Int)), none] ∧ BoxAt H' b p ∧ Kp b H H' ∧ 1 ≤ m ∧ m ≤ 6 ∧ g ≤ 3, ?_, ?_⟩
        · refine ⟨_, rfl, _, rfl, ?_⟩
          refine iteT ?_
          refine ⟨_, rfl, b, p, 2, rfl, B2, (by decide), fun r3 H3 h30 h31 B3 k3 => ⟨rfl, _, rfl, ?_⟩⟩
          have k03 := (k1.trans k2).trans k3
          refine ite2 (fun c3 => ?_) (fun c3 => ?_)
          · refine ⟨_, rfl, b, p, 4, rfl, B3, (by decide), fun r4 H4 h40 h41 B4 k4 => ⟨_, _, rfl, rfl, _, rfl, b, p, 6, rfl, B4, (by decide), fun r5 H5 h50 h51 B5 k5 => ⟨_, _, rfl, rfl, ⟨by decide, by decide⟩, _, _, rfl, rfl, .inl ⟨by decide, by decide⟩, _, _, rfl, rfl, ?_⟩⟩⟩
            refine ⟨_, rfl, b, p, 4, rfl, B5, (by decide), fun r6 H6 h60 h61 B6 k6 => ⟨_, rfl, b, p, 3, rfl, B6, (by decide), fun r7 H7 h70 h71 B7 k7 => ⟨_, _, rfl, rfl, ⟨by decide, by decide⟩, _, _, rfl, rfl, .inl ⟨by omega, by omega⟩, ?_⟩⟩⟩
            obtain ⟨m, hm⟩ := Int.eq_ofNat_of_zero_le (show 0 ≤ 1 + r4 + 2 * (r5 / 5) by omega)
            have hz : 0 ≤ r6 * (r7 / 2) ∧ r6 * (r7 / 2) ≤ 3 := by
              rcases (show r7 / 2 = 0 ∨ r7 / 2 = 1 by omega) with e | e <;> rw [e] <;> omega
            obtain ⟨g, hg⟩ := Int.eq_ofNat_of_zero_le hz.1
            refine ⟨m, g, ?_, B7, (((k03.trans k4).trans k5).trans k6).trans k7, by omega, by omega, by omega⟩
            show [some (V.ref b), some (V.int (d : Int)), some (V.bl false), none, some (V.int r), some (V.int (1 + r4 + 2 * (r5 / 5))), some (V.int (r6 * (r7 / 2))), none] = _
            rw [hm, hg]
          · exact ⟨1, 0, rfl, B3, k03, by omega, by omega, by omega⟩
        · rintro σ H3 ⟨m, g, rfl, B3, k3, hm1, hm6, hg⟩
          refine ⟨_, rfl, _, rfl, (by omega), (by omega), fun DD hDD => ?_⟩
          obtain ⟨hDb, hDp⟩ := B3.ne hDD
          have hD0 := k3.none hDD hDb
          refine lc_it (walk_range (n := ((m : Nat) : Int).toNat)) (fun i H' => BoxAt H' b p ∧ Kp b H H' ∧ ∃ ps : List Pat, LAt K H' DD (ps.map encT) ∧ (∀ t ∈ ps, t.2.length ≤ 20) ∧ ps.length = i)
            ⟨B3.updO hDb hDp, kp_updN k3 hD0, [], LAt.nil upd_same, (fun q hq => nomatch hq), rfl⟩ (fun _ _ _ _ => trivial) ?_ ?_
          · rintro i x H4 H5 hi ⟨B4, k4, ps, L4, ok4, n4⟩ ⟨rfl, rfl⟩
            refine ⟨rfl, ?_⟩
            refine ⟨_, rfl, b, p, rfl, B4, fun q1 t H6 ht dt B6 k6 => ?_⟩
            obtain ⟨vs, e1, e2, e3⟩ := L4.kp B4 k6 hDb
            refine ⟨_, e1, ?_, B6.updO hDb hDp, kp_updN (k4.trans k6) hD0, ps ++ [t], ?_, fun t2 ht2 => ?_, by rw [List.length_append, List.length_singleton, n4]⟩
            · rw [DpAll.len e2, List.length_map]; exact len_lt (by omega)
            · rw [List.map_append]
              exact LAt.push e1 e2 e3 dt (imm_encT _)
            · rcases List.mem_append.mp ht2 with h | h
              · exact ok4 t2 h
              · rw [List.mem_singleton.mp h]; exact ht
          · rintro H4 ⟨B4, k4, ps, ⟨vs, e1, e2, e3⟩, ok4, n4⟩
            refine ⟨DD, vs, rfl, .inl ⟨SqL.of e1, fun q2 hq2 => ?_⟩⟩
            have sq := same_new (o := .tup vs) hq2
            refine ⟨_, rfl, (by show 3 ≤ sizeLine; decide), fun t ht => ?_⟩
            have st := same_new (o := .tup [.str "row", .ref q2, .int (g : Int)]) ht
            refine fin (.ref t) _ (Qd.row ps g) ⟨by omega, by omega, ok4⟩ ?_ ((B4.keep sq).keep st) ((k4.trans (Kp.of sq)).trans (Kp.of st))
            exact .tup (SqT.of upd_same) (.cons (.str _) (.cons (.tup ((TK.same st).seq (SqT.of upd_same)) (DpAll.same (sq.trans st) e2)) (.cons (.int _) .nil)))
    · refine ⟨_, rfl, _, _, rfl, rfl, _, rfl, ?_⟩
      refine ite2 (fun _ => mn) (fun c2 => ?_)
      obtain ⟨e, rfl⟩ : ∃ e, d = e + 1 := ⟨d - 1, by
        have : ¬ (d : Int) = 0 := fun z => c1 (decide_eq_true (congrArg V.int z))
        omega⟩
      have ee : (((e + 1 : Nat) : Int) - 1) = (e : Int) := by omega
      have ev : [V.ref b, V.int (((e + 1 : Nat) : Int) - 1), V.bl false] = [V.ref b, V.int (e : Int), V.bl false] := by rw [ee]
      refine ⟨_, rfl, rfl, _, rfl, ?_⟩
      refine ite2 (fun c3 => ?_) (fun c3 => ?_)
      · refine ⟨_, rfl, _, rfl, _, _, rfl, rfl, _, rfl, b, p, ev, B1, fun v H2 q ok dq B2 k2 => ?_⟩
        refine ⟨(by show 2 ≤ sizeLine; decide), fun t ht => ?_⟩
        have st := same_new (o := .tup [.str "not", v]) ht
        exact fin (.ref t) _ (Qd.neg q) ok (.tup (SqT.of upd_same) (.cons (.str _) (.cons (Dp.same st dq) .nil))) (B2.keep st) ((k1.trans k2).trans (Kp.of st))
      · refine ⟨_, rfl, b, p, 3, rfl, B1, (by decide), fun r2 H2 h20 h21 B2 k2 => ⟨_, _, rfl, rfl, ⟨by decide, by decide⟩, _, _, rfl, rfl, _, rfl, (by omega), (by omega), fun DD hDD => ?_⟩⟩
        have k02 := k1.trans k2
        obtain ⟨hDb, hDp⟩ := B2.ne hDD
        have hD0 := k02.none hDD hDb
        refine lc_it (walk_range (n := (2 + r2 / 2).toNat)) (fun i H' => BoxAt H' b p ∧ Kp b H H' ∧ ∃ qs : List (Qn (e + 1)), LAt K H' DD (qs.map (encQ (e + 1))) ∧ (∀ q ∈ qs, okQ (e + 1) q) ∧ qs.length = i)
          ⟨B2.updO hDb hDp, kp_updN k02 hD0, [], LAt.nil upd_same, (fun q hq => nomatch hq), rfl⟩ (fun _ _ _ _ => trivial) ?_ ?_
        · rintro i x H4 H5 hi ⟨B4, k4, qs, L4, ok4, n4⟩ ⟨rfl, rfl⟩
          refine ⟨rfl, ?_⟩
          refine ⟨_, rfl, _, rfl, _, _, rfl, rfl, _, rfl, b, p, ev, B4, fun v H6 q ok dq B6 k6 => ?_⟩
          obtain ⟨vs, e1, e2, e3⟩ := L4.kp B4 k6 hDb
          refine ⟨_, e1, ?_, B6.updO hDb hDp, kp_updN (k4.trans k6) hD0, qs ++ [q], ?_, fun t2 ht2 => ?_, by rw [List.length_append, List.length_singleton, n4]⟩
          · rw [DpAll.len e2, List.length_map]; exact len_lt (by omega)
          · rw [List.map_append]
            exact LAt.push e1 e2 e3 dq (imm_encQ _ _)
          · rcases List.mem_append.mp ht2 with h | h
            · exact ok4 t2 h
            · rw [List.mem_singleton.mp h]; exact ok
        · rintro H4 ⟨B4, k4, qs, ⟨vs, e1, e2, e3⟩, ok4, n4⟩
          refine ⟨(by show 2 ≤ sizeLine; decide), fun l4 hl4 => ?_⟩
          have sl := same_new (o := .lst [.str "and", .str "or"]) hl4
          have hx : atI [V.str "and", V.str "or"] (r % 2) = some (.str (if decide (r % 2 = 1) = true then "or" else "and")) := by
            rcases (show r % 2 = 0 ∨ r % 2 = 1 by omega) with z | z <;> rw [z] <;> rfl
          refine ⟨_, rfl, .inl ⟨r, rfl, _, _, rfl, rfl, (by show (0 : Int) < 2; decide), l4, _, _, _, rfl, rfl, SqL.of upd_same, hx, ?_⟩⟩
          refine ⟨_, rfl, DD, vs, rfl, .inl ⟨SqL.of (sl _ _ e1), fun q2 hq2 => ?_⟩⟩
          have sq := sl.trans (same_new (o := .tup vs) hq2)
          refine ⟨(by show 2 ≤ sizeLine; decide), fun t ht => ?_⟩
          have st := same_new (o := .tup [.str (if decide (r % 2 = 1) = true then "or" else "and"), .ref q2]) ht
          refine fin (.ref t) _ (Qd.bin (decide (r % 2 = 1)) qs) ⟨by omega, ok4⟩ ?_ ((B4.keep sq).keep st) ((k4.trans (Kp.of sq)).trans (Kp.of st))
          exact .tup (SqT.of upd_same) (.cons (.str _) (.cons (.tup ((TK.same st).seq (SqT.of upd_same)) (DpAll.same (sq.trans st) e2)) .nil))
end


theorem row_ways {ws : List Str} {ps : List Pat} {gap : Nat} (h : 1 ≤ ps.length) : rowB ws ps gap = decide (0 < (waysL ws ps gap ps.length).length) := by
  have e1 : begunL ws ps gap 1 = ((List.range ws.length).map fun j => [j]).filter (beginsB ws ps gap) := by
    show [([] : List Nat)].flatMap (extB ws ps gap) = _
    rw [List.flatMap_cons, List.flatMap_nil, List.append_nil]
    unfold extB extL
    rw [if_pos rfl, if_pos rfl]
    congr 1
    refine List.map_congr_left fun j _ => ?_
    show [0 + j] = [j]
    rw [Nat.zero_add]
  rw [← begun_end, Bool.eq_iff_iff, decide_eq_true_eq]
  unfold rowB
  constructor
  · intro hb
    obtain ⟨j, hj, hb⟩ := List.any_eq_true.mp hb
    have hm : [j] ∈ begunL ws ps gap 1 := by
      rw [e1]
      exact List.mem_filter.mpr ⟨List.mem_map.mpr ⟨j, hj, rfl⟩, hb⟩
    have h1 := List.length_pos_iff.mpr (List.ne_nil_of_mem hm)
    have h2 := begun_grows ws ps gap 1 (by decide) (ps.length - 1) (by omega)
    rw [show 1 + (ps.length - 1) = ps.length by omega] at h2
    omega
  · intro hl
    cases hc : (List.range ws.length).any fun j => beginsB ws ps gap [j] with
    | true => rfl
    | false =>
      have z : begunL ws ps gap 1 = [] := by
        rw [e1]
        refine List.filter_eq_nil_iff.mpr fun v hv => ?_
        obtain ⟨j, hj, rfl⟩ := List.mem_map.mp hv
        exact List.any_eq_false.mp hc j hj
      have zz : ∀ d, begunL ws ps gap (1 + d) = [] := by
        intro d
        induction d with
        | zero => exact z
        | succ d ih =>
          show (begunL ws ps gap (1 + d)).flatMap (extB ws ps gap) = []
          rw [ih]; rfl
      have h2 := zz (ps.length - 1)
      rw [show 1 + (ps.length - 1) = ps.length by omega] at h2
      rw [h2] at hl
      exact absurd hl (Nat.lt_irrefl 0)
def yLMatch (K : PySem.W.Frag) (n : Nat) : Sp := fun vs H Q _ => ∃ (vd vq : V) (ws : List Str) (q : Qn n), vs = [vd, vq] ∧ Dp K H vd (encD ws) ∧ Dp K H vq (encQ n q) ∧ okQ n q ∧ ws.length ≤ 12 ∧ (∀ x ∈ ws, x.length ≤ 20) ∧
  ∀ H', Same H H' → Q (.bl (qB ws n q)) H'
section
variable {P : Program} {w : World} {K : PySem.W.Frag} {mg : Str → Option Value} {base : Heap} {A : Nat → Addr} {D : Nat → FuncData}
end


/-! ### enumerate of a tuple -/
section
open PySem.Spec PyProof.Rows
set_option maxHeartbeats 1000000 in
theorem meets_enumerate_newT (l : Addr) (items : Array Value) :
    Meets (Builtin.«enumerate.__new__» ⟨[.type "enumerate", .ref l], []⟩) (fun _ R s => s.heap.IsTuple l items ∧
      R (.ok (.ret (.ref (s.heap.push { cls := .type "tuple_iterator", data := .fields #[.ref l, .int 0 0] }).objs.size)))
        { s with heap := (s.heap.push { cls := .type "tuple_iterator", data := .fields #[.ref l, .int 0 0] }).push { cls := .type "enumerate", data := .fields #[.none, .bool false, .ref s.heap.objs.size, rawInt 0, .none, .none] } }) :=
  .of_wp fun prog w A R s h => by
    obtain ⟨hp, g, d, tk, os⟩ := s; obtain ⟨h1, h⟩ := h
    have hsub := sub_enumerate
    have q1 : ∀ {A' : Around} {E : Value → Shared → Prop} {Q : Value → Shared → Prop}, Q (.ref hp.objs.size) ⟨hp.push { cls := .type "tuple_iterator", data := .fields #[.ref l, .int 0 0] }, g, d, tk, os⟩ → wpAny (model prog w) A' (pyIter (.ref l)) Q E ⟨hp, g, d, tk, os⟩ :=
      fun q => (begins_tuple l items).iter prog w _ _ ⟨hp, g, d, tk, os⟩ _ h1 q
    wp_walk using q1
    refine wpAny_stack_any fun st => wpAny_pure ?_
    split
    · rename_i c _ _ _ _ _
      cases (c == Value.type "enumerate")
      · wp_walk using q1
        exact ⟨_, rfl, h⟩
      · wp_walk using q1
        exact ⟨_, rfl, h⟩
    · wp_walk using q1
      exact ⟨_, rfl, h⟩
theorem call_enumerate_tup {prog : Program} {w : World} {A : Around} {E : Value → Shared → Prop} {s : Shared} {l : Addr} {items : Array Value} {Q : Value → Shared → Prop} (hL : s.heap.IsTuple l items)
    (h : ∀ h', IsEnum h' (s.heap.objs.size + 1) s.heap.objs.size 0 .none → h'.IsTupleIter s.heap.objs.size l 0 → h'.objs.size = s.heap.objs.size + 2 →
      (∀ b o, s.heap.get? b = some o → h'.get? b = some o) → Q (.ref (s.heap.objs.size + 1)) { s with heap := h' }) :
    wpAny (model prog w) A (call (.type "enumerate") [.ref l]) Q E s := by
  refine callType_new F.called_enumerate (by decide) (F.typeCall_enumerate_1 _) (F.newCall_enumerate_1 _) (fun obj => F.args_object_init_2 obj _) F.entry_enumerate_new
    (meets_enumerate_newT l items) ⟨hL, ?_⟩
  have hz : (s.heap.push { cls := .type "tuple_iterator", data := .fields #[.ref l, .int 0 0] }).objs.size = s.heap.objs.size + 1 := Heap.size_push ..
  show _ ∧ _
  rw [hz]
  have he : IsEnum ((s.heap.push { cls := .type "tuple_iterator", data := .fields #[.ref l, .int 0 0] }).push { cls := .type "enumerate", data := .fields #[.none, .bool false, .ref s.heap.objs.size, rawInt 0, .none, .none] }) (s.heap.objs.size + 1) s.heap.objs.size 0 .none := by
    have := Heap.get?_push_size (s.heap.push { cls := .type "tuple_iterator", data := .fields #[.ref l, .int 0 0] }) (o := { cls := .type "enumerate", data := .fields #[.none, .bool false, .ref s.heap.objs.size, rawInt 0, .none, .none] }) rfl
    rw [hz] at this; exact this
  exact ⟨⟨_, he, rfl⟩, h _ he ⟨_, Heap.get?_push_of_some _ (Heap.get?_push_size _ rfl), rfl, rfl⟩ (by rw [Heap.size_push, hz]) fun b o x => Heap.get?_push_of_some _ (Heap.get?_push_of_some _ x)⟩
end
/-- the tuple at a, each item in a new pair -/
def IteT (K : PySem.W.Frag) (a : Addr) : It :=
  ⟨fun i H => ∃ (xs : List V) (x : V), SqT K H a xs ∧ xs[i]? = some x, fun i H v H' => ∃ T x, v = .ref T ∧ H T = none ∧ H' = upd H T (.tup [.int (i : Nat), x]) ∧ ∀ xs, SqT K H a xs → xs[i]? = some x, fun i H => ∃ xs : List V, SqT K H a xs ∧ xs.length ≤ i⟩
section
open PySem.Spec PyProof.Rows
theorem wpAny_pyNext_enum_endT {prog : Program} {w : World} {A : Around} {E : Value → Shared → Prop} {s : Shared} {e it l : Addr} {i : Nat} {items : Array Value} {old : Value} {Q : Option Value → Shared → Prop} (hh : A.handled = none)
    (he : IsEnum s.heap e it i old) (hit : s.heap.IsTupleIter it l i) (hl : s.heap.IsTuple l items) (hx : items[i]? = none)
    (hQ : ∀ h', Heap.ExtBut it s.heap h' → Q none { s with heap := h' }) : wpAny (model prog w) A (pyNext (.ref e)) Q E s := by
  have hT : s.TypeIs (.ref e) "enumerate" := ⟨_, he, rfl⟩
  unfold pyNext
  refine wpAny_bind (wpAny_attempt (wpAny_callSpecial?_slot (name := Str.ofString "__next__") hT F.slot_enumerate_next
    (wpAny_call_entry F.slot_enumerate_next hT F.entry_enumerate_next ?_ (F.args_enumerate_next_1 _))))
  show wpAny _ _ (field (.ref e) 2 >>= _) _ _ _
  refine wpAny_bind (wpAny_field he rfl (x := .ref it) rfl ?_)
  refine wpAny_bind (wpAny_nextOf_tuple_end hh hit hl hx fun h' x he' hx' => ?_)
  obtain ⟨o, ho, hc⟩ := hx'
  refine wpAny_bind (wpAny_isInstance (T := "StopIteration") (b := true) ⟨o, ho, hc⟩ isSubtype_stop ?_)
  exact wpAny_pure (hQ _ he')
theorem turn_enumT {P : Program} {w : World} {K : PySem.W.Frag} {elts : List Expr} {kk : Nat} {tpos : Pos} (a e it : Addr) (hne0 : a ≠ it) (hae : e ≠ a) :
    Turn P w K (.Tuple elts kk tpos) (IteT K a) [e, it] e (fun i h => (∃ old, IsEnum h e it ((i : Nat) : Int) old) ∧ h.IsTupleIter it a i ∧ e ≠ it) where
  mem := by simp
  obj := fun i h st b hb => by
    obtain ⟨⟨old, he⟩, ⟨o, ho, hc, hd⟩, _⟩ := st
    have e' : b = e ∨ b = it := by simpa using hb
    rcases e' with z | z
    · rw [z]; exact ⟨_, he, fun v q => nomatch q⟩
    · rw [z]; exact ⟨o, ho, fun v q => by rw [hd] at q; cases q⟩
  keep := fun i h h' st k => let ⟨⟨old, he⟩, hi, hne⟩ := st; ⟨⟨old, k e (by simp) _ he⟩, hi.at fun o q => k it (by simp) o q, hne⟩
  item := by
    intro X hP hw hK hc i pins s σ H E I hf st hg
    subst hP hw hK
    obtain ⟨⟨old, he⟩, hit, hne⟩ := st
    obtain ⟨xs, x, hq, hx⟩ := hg
    obtain ⟨its, rv, p, hz⟩ := I.tuple hq
    obtain ⟨u, hu, ru⟩ := rv.get hx
    have hel : e < s.heap.objs.size := Heap.lt_size he
    have hil : it < s.heap.objs.size := by obtain ⟨_, q, _⟩ := hit; exact Heap.lt_size q
    have hu' : its.toArray[i]? = some u := by simpa using hu
    have hi : i < its.toArray.size := by
      obtain ⟨h1, _⟩ := Array.getElem?_eq_some_iff.mp hu'
      exact h1
    refine wpAny_pyNext_enum_itemD (Draws.tuple (prog := X.prog) (w := X.w) (A := X.A.in1) (I.ok.hd hc) it a hne0 its.toArray) he ⟨hit, p⟩ hi hne (by simp only [List.mem_cons, List.not_mem_nil, or_false, not_or]; exact ⟨hne, hae⟩) fun x1 h' tk hx1 ho hst' hT hsz hk => ?_
    have ex : x1 = u := Option.some.inj (hx1.symm.trans hu')
    subst ex
    obtain ⟨hit', _⟩ := hst'
    refine ⟨_, rfl, wpAny_letOwnedTupleGo_enum (s := { s with heap := h', toks := tk + 1 }) ho fun h'' he' sb => ?_⟩
    have hT2 : h''.get? s.heap.objs.size = some { cls := .type "tuple", data := .seq #[.int i tk, x1] } := (sb.2 _ (Nat.ne_of_gt hel)).trans hT
    have new : ObjOk X.prog X.w (upd H s.heap.objs.size (.tup [.int (i : Nat), x])) h'' s.heap.objs.size (.tup [.int (i : Nat), x]) :=
      ⟨by show 2 ≤ sizeLine; decide, [.int i tk, x1], .cons ⟨_, rfl⟩ (.cons ru .nil), ⟨_, hT2, rfl, _, rfl⟩⟩
    have I1 : Inv X pins σ (upd H s.heap.objs.size (.tup [.int (i : Nat), x])) { s with heap := h'', toks := tk + 1 } :=
      I.turnedNew (ch := [e, it]) (fun b ob hb q => (sb.2 b (fun z => hb (by simp [z]))).trans (hk b ob (fun z => hb (by simp [z])) (fun z => hb (by simp [z])) q)) hf (Nat.le_refl _) new
    refine ⟨.ref s.heap.objs.size, _, I1, rfl, ⟨_, x, rfl, I.hok.fresh (Nat.le_refl _), rfl, fun ys hy => by rw [I.tuple_inj hy hq]; exact hx⟩, ⟨⟨x1, ?_⟩, hit'.at fun o q => (sb.2 it (Ne.symm hne)).trans q, hne⟩, fun b hb => ?_⟩
    · have e1 : ((i + 1 : Nat) : Int) = (i : Int) + 1 := by omega
      rw [e1]; exact he'
    · have hb' : b < s.heap.objs.size := by
        have e' : b = e ∨ b = it := by simpa using hb
        rcases e' with z | z
        · rw [z]; exact hel
        · rw [z]; exact hil
      rw [upd_ne (Nat.ne_of_lt hb')]
      exact (hf b hb).1
  done := by
    intro X hP hw hK hc i pins s σ H E I hf st hg
    subst hP hw hK
    obtain ⟨⟨old, he⟩, hit, hne⟩ := st
    obtain ⟨xs, hq, hx⟩ := hg
    obtain ⟨its, rv, p, hz⟩ := I.tuple hq
    obtain ⟨f0, f1, f2, f3, f4, f5⟩ := hf it (by simp)
    have hl := rv.length
    refine wpAny_pyNext_enum_endT (I.ok.hd hc) he hit p (by simp; omega) fun h' eb => ⟨rfl, I.turned (t' := s.toks) (fun b o hb q => eb b o hb q) f0 f1 f3 f4 f5⟩
  self := fun A i s Q E st h => let ⟨⟨_, he⟩, _⟩ := st; wpAny_pyIter_enum he h
end
def iEnumT (K : PySem.W.Frag) (ta : TA) : TI := fun σ H R => ta σ H fun vs H1 => ∃ a xs, vs = [.ref a] ∧ SqT K H1 a xs ∧ R (IteT K a) H1
section
open PySem.Spec PyProof.Rows
theorem pi_enumT {X : Cx} {e : Expr} {ta : TA} {p pos tpos : Pos} {elts : List Expr} {kk : Nat} (hg : Gl X "enumerate") (hm : X.mg "enumerate" = none) (ha : PA X [e] ta) (hs : starEach [e] X.env = [(false, eval e X.env)] := by rfl) :
    PI X (.Tuple elts kk tpos) (.Call (.Name "enumerate" p) [e] [] pos) (iEnumT X.K ta) := by
  refine ⟨fun pins s σ H R I h => ?_⟩
  refine Call_ (ld_blt I hg hm boot_enumerate (PyProof.Rows.callWith_type1 (thn (ha.run pos pins s σ H _ I h) fun us s1 ⟨vs, H1, I1, r1, q1⟩ => ?_) hs rfl))
  obtain ⟨a, xs, ex, hq, q⟩ := q1
  subst ex
  cases r1 with
  | cons r rr =>
    cases rr
    cases r
    obtain ⟨its, rv, p', hz⟩ := I1.tuple hq
    obtain ⟨o1, ho1, _⟩ := id p'
    have al : a < s1.heap.objs.size := Heap.lt_size ho1
    refine call_enumerate_tup p' fun h' he hit hsz hk => wpAny_pyIter_enum he ?_
    have I2 : Inv X pins σ H1 { s1 with heap := h' } := I1.kept (t' := s1.toks) hk
    refine ⟨s1.heap.objs.size + 1, [s1.heap.objs.size + 1, s1.heap.objs.size], _, _, H1, rfl, I2, turn_enumT a (s1.heap.objs.size + 1) s1.heap.objs.size (Nat.ne_of_lt al) (Nat.ne_of_gt (Nat.lt_succ_of_lt al)), ⟨⟨.none, he⟩, hit, Nat.succ_ne_self _⟩, fun b hb => ?_, q⟩
    have e' : b = s1.heap.objs.size + 1 ∨ b = s1.heap.objs.size := by simpa using hb
    have hle : s1.heap.objs.size ≤ b := by
      rcases e' with z | z
      · rw [z]; exact Nat.le_add_right _ _
      · rw [z]; exact Nat.le_refl _
    exact I1.fpOk hle (I1.hok.fresh hle)
theorem walk_enumT {K : PySem.W.Frag} {a : Addr} {xs : List V} : Walk (IteT K a) xs.length (fun H => SqT K H a xs) (YPair (fun i => some (.int (i : Nat))) (fun i => xs[i]?)) := by
  refine ⟨fun i _ hi q => ⟨xs, xs[i], q, by simp [hi]⟩, fun _ q => ⟨xs, q, Nat.le_refl _⟩, fun i H v H' _ q y => ?_⟩
  obtain ⟨T, x, h1, h2, h3, h4⟩ := y
  exact ⟨T, .int (i : Nat), x, h1, h2, h3, rfl, h4 xs q⟩
end


/-! ### the module's dict of texts: get with a text or None -/
def tKGet (K : PySem.W.Frag) (w : World) (td ty : TE) : TE := fun σ H Q => td σ H fun x H1 => ∃ (D : Addr) (es : Array DictEntry) (n : Nat), x = .ref D ∧ K.lookup D = some ⟨.type "dict", none, .dict es n, #[]⟩ ∧ PySem.W.KeysLit w.params es.toList ∧ (D == sysModules) = false ∧
  ty σ H1 fun y H2 => (∃ (z : Str) (u : Value) (v : V), y = .str z ∧ PySem.W.nsIn K D z = some (some u) ∧ RelV v u ∧ Q v H2) ∨ (y = .non ∧ Q .non H2)
section
open PySem.Spec PyProof.Rows
theorem kmap_none {P : Program} {w : World} {K : PySem.W.Frag} {h : Heap} {a : Addr} {es : Array DictEntry} {n : Nat} (X : K.In h) (hl : K.lookup a = some ⟨.type "dict", none, .dict es n, #[]⟩) (hk : PySem.W.KeysLit w.params es.toList) : ∃ f, h.MapOf (noneKind P w) a f ∧ f none = none := by
  refine ⟨fun k => findBy (noneKind P w).is es k, ⟨_, es, n, X _ _ hl, ⟨rfl, rfl, rfl⟩, rfl, fun e he => ?_, fun k => rfl⟩, ?_⟩
  · obtain ⟨x, t, e1, e2⟩ := hk.all e (Array.mem_toList_iff.mpr he)
    exact ⟨some (.inr x), (by rw [e1]; exact PySem.strKind_is P w x t), e2⟩
  · have q : (es.find? fun e => nkIs none e.key) = none := by
      rw [Array.find?_eq_none]
      intro e he hq
      obtain ⟨x, t, e1, e2⟩ := hk.all e (Array.mem_toList_iff.mpr he)
      have e3 := nk_none hq
      rw [e1] at e3
      exact nomatch e3
    show (es.find? fun e => nkIs none e.key).map (·.val) = none
    rw [q] <;> rfl
variable {X : Cx} {o e : Expr} {apos cpos : Pos} {td ty : TE}
theorem pe_kget (ho : PE X o td) (he : PE X e ty) (m : M1 X o "get" apos e cpos) : PE X (.Call (.Attribute o "get" apos) [e] [] cpos) (tKGet X.K X.w td ty) := by
  refine ⟨fun pins s σ H Q I h => ?_⟩
  refine wpAny_Call_method m.base m.few m.line PySem.F.plainAttrs_dict PySem.F.slot_dict_get PySem.F.type_dict_get (thn (ho.run pins s σ H _ I h) fun u s1 ⟨x, H1, I1, rx, D, es, n, ex, hl, hk, lo, q1⟩ => ?_)
  subst ex
  obtain rfl : u = Value.ref D := rx
  have hm := PySem.W.mapOf_K (prog := X.prog) (w := X.w) I1.kIn hl hk
  refine ⟨hm.typeIs, hm.noDict, ?_⟩
  rw [m.trees]
  refine Calls.callWith_builtin rfl (Calls.evalArgs_plain (Calls.spliced_cons (thn (he.run pins s1 σ H1 _ I1 q1) fun iv s2 ⟨y, H2, I2, ry, q2⟩ => Calls.spliced_nil ?_)))
  have hm2 := PySem.W.mapOf_K (prog := X.prog) (w := X.w) I2.kIn hl hk
  rcases q2 with ⟨z, u0, v, rfl, hz, rv, q⟩ | ⟨rfl, q⟩
  · obtain ⟨t, rfl⟩ := (show ∃ t, iv = Value.str z t from ry)
    refine call_meetsIn PySem.F.slot_dict_get hm2.typeIs PySem.F.entry_dict_get (PySem.F.args_dict_get_2 _ _) (meets_dict_get (strKind X.prog X.w) D (PySem.strKind_is X.prog X.w z t) lo) ⟨_, hm2, ?_⟩
    rw [PySem.W.find_K hl hz]
    exact ⟨v, H2, I2.tok _, rv, q⟩
  · obtain rfl : iv = Value.none := ry
    obtain ⟨f, hf, hn⟩ := kmap_none (P := X.prog) (w := X.w) I2.kIn hl hk
    refine call_meetsIn PySem.F.slot_dict_get hf.typeIs PySem.F.entry_dict_get (PySem.F.args_dict_get_2 _ _) (meets_dict_get (noneKind X.prog X.w) D (show (noneKind X.prog X.w).is none .none = true from rfl) lo) ⟨_, hf, ?_⟩
    rw [hn]
    exact ⟨.non, H2, I2.tok _, rfl, q⟩
end


/-! ### evidence -/
inductive Ed (α : Type) : Type
  | tag (s : Str) : Ed α
  | nil : Ed α
  | two (s : Str) (i : Int) : Ed α
  | stands (ps : List Int) : Ed α
  | one (i : Int) (e : α) : Ed α
  | neg (e : α) : Ed α
  | each (es : List α) : Ed α
def En : Nat → Type
  | 0 => Empty
  | n + 1 => Ed (En n)
def encE : ∀ n, En n → PyData
  | 0, e => nomatch (e : Empty)
  | n + 1, e => match (e : Ed (En n)) with
    | .tag s => .tuple [.str s]
    | .nil => .tuple []
    | .two s i => .tuple [.str s, .int i]
    | .stands ps => .tuple [.str "stands", .tuple (ps.map .int)]
    | .one i e => .tuple [.str "one", .int i, encE n e]
    | .neg e => .tuple [.str "not", encE n e]
    | .each es => .tuple [.str "each", .tuple (es.map (encE n))]
theorem imm_list2 {a b : PyData} (ha : Imm a) (hb : Imm b) : Imm (.tuple [a, b]) := .tup fun d hd => by
  rcases List.mem_cons.mp hd with rfl | hd
  · exact ha
  · rw [List.mem_singleton.mp hd]; exact hb
theorem imm_encE : ∀ n (e : En n), Imm (encE n e)
  | 0, e => nomatch (e : Empty)
  | n + 1, e => match (e : Ed (En n)) with
    | .tag s => .tup fun d hd => by rw [List.mem_singleton.mp hd]; exact .str _
    | .nil => .tup fun d hd => nomatch hd
    | .two s i => imm_list2 (.str _) (.int _)
    | .stands ps => imm_list2 (.str _) (.tup fun d hd => by
      obtain ⟨y, _, rfl⟩ := List.mem_map.mp hd
      exact .int _)
    | .one i e => .tup fun d hd => by
      rcases List.mem_cons.mp hd with rfl | hd
      · exact .str _
      · rcases List.mem_cons.mp hd with rfl | hd
        · exact .int _
        · rw [List.mem_singleton.mp hd]; exact imm_encE n e
    | .neg e => imm_list2 (.str _) (imm_encE n e)
    | .each es => imm_list2 (.str _) (.tup fun d hd => by
      obtain ⟨y, _, rfl⟩ := List.mem_map.mp hd
      exact imm_encE n y)
/-- the first standing -/
def firstE (n : Nat) (ws : List Str) (ps : List Pat) (gap : Nat) : En (n + 1) := match waysL ws ps gap ps.length with
  | [] => (Ed.tag "nowhere" : Ed (En n))
  | u :: _ => (Ed.stands (u.map fun (k : Nat) => (k : Int)) : Ed (En n))
def evF (ws : List Str) : ∀ n, Qn n → En n
  | 0, q => nomatch (q : Empty)
  | n + 1, q => match (q : Qd (Qn n)) with
    | .all => (Ed.tag "all" : Ed (En n))
    | .row ps gap => firstE n ws ps gap
    | .neg q => (Ed.neg (evF ws n q) : Ed (En n))
    | .bin o qs => match qs.findIdx? (fun q => qB ws n q == o) with
      | some i => match qs[i]? with
        | some q => (Ed.one (i : Int) (evF ws n q) : Ed (En n))
        | none => (Ed.nil : Ed (En n))
      | none => (Ed.each (qs.map (evF ws n)) : Ed (En n))
theorem evF_one {ws : List Str} {n : Nat} {o : Bool} {qs : List (Qn n)} {i : Nat} {q : Qn n} (hq : qs[i]? = some q) (hb : qB ws n q = o) (no : ∀ j y, j < i → qs[j]? = some y → qB ws n y = !o) : evF ws (n + 1) (Qd.bin o qs : Qd (Qn n)) = (Ed.one (i : Int) (evF ws n q) : Ed (En n)) := by
  have hi := (List.getElem?_eq_some_iff.mp hq).1
  have e : qs.findIdx? (fun q => qB ws n q == o) = some i := by
    rw [List.findIdx?_eq_some_iff_getElem]
    refine ⟨hi, ?_, fun j hj => ?_⟩
    · have : qs[i] = q := Option.some.inj ((List.getElem?_eq_getElem hi).symm.trans hq)
      rw [this, hb]; exact beq_self_eq_true o
    · have hj' : j < qs.length := by omega
      rw [no j qs[j] hj (List.getElem?_eq_getElem hj')]
      cases o <;> decide
  show (match qs.findIdx? (fun q => qB ws n q == o) with
      | some i => match qs[i]? with
        | some q => (Ed.one (i : Int) (evF ws n q) : Ed (En n))
        | none => (Ed.nil : Ed (En n))
      | none => (Ed.each (qs.map (evF ws n)) : Ed (En n))) = _
  rw [e]
  show (match qs[i]? with
        | some q => (Ed.one (i : Int) (evF ws n q) : Ed (En n))
        | none => (Ed.nil : Ed (En n))) = _
  rw [hq]
theorem evF_each {ws : List Str} {n : Nat} {o : Bool} {qs : List (Qn n)} (no : ∀ j y, j < qs.length → qs[j]? = some y → qB ws n y = !o) : evF ws (n + 1) (Qd.bin o qs : Qd (Qn n)) = (Ed.each (qs.map (evF ws n)) : Ed (En n)) := by
  have e : qs.findIdx? (fun q => qB ws n q == o) = none := by
    rw [List.findIdx?_eq_none_iff]
    intro y hy
    obtain ⟨j, hj, e⟩ := List.mem_iff_getElem.mp hy
    rw [no j y hj (by rw [List.getElem?_eq_getElem hj, e])]
    cases o <;> rfl
  show (match qs.findIdx? (fun q => qB ws n q == o) with
      | some i => match qs[i]? with
        | some q => (Ed.one (i : Int) (evF ws n q) : Ed (En n))
        | none => (Ed.nil : Ed (En n))
      | none => (Ed.each (qs.map (evF ws n)) : Ed (En n))) = _
  rw [e]
theorem headD_flat {α β : Type} {f : α → List β} {u : α} {l : List α} (h : f u ≠ []) {x : β} {r : List β} (e : f u = x :: r) : ((u :: l).flatMap f)[0]? = some x := by
  rw [List.flatMap_cons, e]; rfl
/-- the greedy way finds the first standing -/
theorem begun_head {ws : List Str} {ps : List Pat} {gap k : Nat} {u x : List Nat} {r : List (List Nat)} (hu : (begunL ws ps gap k)[0]? = some u) (e : extB ws ps gap u = x :: r) : (begunL ws ps gap (k + 1))[0]? = some x := by
  show ((begunL ws ps gap k).flatMap (extB ws ps gap))[0]? = some x
  cases hb : begunL ws ps gap k with
  | nil => rw [hb] at hu; exact nomatch hu
  | cons a l =>
    rw [hb] at hu
    have : a = u := Option.some.inj hu
    subst this
    exact headD_flat (by rw [e]; exact List.cons_ne_nil _ _) e
theorem begun_stuck {ws : List Str} {ps : List Pat} {gap k : Nat} {u : List Nat} (hk : k < ps.length) (hu : (begunL ws ps gap k)[0]? = some u) (e : extB ws ps gap u = []) : waysL ws ps gap ps.length = [] := by
  have hm : u ∈ begunL ws ps gap k := List.mem_of_getElem? hu
  have h0 : k = 0 := by
    rcases Nat.eq_zero_or_pos k with h | h
    · exact h
    · exact absurd e (ext_some h hk hm)
  subst h0
  have hb : begunL ws ps gap 1 = [] := by
    show ([[]] : List (List Nat)).flatMap (extB ws ps gap) = []
    have : u = [] := List.mem_singleton.mp hm
    subst this
    rw [List.flatMap_cons, e]; rfl
  rw [← begun_end]
  have all : ∀ d, begunL ws ps gap (1 + d) = [] := fun d => by
    induction d with
    | zero => exact hb
    | succ d ih =>
      show (begunL ws ps gap (1 + d)).flatMap (extB ws ps gap) = []
      rw [ih]; rfl
  have := all (ps.length - 1)
  rwa [show 1 + (ps.length - 1) = ps.length by omega] at this
theorem firstE_no {n : Nat} {ws : List Str} {ps : List Pat} {gap : Nat} (h : waysL ws ps gap ps.length = []) : firstE n ws ps gap = (Ed.tag "nowhere" : Ed (En n)) := by
  unfold firstE; rw [h]
theorem firstE_yes {n : Nat} {ws : List Str} {ps : List Pat} {gap : Nat} {u : List Nat} (h : (waysL ws ps gap ps.length)[0]? = some u) : firstE n ws ps gap = (Ed.stands (u.map fun (k : Nat) => (k : Int)) : Ed (En n)) := by
  unfold firstE
  cases hw : waysL ws ps gap ps.length with
  | nil => rw [hw] at h; exact nomatch h
  | cons a l =>
    rw [hw] at h
    have : a = u := Option.some.inj h
    rw [this]


/-! ### evidence that is given -/
def yEvRow (K : PySem.W.Frag) : Sp := fun vs H Q _ => ∃ (vd vr : V) (ws : List Str) (ps : List Pat) (gap : Nat), vs = [vd, vr] ∧ Dp K H vd (encD ws) ∧ Dp K H vr (encRow ps gap) ∧ okR ps ∧ ws.length ≤ 1000 ∧ ∀ v H', Same H H' → (∀ n, Dp K H' v (encE (n + 1) (firstE n ws ps gap))) → Q v H'
def yEvid (K : PySem.W.Frag) (Ps : List Tbl2) (n : Nat) : Sp := fun vs H Q _ => ∃ (vd vq : V) (ws : List Str) (q : Qn n), vs = [vd, vq] ∧ Dp K H vd (encD ws) ∧ Dp K H vq (encQ n q) ∧ okQ n q ∧ TabsG H Ps ∧ ws.length ≤ 1000 ∧ ∀ v H', KT Ps H H' → Dp K H' v (encE n (evF ws n q)) → Q v H'
theorem mk_tup1 {K : PySem.W.Frag} {H : Hp} {p : Addr} {z : Str} (h : H p = some (.tup [.str z])) : Dp K H (.ref p) (.tuple [.str z]) := .tup (SqT.of h) (.cons (.str _) .nil)
theorem mk_tup2 {K : PySem.W.Frag} {H : Hp} {p : Addr} {z : Str} {v : V} {d : PyData} (h : H p = some (.tup [.str z, v])) (hv : Dp K H v d) : Dp K H (.ref p) (.tuple [.str z, d]) := .tup (SqT.of h) (.cons (.str _) (.cons hv .nil))
theorem mk_tup3 {K : PySem.W.Frag} {H : Hp} {p : Addr} {z : Str} {i : Int} {v : V} {d : PyData} (h : H p = some (.tup [.str z, .int i, v])) (hv : Dp K H v d) : Dp K H (.ref p) (.tuple [.str z, .int i, d]) := .tup (SqT.of h) (.cons (.str _) (.cons (.int _) (.cons hv .nil)))
section
variable {P : Program} {w : World} {K : PySem.W.Frag} {mg : Str → Option Value} {base : Heap} {A : Nat → Addr} {D : Nat → FuncData}
theorem ok_evrow (T : Txt K mg A D) : FnOk P w K mg base CX0 4 (A 9) (D 9) ["document", "row"] (yEvRow K) := by
  refine T.F_evidence_for_row.ok sc_evidence_for_row (fun vs H Q E h => ?_) (fun cdv A' outer s H vs Q E hr h => ?_)
  · obtain ⟨vd, vr, ws, ps, gap, rfl, _⟩ := h; rfl
  obtain ⟨vd, vr, ws, ps, gap, rfl, hd, hrw, ⟨ok1, ok2, ok3⟩, hws, fin⟩ := h
  have hnd := sc_evidence_for_row.nd
  have G_longer_by_one := ok_longer (P := P) (w := w) (base := base) T
  refine ⟨_, (pss_cons (ps_set (i := 2) hnd rfl (Or.inl rfl) (pe_tup pa_nil)) (pss_cons (ps_for PassesOwn.never rfl (pi_tup (pe_ix (r := rIxT K) ix_tup (pv 1) pe_int (fun _ _ => rfl))) (pg_name (i := 3) hnd rfl (Or.inl rfl)) (pss_cons (ps_set (i := 4) hnd rfl (Or.inl rfl) (pe_call G_longer_by_one (hr.mono (by first | decide | omega)) rfl T.m_longer_by_one T.F_longer_by_one.kp T.b_longer_by_one .nil pass0 (pa_cons (pv 0) (pa_cons (pv 1) (pa_cons (pv 2) pa_nil))))) (pss_cons (ps_if (pt_cmpR op_eq (pe_callB call_len_seq rfl T.z_len PySem.boot_len (pa_cons (pv 4) pa_nil)) pe_int (nomark _)) (pss_one (ps_ret (pe_tup (pa_cons pe_str pa_nil)))) pss_nil) (pss_one (ps_set (i := 2) hnd rfl (Or.inl rfl) (pe_ix (r := rIxL K) ix_list (pv 4) pe_int (fun _ _ => rfl))))))) (pss_one (ps_ret (pe_tup (pa_cons pe_str (pa_cons (pv 2) pa_nil))))))), ?_⟩
  obtain ⟨ar, pa, pxs, rfl, har, hpa, hpx⟩ := dp_encRow hrw
  have hpxl : pxs.length = ps.length := by rw [DpAll.len hpx, List.length_map]
  refine ⟨(by show 0 ≤ sizeLine; decide), fun t ht => ?_⟩
  have s0 := same_new (o := .tup []) ht
  refine ⟨_, rfl, ar, _, 1, _, rfl, rfl, (TK.same s0).seq har, rfl, pa, rfl, ⟨_, (TK.same s0).seq hpa⟩, ?_⟩
  refine for_tup (xs := pxs) (fun i σ H' => Same (upd H t (.tup [])) H' ∧ ∃ vp c3 c4 u, σ = [some vd, some (.ref ar), some vp, c3, c4] ∧ Dp K H' vp (encW u) ∧ (begunL ws ps gap i)[0]? = some u) ⟨Same.refl _, .ref t, _, _, [], rfl, .tup (SqT.of upd_same) .nil, rfl⟩ (fun i σ H' _ h => (TK.same (s0.trans h.1)).seq hpa) ?_ ?_
  · rintro i x σ H' hi ⟨s1, vp, c3, c4, u, rfl, dp, hu⟩
    have s01 := s0.trans s1
    have hi' : i < ps.length := by rw [← hpxl]; exact (List.getElem?_eq_some_iff.mp hi).1
    obtain ⟨ul, ulast⟩ := mem_begunL (List.mem_of_getElem? hu)
    refine ⟨_, rfl, _, rfl, _, rfl, vd, .ref ar, vp, ws, ps, gap, u, rfl, Dp.same s01 hd, Dp.same s01 hrw, dp, (by omega), ulast, (by omega), hws, fun r H2 s2 hr2 L2 => ?_⟩
    obtain ⟨vs2, e1, e2, e3⟩ := L2
    have hl2 : vs2.length = (extB ws ps gap u).length := by rw [DpAll.len e2, List.length_map]
    refine ⟨_, rfl, r, _, rfl, .inl (SqL.of e1), rfl, _, rfl, ite2 (fun c => ?_) (fun c => ?_)⟩
    · have c' : (extB ws ps gap u) = [] := by
        have h1 : ((vs2.length : Nat) : Int) = 0 := V.int.inj (of_decide_eq_true c)
        exact List.eq_nil_of_length_eq_zero (by omega)
      refine ⟨(by show 1 ≤ sizeLine; decide), fun p hp => fin _ _ (s01.trans (s2.trans (same_new hp))) fun n => ?_⟩
      rw [firstE_no (begun_stuck hi' hu c')]
      exact mk_tup1 upd_same
    · cases he : extB ws ps gap u with
      | nil => rw [he] at hl2; exact absurd (decide_eq_true (show V.int ((vs2.length : Nat) : Int) = V.int 0 by rw [hl2]; rfl)) c
      | cons y r2 =>
        rw [he] at e2
        obtain ⟨v, rr, rfl, dv, _⟩ := DpAll.consI (show DpAll K H2 vs2 (encW y :: r2.map encW) from e2)
        refine ⟨_, rfl, r, _, 0, _, rfl, rfl, SqL.of e1, atI_nat (j := 0) rfl, s1.trans s2, v, _, _, y, rfl, dv, begun_head hu he⟩
  · rintro σ H' ⟨s1, vp, c3, c4, u, rfl, dp, hu⟩
    rw [hpxl, begun_end] at hu
    refine ⟨_, rfl, (by show 2 ≤ sizeLine; decide), fun p hp => fin _ _ (s0.trans (s1.trans (same_new hp))) fun n => ?_⟩
    rw [firstE_yes hu]
    refine mk_tup2 upd_same (Dp.same (same_new hp) ?_)
    rw [← encW_ints]
    exact dp
end


theorem KT.updN {Ps : List Tbl2} {H H1 : Hp} {d : Addr} {o : HO} {xs : List V} (a : KT Ps H H1) (hb : H1 d = some (.lst xs)) (hN : H d = none) : KT Ps H (upd H1 d o) :=
  ⟨a.1.kp hb fun c u hc n => by rw [upd_ne n]; exact hc, fun c u e n => by rw [upd_ne (ne_of_none e hN)]; exact a.2 c u e n⟩
theorem KT.none {Ps : List Tbl2} {H H1 : Hp} {d : Addr} (a : KT Ps H H1) (h : H1 d = none) : H d = none := by
  cases e : H d with
  | none => rfl
  | some o =>
    have nt : noT Ps d := fun t ht z => by
      obtain ⟨ps, e1⟩ := (a.1.2 t ht).tbl
      rw [z, h] at e1
      exact nomatch e1
    rw [a.2 d o e nt] at h
    exact nomatch h
def yEvParts (K : PySem.W.Frag) (Ps : List Tbl2) (n : Nat) : Sp := fun vs H Q _ => ∃ (vd vq : V) (ws : List Str) (o : Bool) (qs : List (Qn n)), vs = [vd, vq] ∧ Dp K H vd (encD ws) ∧ Dp K H vq (encQ (n + 1) (Qd.bin o qs : Qd (Qn n))) ∧ okQ (n + 1) (Qd.bin o qs : Qd (Qn n)) ∧ TabsG H Ps ∧ ws.length ≤ 1000 ∧ ∀ v H', KT Ps H H' → Dp K H' v (encE (n + 1) (evF ws (n + 1) (Qd.bin o qs : Qd (Qn n)))) → Q v H'
theorem is_orB (o : Bool) : decide (V.str (if o = true then ("or" : Str) else "and") = V.str "or") = o := by cases o <;> decide
theorem kind_no (o : Bool) : (if o = true then ("or" : Str) else "and") ≠ "row" ∧ (if o = true then ("or" : Str) else "and") ≠ "all" ∧ (if o = true then ("or" : Str) else "and") ≠ "not" := by cases o <;> decide
/-- the parts of an and or an or -/
theorem dp_bin {K : PySem.W.Frag} {H : Hp} {n : Nat} {v : V} {o : Bool} {qs : List (Qn n)} (h : Dp K H v (encQ (n + 1) (Qd.bin o qs : Qd (Qn n)))) (ok : okQ (n + 1) (Qd.bin o qs : Qd (Qn n))) : ∃ (aq ap : Addr) (xs : List V), v = .ref aq ∧ SqT K H aq [.str (if o = true then "or" else "and"), .ref ap] ∧ SqT K H ap xs ∧ xs.length = qs.length ∧
    ∀ (i : Nat) (x : V), xs[i]? = some x → ∃ q, qs[i]? = some q ∧ Dp K H x (encQ n q) ∧ okQ n q := by
  obtain ⟨aq, us, rfl, haq, hus⟩ := dp_kind (show Dp K H v (.tuple [.str (if o = true then "or" else "and"), .tuple (qs.map (encQ n))]) from h)
  obtain ⟨v1, us2, rfl, hv1, hnil⟩ := DpAll.consI hus
  obtain ⟨ap, xs, rfl, hap, hxs⟩ := Dp.tupI hv1
  obtain rfl := DpAll.nilI hnil
  have hl : xs.length = qs.length := by rw [DpAll.len hxs, List.length_map]
  refine ⟨aq, ap, xs, rfl, haq, hap, hl, fun i x hx => ?_⟩
  have hi := (List.getElem?_eq_some_iff.mp hx).1
  rw [hl] at hi
  obtain ⟨v, hv, dv⟩ := DpAll.get hxs (i := i) (d := encQ n qs[i]) (by rw [List.getElem?_map, List.getElem?_eq_getElem hi]; rfl)
  have ev : x = v := Option.some.inj (hx.symm.trans hv)
  subst ev
  exact ⟨qs[i], List.getElem?_eq_getElem hi, dv, (show qs.length ≤ 100 ∧ ∀ q ∈ qs, okQ n q from ok).2 _ (List.getElem_mem hi)⟩
section
variable {P : Program} {w : World} {K : PySem.W.Frag} {mg : Str → Option Value} {base : Heap} {A : Nat → Addr} {D : Nat → FuncData}
theorem ok_evparts (T : Txt K mg A D) {Ps : List Tbl2} {n : Nat} (G_matches : FnOk P w K mg base CX0 (4 * n + 8) (A 1) (D 1) ["document", "question"] (yMatch K Ps n)) (G_evidence_for : FnOk P w K mg base CX0 (4 * n + 8) (A 8) (D 8) ["document", "question"] (yEvid K Ps n)) :
    FnOk P w K mg base CX0 (4 * n + 9) (A 10) (D 10) ["document", "question"] (yEvParts K Ps n) := by
  refine T.F_evidence_for_parts.ok (k := 4 * n + 8) sc_evidence_for_parts (fun vs H Q E h => ?_) (fun cdv A' outer s H vs Q E hr h => ?_)
  · obtain ⟨vd, vq, ws, o, qs, rfl, _⟩ := h; rfl
  obtain ⟨vd, vq, ws, o, qs, rfl, hd, hq, ok, hT, hws, fin⟩ := h
  have hnd := sc_evidence_for_parts.nd
  refine ⟨_, (pss_cons (ps_asg (pv 1) (pg_tup rfl (pgs_cons (pg_name (i := 3) hnd rfl (Or.inl rfl)) (pgs_cons (pg_name (i := 4) hnd rfl (Or.inl rfl)) pgs_nil)))) (pss_cons (ps_set (i := 5) hnd rfl (Or.inl rfl) (pe_cmpR op_eq (pv 3) pe_str (nomark _))) (pss_cons (ps_for PassesOwn.never rfl (pi_enumT rfl T.z_enumerate (pa_cons (pv 4) pa_nil)) (pg_tup rfl (pgs_cons (pg_name (i := 6) hnd rfl (Or.inl rfl)) (pgs_cons (pg_name (i := 2) hnd rfl (Or.inl rfl)) pgs_nil))) (pss_one (ps_if (pt_cmpR op_eq (pe_call G_matches (hr.mono (by first | decide | omega)) rfl T.m_matches T.F_matches.kp T.b_matches .nil pass0 (pa_cons (pv 0) (pa_cons (pv 2) pa_nil))) (pv 5) (nomark _)) (pss_one (ps_ret (pe_tup (pa_cons pe_str (pa_cons (pv 6) (pa_cons (pe_call G_evidence_for (hr.mono (by first | decide | omega)) rfl T.m_evidence_for T.F_evidence_for.kp T.b_evidence_for .nil pass0 (pa_cons (pv 0) (pa_cons (pv 2) pa_nil))) pa_nil)))))) pss_nil))) (pss_one (ps_ret (pe_tup (pa_cons pe_str (pa_cons (pe_callTy call_tuple_of rfl T.z_tuple (by decide +kernel) (pa_cons (pe_lc (own := [("part", 2)]) rfl hnd (pi_tup (pv 4)) (blkOk_by (own := [("part", 2)]) (N := N_evidence_for_parts) (sc := defScope s_evidence_for_parts) (by decide +kernel)) (fun _ _ _ _ _ => (pg_name (i := 2) hnd rfl (Or.inl rfl))) (fun _ _ _ _ _ => pts_nil) (fun _ _ _ _ _ => (pe_call G_evidence_for (hr.mono (by first | decide | omega)) rfl T.m_evidence_for T.F_evidence_for.kp T.b_evidence_for .nil pass0 (pa_cons (pv 0) (pa_cons (pv 2) pa_nil))))) pa_nil)) pa_nil)))))))), ?_⟩
  obtain ⟨aq, ap, xs, rfl, haq, hap, hl, part⟩ := dp_bin hq ok
  have hql : qs.length ≤ 100 := (show qs.length ≤ 100 ∧ ∀ q ∈ qs, okQ n q from ok).1
  refine ⟨_, rfl, aq, _, rfl, haq, rfl, _, _, rfl, _, _, rfl, rfl, ?_⟩
  refine ⟨_, rfl, rfl, ?_⟩
  rw [is_orB o]
  refine ⟨_, rfl, ap, xs, rfl, hap, ?_⟩
  refine for_it walk_enumT (fun i σ H' => KT Ps H H' ∧ (∃ c2 c6, σ = [some vd, some (.ref aq), c2, some (.str (if o = true then "or" else "and")), some (.ref ap), some (.bl o), c6]) ∧ ∀ j y, j < i → qs[j]? = some y → qB ws n y = !o)
    ⟨KT.refl hT, ⟨_, _, rfl⟩, fun j y hj => absurd hj (Nat.not_lt_zero j)⟩ (fun _ _ _ _ h => (h.1.tk hT).seq hap) ?_ ?_
  · rintro i v σ H3 H4 hi ⟨k3, ⟨c2, c6, rfl⟩, no⟩ ⟨T0, x, y, rfl, hT0, rfl, ex, ey⟩
    obtain rfl := Option.some.inj ex
    obtain ⟨q, hy, dy, oky⟩ := part i y ey
    have sT := same_new (o := .tup [.int (i : Nat), y]) hT0
    have k4 := k3.same sT
    refine ⟨T0, _, rfl, SqT.of upd_same, rfl, _, _, rfl, _, _, rfl, rfl, ?_⟩
    have dd4 := Dp.keep (k4.tk hT) hd (imm_encD ws)
    have dy4 := Dp.keep (k4.tk hT) dy (imm_encQ n q)
    refine ⟨_, rfl, _, rfl, vd, y, ws, q, rfl, dd4, dy4, oky, k4.1, hws, fun H5 k5 => ?_⟩
    have k05 := k4.trans k5
    refine ⟨_, rfl, rfl, _, rfl, ?_⟩
    by_cases e : qB ws n q = o
    · rw [decide_eq_true (congrArg V.bl e)]
      refine iteT ?_
      refine ⟨_, rfl, _, rfl, _, rfl, vd, y, ws, q, rfl, Dp.keep (k05.tk hT) hd (imm_encD ws), Dp.keep (k05.tk hT) dy (imm_encQ n q), oky, k05.1, hws, fun ve H6 k6 de => ⟨(by show 3 ≤ sizeLine; decide), fun p hp => ?_⟩⟩
      have sp := same_new (o := .tup [.str "one", .int (i : Nat), ve]) hp
      refine fin _ _ ((k05.trans k6).same sp) ?_
      rw [evF_one hy e no]
      exact mk_tup3 upd_same (Dp.same sp de)
    · rw [decide_eq_false fun z => e (V.bl.inj z)]
      refine iteF ?_
      refine ⟨k05, ⟨_, _, rfl⟩, fun j z hj hz => ?_⟩
      by_cases ej : j = i
      · subst ej
        have ez : z = q := Option.some.inj (hz.symm.trans hy)
        rw [ez]
        cases o <;> cases hb : qB ws n q <;> simp_all
      · exact no j z (by omega) hz
  · rintro σ H3 ⟨k3, ⟨c2, c6, rfl⟩, no⟩
    have hl' := hl
    refine ⟨_, rfl, ap, rfl, ⟨xs, (k3.tk hT).seq hap⟩, fun R hR => ?_⟩
    have hR0 : H R = none := k3.none hR
    refine lc_it (walk_tup (xs := xs)) (fun i H' => KT Ps H H' ∧ LAt K H' R ((qs.take i).map fun q => encE n (evF ws n q))) ⟨k3.same (same_new hR), LAt.nil upd_same⟩ (fun _ _ _ h => (h.1.tk hT).seq hap) ?_ ?_
    · rintro i x H4 H5 hi ⟨k4, L4⟩ ⟨rfl, hx⟩
      obtain ⟨q, hy, dy, oky⟩ := part i x hx
      refine ⟨rfl, ?_⟩
      refine ⟨_, rfl, _, rfl, vd, x, ws, q, rfl, Dp.keep (k4.tk hT) hd (imm_encD ws), Dp.keep (k4.tk hT) dy (imm_encQ n q), oky, k4.1, hws, fun ve H6 k6 de => ?_⟩
      obtain ⟨vs, e1, e2, e3⟩ := k6.lat k4.1 L4
      refine ⟨vs, e1, ?_, (k4.trans k6).updN e1 hR0, ?_⟩
      · rw [DpAll.len e2, List.length_map, List.length_take]; exact len_lt (by omega)
      · rw [List.take_add_one, hy, List.map_append]
        exact LAt.push e1 e2 e3 de (imm_encE _ _)
    · rintro H4 ⟨k4, ⟨vs, e1, e2, e3⟩⟩
      refine ⟨R, vs, rfl, .inl ⟨SqL.of e1, fun l hl => ?_⟩⟩
      have sl := same_new (o := .tup vs) hl
      refine ⟨(by show 2 ≤ sizeLine; decide), fun p hp => ?_⟩
      have sp := same_new (o := .tup [.str "each", .ref l]) hp
      refine fin _ _ ((k4.same sl).same sp) ?_
      rw [evF_each (by rw [← hl']; exact no)]
      have es : (qs.take xs.length).map (fun q => encE n (evF ws n q)) = (qs.map (evF ws n)).map (encE n) := by
        rw [take_all (by omega), List.map_map]; rfl
      rw [es] at e2
      exact mk_tup2 upd_same (.tup ((TK.same sp).seq (SqT.of upd_same)) (DpAll.same (sl.trans sp) e2))
end


section
variable {P : Program} {w : World} {K : PySem.W.Frag} {mg : Str → Option Value} {base : Heap} {A : Nat → Addr} {D : Nat → FuncData}
theorem ok_evid (T : Txt K mg A D) {Ps : List Tbl2} (G_matches : ∀ n, FnOk P w K mg base CX0 (4 * n + 8) (A 1) (D 1) ["document", "question"] (yMatch K Ps n)) : ∀ n, FnOk P w K mg base CX0 (4 * n + 8) (A 8) (D 8) ["document", "question"] (yEvid K Ps n)
  | 0 => by
    have no : ∀ vs H Q E, ¬ yEvid K Ps 0 vs H Q E := fun vs H Q E h => by
      obtain ⟨vd, vq, ws, q, _⟩ := h
      exact nomatch (q : Empty)
    exact ⟨fun vs H Q E h => absurd h (no vs H Q E), fun A outer s H args us vs Q E _ _ _ _ h => absurd h (no vs H Q E)⟩
  | n + 1 => by
    have G_evidence_for := ok_evid T G_matches n
    have G_evidence_for_parts := ok_evparts T (G_matches n) G_evidence_for
    have G_evidence_for_row := ok_evrow (P := P) (w := w) (base := base) T
    have lv : 4 * (n + 1) + 8 = 4 * n + 11 + 1 := by omega
    rw [lv]
    refine T.F_evidence_for.ok (k := 4 * n + 11) sc_evidence_for (fun vs H Q E h => ?_) (fun cdv A' outer s H vs Q E hr h => ?_)
    · obtain ⟨vd, vq, ws, q, rfl, _⟩ := h; rfl
    obtain ⟨vd, vq, ws, q, rfl, hd, hq, ok, hT, hws, fin⟩ := h
    have hnd := sc_evidence_for.nd
    refine ⟨_, (pss_cons (ps_set (i := 2) hnd rfl (Or.inl rfl) (pe_ix (r := rIxT K) ix_tup (pv 1) pe_int (fun _ _ => rfl))) (pss_cons (ps_if (pt_cmpR op_eq (pv 2) pe_str (nomark _)) (pss_one (ps_ret (pe_call G_evidence_for_row (hr.mono (by first | decide | omega)) rfl T.m_evidence_for_row T.F_evidence_for_row.kp T.b_evidence_for_row .nil pass0 (pa_cons (pv 0) (pa_cons (pv 1) pa_nil))))) pss_nil) (pss_cons (ps_if (pt_cmpR op_eq (pv 2) pe_str (nomark _)) (pss_one (ps_ret (pe_tup (pa_cons pe_str pa_nil)))) pss_nil) (pss_cons (ps_if (pt_cmpR op_eq (pv 2) pe_str (nomark _)) (pss_one (ps_ret (pe_tup (pa_cons pe_str (pa_cons (pe_call G_evidence_for (hr.mono (by first | decide | omega)) rfl T.m_evidence_for T.F_evidence_for.kp T.b_evidence_for .nil pass0 (pa_cons (pv 0) (pa_cons (pe_ix (r := rIxT K) ix_tup (pv 1) pe_int (fun _ _ => rfl)) pa_nil))) pa_nil))))) pss_nil) (pss_one (ps_ret (pe_call G_evidence_for_parts (hr.mono (by first | decide | omega)) rfl T.m_evidence_for_parts T.F_evidence_for_parts.kp T.b_evidence_for_parts .nil pass0 (pa_cons (pv 0) (pa_cons (pv 1) pa_nil))))))))), ?_⟩
    rcases q with _ | ⟨ps, gap⟩ | q | ⟨o, qs⟩
    · obtain ⟨aq, us, rfl, haq, hus⟩ := dp_kind (show Dp K H vq (.tuple [.str "all"]) from hq)
      refine ⟨_, rfl, aq, _, 0, _, rfl, rfl, haq, atI_nat (j := 0) rfl, ?_⟩
      refine ⟨_, rfl, rfl, _, rfl, strF (by decide) ?_⟩
      refine ⟨_, rfl, rfl, _, rfl, strT ?_⟩
      refine ⟨(by show 1 ≤ sizeLine; decide), fun p hp => fin _ _ (KT.of hT (same_new hp)) (mk_tup1 upd_same)⟩
    · obtain ⟨ar, pa, pxs, rfl, har, hpa, hpx⟩ := dp_encRow (show Dp K H vq (encRow ps gap) from hq)
      refine ⟨_, rfl, ar, _, 0, _, rfl, rfl, har, atI_nat (j := 0) rfl, ?_⟩
      refine ⟨_, rfl, rfl, _, rfl, strT ?_⟩
      exact ⟨_, rfl, _, rfl, vd, .ref ar, ws, ps, gap, rfl, hd, hq, ok, hws, fun v H' s' dv => fin v H' (KT.of hT s') (dv n)⟩
    · obtain ⟨aq, us, rfl, haq, hus⟩ := dp_kind (show Dp K H vq (.tuple [.str "not", encQ n q]) from hq)
      obtain ⟨v1, us2, rfl, hv1, hnil⟩ := DpAll.consI hus
      refine ⟨_, rfl, aq, _, 0, _, rfl, rfl, haq, atI_nat (j := 0) rfl, ?_⟩
      refine ⟨_, rfl, rfl, _, rfl, strF (by decide) ?_⟩
      refine ⟨_, rfl, rfl, _, rfl, strF (by decide) ?_⟩
      refine ⟨_, rfl, rfl, _, rfl, strT ?_⟩
      refine ⟨_, rfl, _, rfl, aq, _, 1, _, rfl, rfl, haq, atI_nat (j := 1) rfl, vd, v1, ws, q, rfl, hd, hv1, ok, hT, hws, fun v H' k' dv => ⟨(by show 2 ≤ sizeLine; decide), fun p hp => ?_⟩⟩
      have sp := same_new (o := .tup [.str "not", v]) hp
      exact fin _ _ (k'.same sp) (mk_tup2 upd_same (Dp.same sp dv))
    · obtain ⟨aq, ap, xs, rfl, haq, hap, hl, part⟩ := dp_bin hq ok
      have ko := kind_no o
      refine ⟨_, rfl, aq, _, 0, _, rfl, rfl, haq, atI_nat (j := 0) rfl, ?_⟩
      refine ⟨_, rfl, rfl, _, rfl, strF ko.1 ?_⟩
      refine ⟨_, rfl, rfl, _, rfl, strF ko.2.1 ?_⟩
      refine ⟨_, rfl, rfl, _, rfl, strF ko.2.2 ?_⟩
      exact ⟨_, rfl, _, rfl, vd, .ref aq, ws, o, qs, rfl, hd, hq, ok, hT, hws, fin⟩
end
/-! ### the law's evidence -/
theorem mk_tup3j {K : PySem.W.Frag} {H : Hp} {p : Addr} {z : Str} {i j : Int} {v : V} {d : PyData} (e : i = j) (h : H p = some (.tup [.str z, .int i, v])) (hv : Dp K H v d) : Dp K H (.ref p) (.tuple [.str z, .int j, d]) := by
  subst e; exact mk_tup3 h hv
def yLEvid (K : PySem.W.Frag) (n : Nat) : Sp := fun vs H Q _ => ∃ (vd vq : V) (ws : List Str) (q : Qn n), vs = [vd, vq] ∧ Dp K H vd (encD ws) ∧ Dp K H vq (encQ n q) ∧ okQ n q ∧ ws.length ≤ 12 ∧ (∀ x ∈ ws, x.length ≤ 20) ∧ ∀ v H', Same H H' → Dp K H' v (encE n (evF ws n q)) → Q v H'
section
variable {P : Program} {w : World} {K : PySem.W.Frag} {mg : Str → Option Value} {base : Heap} {A : Nat → Addr} {D : Nat → FuncData}
end


/-! ### what may be told: times, keys, texts of any kind -/
def AtomD : PyData → Prop
  | .list _ => False
  | .dict _ => False
  | _ => True
def kindD : PyData → String
  | .none => "NoneType"
  | .bool _ => "bool"
  | .int _ => "int"
  | .str _ => "str"
  | .tuple _ => "tuple"
  | .list _ => "list"
  | .dict _ => "dict"
theorem ty_at {K : PySem.W.Frag} {H : Hp} : ∀ {v : V} {d : PyData}, Dp K H v d → AtomD d → TyX K H v (.type (kindD d))
  | _, _, .non, _ => .base .non
  | _, _, .bl _, _ => .base (.bl _)
  | _, _, .int _, _ => .base (.int _)
  | _, _, .str _, _ => .base (.str _)
  | _, _, .tup h _, _ => ty_t h
  | _, _, .lst _ _, a => a.elim
theorem isi_use {K : PySem.W.Frag} {H : Hp} {Q : VK} {v : V} {d : PyData} {t : String} {b : Bool} (h : Dp K H v d) (a : AtomD d) (hb : kitB (kindD d) t = some b) (q : Q (.bl b) H) : rIsi K [v, .ty t] H Q :=
  ⟨v, .ty t, _, _, b, rfl, .ty _, ty_at h a, kit_ty hb, q⟩
def intB : PyData → Bool
  | .int _ => true
  | _ => false
def yIsNum (K : PySem.W.Frag) : Sp := fun vs H Q _ => ∃ (v : V) (d : PyData), vs = [v] ∧ Dp K H v d ∧ AtomD d ∧ Q (.bl (intB d)) H
section
variable {P : Program} {w : World} {K : PySem.W.Frag} {mg : Str → Option Value} {base : Heap} {A : Nat → Addr} {D : Nat → FuncData}
theorem ok_is_number (T : Txt K mg A D) : FnOk P w K mg base CX0 1 (A 7) (D 7) ["value"] (yIsNum K) := by
  refine T.F_is_number.ok sc_is_number (fun vs H Q E h => ?_) (fun cdv A' outer s H vs Q E hr h => ?_)
  · obtain ⟨v, d, rfl, _⟩ := h; rfl
  obtain ⟨v, d, rfl, hd, ha, q⟩ := h
  refine ⟨_, (pss_one (ps_ret (pe_and (pe_callB call_isi rfl T.z_isinstance (by decide +kernel) (pa_cons (pv 0) (pa_cons (pe_bltn (v := .ty "int") rfl T.z_int (by decide +kernel) rfl) pa_nil))) (pe_one (pe_not (pe_callB call_isi rfl T.z_isinstance (by decide +kernel) (pa_cons (pv 0) (pa_cons (pe_bltn (v := .ty "bool") rfl T.z_bool (by decide +kernel) rfl) pa_nil)))))))), ?_⟩
  cases d with
  | list _ => exact ha.elim
  | dict _ => exact ha.elim
  | int i => exact ⟨_, rfl, _, _, _, _, true, rfl, .ty _, ty_at hd ha, kit_ty (show kitB "int" "int" = some true by decide +kernel), ⟨_, rfl, _, rfl, _, _, _, _, false, rfl, .ty _, ty_at hd ha, kit_ty (show kitB "int" "bool" = some false by decide +kernel), ⟨_, rfl, q⟩⟩⟩
  | bool b => exact ⟨_, rfl, _, _, _, _, true, rfl, .ty _, ty_at hd ha, kit_ty (show kitB "bool" "int" = some true by decide +kernel), ⟨_, rfl, _, rfl, _, _, _, _, true, rfl, .ty _, ty_at hd ha, kit_ty (show kitB "bool" "bool" = some true by decide +kernel), ⟨_, rfl, q⟩⟩⟩
  | none => exact ⟨_, rfl, _, _, _, _, false, rfl, .ty _, ty_at hd ha, kit_ty (show kitB "NoneType" "int" = some false by decide +kernel), ⟨_, rfl, q⟩⟩
  | str z => exact ⟨_, rfl, _, _, _, _, false, rfl, .ty _, ty_at hd ha, kit_ty (show kitB "str" "int" = some false by decide +kernel), ⟨_, rfl, q⟩⟩
  | tuple ds => exact ⟨_, rfl, _, _, _, _, false, rfl, .ty _, ty_at hd ha, kit_ty (show kitB "tuple" "int" = some false by decide +kernel), ⟨_, rfl, q⟩⟩
end


/-! ### evidence that is checked: tuples that are told, places that rise -/
def toldB (ds : List PyData) (z : Str) (n : Nat) : Bool := decide (ds.length = n) && (match ds with
  | .str s :: _ => decide (s = z)
  | _ => false)
def yTold (K : PySem.W.Frag) : Sp := fun vs H Q _ => ∃ (v : V) (ds : List PyData) (z : Str) (n : Nat), vs = [v, .str z, .int ((n : Nat) : Int)] ∧ Dp K H v (.tuple ds) ∧ (ds = [] ∨ ∃ s r, ds = .str s :: r) ∧ 1 ≤ n ∧ Q (.bl (toldB ds z n)) H
def riseP (L : List Int) : Prop := L ≠ [] ∧ 0 ≤ L.headD 0 ∧ ∀ i a b, L[i]? = some a → L[i + 1]? = some b → a < b
noncomputable def riseB (L : List Int) : Bool := @decide (riseP L) (Classical.propDecidable _)
theorem riseB_yes {L : List Int} (h : riseP L) : riseB L = true := @decide_eq_true _ (Classical.propDecidable _) h
theorem riseB_no {L : List Int} (h : ¬ riseP L) : riseB L = false := @decide_eq_false _ (Classical.propDecidable _) h
def yRise (K : PySem.W.Frag) (Ps : List Tbl2) : Sp := fun vs H Q _ => ∃ (v : V) (d : PyData) (b : Bool), vs = [v] ∧ Dp K H v d ∧ ((∃ L : List Int, d = .tuple (L.map .int) ∧ L.length ≤ 100 ∧ b = riseB L) ∨ (∃ i, d = .int i ∧ b = false)) ∧ TabsG H Ps ∧ ∀ H', KT Ps H H' → Q (.bl b) H'
theorem walk_zipT {K : PySem.W.Frag} {a b : Addr} {xs ys : List V} {n : Nat} (hn : n = min xs.length ys.length) : Walk (RZ.ItzT K a b) n (fun H => SqT K H a xs ∧ SqT K H b ys) (YPair (fun i => xs[i]?) (fun i => ys[i]?)) := by
  subst hn
  refine ⟨fun i _ hi q => ?_, fun _ q => ⟨xs, ys, q.1, q.2, by omega⟩, fun i H v H' _ q y => ?_⟩
  · have h1 : i < xs.length := by omega
    have h2 : i < ys.length := by omega
    exact ⟨xs, ys, xs[i], ys[i], q.1, q.2, by simp [h1], by simp [h2]⟩
  · obtain ⟨T, x, z, h1, h2, h3, h4, h5⟩ := y
    exact ⟨T, x, z, h1, h2, h3, h4 xs q.1, h5 ys q.2⟩
theorem DpAll.intsI {K : PySem.W.Frag} {H : Hp} : ∀ {vs : List V} {L : List Int}, DpAll K H vs (L.map PyData.int) → vs = L.map V.int
  | _, [], h => DpAll.nilI h
  | _, i :: L, h => by
    obtain ⟨v, r, rfl, h1, h2⟩ := DpAll.consI (show DpAll K H _ (.int i :: L.map PyData.int) from h)
    rw [Dp.intI h1, DpAll.intsI h2]; rfl
theorem pg_tupK {X : Cx} {pos : Pos} {es : List Expr} {k : Nat} {t : TGs} {n : Nat} (K : PySem.W.Frag) (hK : X.K = K) (hc : X.calm = true) (h : PGs X es t)
    (hn : (assignEach es X.env).length = n := by rfl) (hst : (assignEach es X.env).findIdx? (·.1) = none := by rfl) : PG X (.Tuple es k pos) (gTup K n t) := by
  subst hK; exact pg_tup hc h hn hst
section
variable {P : Program} {w : World} {K : PySem.W.Frag} {mg : Str → Option Value} {base : Heap} {A : Nat → Addr} {D : Nat → FuncData}
theorem ok_told (T : Txt K mg A D) : FnOk P w K mg base CX0 1 (A 12) (D 12) ["evidence", "word", "length"] (yTold K) := by
  refine T.F_is_told.ok sc_is_told (fun vs H Q E h => ?_) (fun cdv A' outer s H vs Q E hr h => ?_)
  · obtain ⟨v, ds, z, n, rfl, _⟩ := h; rfl
  obtain ⟨v, ds, z, n, rfl, hd, kd, hn, q⟩ := h
  refine ⟨_, (pss_one (ps_ret (pe_and (pe_callB call_isi rfl T.z_isinstance (by decide +kernel) (pa_cons (pv 0) (pa_cons (pe_bltn (v := .ty "tuple") rfl T.z_tuple (by decide +kernel) rfl) pa_nil))) (pe_and (pe_cmpR op_eq (pe_callB call_len_seq rfl T.z_len PySem.boot_len (pa_cons (pv 0) pa_nil)) (pv 2) (nomark _)) (pe_one (pe_cmpR op_eq (pe_ix (r := rIxT K) ix_tup (pv 0) pe_int (fun _ _ => rfl)) (pv 1) (nomark _))))))), ?_⟩
  obtain ⟨a, xs, rfl, ha, hxs⟩ := Dp.tupI hd
  have hl : xs.length = ds.length := DpAll.len hxs
  refine ⟨_, rfl, _, _, _, _, true, rfl, .ty _, ty_at hd True.intro, kit_ty (show kitB "tuple" "tuple" = some true by decide +kernel), ⟨_, rfl, ?_⟩⟩
  refine ⟨_, rfl, a, _, rfl, .inr ha, _, rfl, rfl, _, rfl, ?_⟩
  by_cases c : ds.length = n
  · rw [decide_eq_true (show V.int ((xs.length : Nat) : Int) = V.int ((n : Nat) : Int) by rw [hl, c])]
    refine iteT ?_
    rcases kd with rfl | ⟨s1, r, rfl⟩
    · exact absurd c (by show ¬ 0 = n; omega)
    · obtain ⟨u, us, rfl, hu, hus⟩ := DpAll.consI hxs
      obtain rfl := Dp.strI hu
      refine ⟨_, rfl, a, _, 0, _, rfl, rfl, ha, atI_nat (j := 0) rfl, _, rfl, rfl, ?_⟩
      have e : toldB (.str s1 :: r) z n = decide (V.str s1 = V.str z) := by
        unfold toldB
        rw [decide_eq_true c, Bool.true_and]
        by_cases e : s1 = z
        · show decide (s1 = z) = _
          rw [decide_eq_true e, decide_eq_true (congrArg V.str e)]
        · show decide (s1 = z) = _
          rw [decide_eq_false e, decide_eq_false (fun h => e (V.str.inj h))]
      rw [e] at q
      exact q
  · rw [decide_eq_false (show ¬ V.int ((xs.length : Nat) : Int) = V.int ((n : Nat) : Int) from fun h => c (by have := V.int.inj h; omega))]
    refine iteF ?_
    have e : toldB ds z n = false := by
      unfold toldB
      rw [decide_eq_false c]; rfl
    rw [e] at q
    exact q
theorem ok_rising (T : Txt K mg A D) {Ps : List Tbl2} {P1 : Addr} (TF : TbF base mg (D 15) P1) (hP : (P1, none) ∈ Ps) : FnOk P w K mg base CX0 8 (A 15) (D 15) ["places"] (yRise K Ps) := by
  obtain ⟨cc, hc, TB0⟩ := TF
  have TB := tabB_of TB0
  have G_is_number := ok_is_number (P := P) (w := w) (base := base) T
  refine (fun_okC (k := 7) T.F_is_rising hc sc_is_rising (fun vs H Q E h => ?_) (fun A' outer s H vs Q E hr h => ?_) : FnOk P w K mg base CX0 8 _ _ _ _)
  · obtain ⟨v, d, b, rfl, _⟩ := h; rfl
  obtain ⟨v, d, b, rfl, hd, kd, hT, fin⟩ := h
  have hnd := sc_is_rising.nd
  refine ⟨_, (pss_cons (ps_if (PW.pt (pw_or (pt_not (pt_val (pe_callB call_isi rfl T.z_isinstance (by decide +kernel) (pa_cons (pv 0) (pa_cons (pe_bltn (v := .ty "tuple") rfl T.z_tuple (by decide +kernel) rfl) pa_nil))))) (pw_or1 (pt_cmpR op_eq (pe_callB call_len_seq rfl T.z_len PySem.boot_len (pa_cons (pv 0) pa_nil)) pe_int (nomark _))))) (pss_one (ps_ret pe_bl)) pss_nil) (pss_cons (ps_if (pt_not (pt_val (pe_allX (N := ["place"]) (js := [none]) hr rfl rfl T.z_all TB rfl (gxS_by (n := s.heap.objs.size + 1) (d := defScope s_is_rising) rfl (by decide +kernel)) (capOk_by (d := defScope s_is_rising) (dN := N_is_rising) rfl rfl rfl (by decide +kernel)) (pi_tup (pv 0)) (fun _ _ _ _ _ => (pg_name (i := 0) (show List.Nodup (["place"] : List Str) by decide) rfl (Or.inl rfl))) (fun _ _ _ _ _ => pts_nil) (fun _ _ _ _ _ => (pe_call G_is_number (room_gx (hr.mono (by first | decide | omega))) rfl T.m_is_number T.F_is_number.kp T.b_is_number .nil pass0 (pa_cons (pv 0) pa_nil))) (by intro _; rfl) (by decide +kernel)))) (pss_one (ps_ret pe_bl)) pss_nil) (pss_one (ps_ret (pe_and (pe_cmpR op_ge (pe_ix (r := rIxT K) ix_tup (pv 0) pe_int (fun _ _ => rfl)) pe_int (nomark _)) (pe_one (pe_callB (cr_all rfl) rfl T.z_all (by decide +kernel) (pa_cons (pe_lc (own := [("low", 2), ("high", 3)]) rfl hnd (RZ.pi_zipA rfl T.z_zip (pa_cons (pv 0) (pa_cons (pe_slice (r := rSlA K) sl_tupA (pv 0) (po_some pe_int) po_none) pa_nil))) (blkOk_by (own := [("low", 2), ("high", 3)]) (N := N_is_rising) (sc := defScope s_is_rising) (by decide +kernel)) (fun _ _ _ _ _ => (pg_tupK (n := 2) K rfl rfl (pgs_cons (pg_name (i := 2) hnd rfl (Or.inl rfl)) (pgs_cons (pg_name (i := 3) hnd rfl (Or.inl rfl)) pgs_nil)))) (fun _ _ _ _ _ => pts_nil) (fun _ _ _ _ _ => (pe_cmpR op_lt (pv 2) (pv 3) (nomark _)))) pa_nil)))))))), ?_⟩
  rcases kd with ⟨L, rfl, hL, rfl⟩ | ⟨i, rfl, rfl⟩
  case inr => exact ⟨_, rfl, _, _, _, _, false, rfl, .ty _, ty_at hd True.intro, kit_ty (show kitB "int" "tuple" = some false by decide +kernel), _, rfl, iteT (iteT (fin H (KT.refl hT)))⟩
  obtain ⟨a, xs, rfl, ha, hxs⟩ := Dp.tupI hd
  obtain rfl := DpAll.intsI hxs
  refine ⟨_, rfl, _, _, _, _, true, rfl, .ty _, ty_at hd True.intro, kit_ty (show kitB "tuple" "tuple" = some true by decide +kernel), _, rfl, iteF ?_⟩
  refine ⟨_, rfl, a, _, rfl, .inr ha, rfl, _, rfl, ?_⟩
  have hxl : (L.map V.int).length = L.length := List.length_map _
  refine ite2 (fun c => ?_) (fun c => ?_)
  · have c' : L = [] := List.eq_nil_of_length_eq_zero (by have := V.int.inj (of_decide_eq_true c); omega)
    rw [riseB_no (fun h => h.1 c')] at fin
    exact fin H (KT.refl hT)
  have hL0 : L ≠ [] := fun e => c (by rw [e]; rfl)
  refine ⟨_, rfl, a, rfl, ⟨_, ha⟩, tab_of hT hP, fun H2 t2 => ?_⟩
  have k2 := KT.tabbed hT hP t2
  refine gx_it (walk_tup (xs := L.map V.int)) (fun i τ H' => KT Ps H H' ∧ ∃ c0, τ = [c0]) ⟨k2, _, rfl⟩ (fun _ _ H' _ h => (h.1.tk hT).seq ha) ?_ ?_
  · rintro i x τ H3 H4 hi ⟨k3, c0, rfl⟩ ⟨rfl, hx⟩
    rw [List.getElem?_map] at hx
    obtain ⟨j, hj, rfl⟩ := Option.map_eq_some_iff.mp hx
    refine ⟨_, rfl, .int j, .int j, rfl, .int _, True.intro, ⟨_, rfl, ?_⟩⟩
    rw [if_neg (fun z => Bool.false_ne_true z.symm)]
    exact ⟨k3, _, rfl⟩
  · rintro τ H3 ⟨k3, _⟩
    refine ⟨_, rfl, iteF ?_⟩
    obtain ⟨x0, L1, rfl⟩ := List.exists_cons_of_ne_nil hL0
    have ha3 := (k3.tk hT).seq ha
    refine ⟨_, rfl, a, _, 0, _, rfl, rfl, ha3, atI_nat (j := 0) rfl, _, _, rfl, rfl, _, rfl, ?_⟩
    refine ite2 (fun c0 => ?_) (fun c0 => ?_)
    · have h0 : 0 ≤ x0 := of_decide_eq_true c0
      refine ⟨_, rfl, _, rfl, _, rfl, ?_⟩
      dsimp only [tNoPart]
      refine slA_use ha3 fun pw H4 s4 hw => ?_
      have k4 := k3.same s4
      have ew : cutV ((x0 :: L1).map V.int) (some 1) none = ((x0 :: L1).map V.int).drop 1 := cutV_from _ 1
      rw [ew] at hw
      refine ⟨a, pw, _, _, rfl, .inr ⟨(k4.tk hT).seq ha, hw, fun R hR => ?_⟩⟩
      have hR0 : H R = none := k4.none hR
      refine lc_it (walk_zipT (xs := (x0 :: L1).map V.int) (ys := ((x0 :: L1).map V.int).drop 1) (n := L1.length) (by simp)) (fun i H' => KT Ps H H' ∧ SqT K H' pw (((x0 :: L1).map V.int).drop 1) ∧ H' R = some (.lst (((List.range i).map fun j => decide ((x0 :: L1).getD j 0 < (x0 :: L1).getD (j + 1) 0)).map V.bl)))
        ⟨k4.same (same_new hR), (TK.same (same_new hR)).seq hw, upd_same⟩ (fun _ _ _ h => ⟨(h.1.tk hT).seq ha, h.2.1⟩) ?_ ?_
      · rintro i v H5 H6 hi ⟨k5, w5, e5⟩ ⟨T0, x, y, rfl, hT0, rfl, ex, ey⟩
        have sT := same_new (o := .tup [x, y]) hT0
        dsimp only at ex ey
        have hi1 : i + 1 < (x0 :: L1).length := by rw [List.length_cons]; omega
        have hi0 : i < (x0 :: L1).length := by omega
        have e1 : x = .int ((x0 :: L1).getD i 0) := by
          rw [List.getElem?_map, List.getElem?_eq_getElem hi0] at ex
          rw [List.getD_eq_getElem?_getD, List.getElem?_eq_getElem hi0]
          exact (Option.some.inj ex).symm
        have e2 : y = .int ((x0 :: L1).getD (i + 1) 0) := by
          rw [List.getElem?_drop, Nat.add_comm 1 i, List.getElem?_map, List.getElem?_eq_getElem hi1] at ey
          rw [List.getD_eq_getElem?_getD, List.getElem?_eq_getElem hi1]
          exact (Option.some.inj ey).symm
        subst e1 e2
        refine ⟨T0, _, rfl, SqT.of upd_same, rfl, _, _, rfl, _, _, rfl, rfl, ?_⟩
        refine ⟨rfl, ?_⟩
        refine ⟨_, rfl, _, rfl, _, _, rfl, rfl, _, sT _ _ e5, ?_, (k5.same sT).updN (sT _ _ e5) hR0, ?_, ?_⟩
        · rw [List.length_map, List.length_map, List.length_range]
          rw [List.length_cons] at hL
          exact len_lt (by omega)
        · exact (TK.updL (TK.same sT) (sT _ _ e5)).seq w5
        · rw [List.range_succ, List.map_append, List.map_append]
          exact upd_same
      · rintro H5 ⟨k5, w5, e5⟩
        refine ⟨R, _, rfl, SqL.of e5, ?_⟩
        have e : ((List.range L1.length).map fun j => decide ((x0 :: L1).getD j 0 < (x0 :: L1).getD (j + 1) 0)).all id = riseB (x0 :: L1) := by
          cases hb : ((List.range L1.length).map fun j => decide ((x0 :: L1).getD j 0 < (x0 :: L1).getD (j + 1) 0)).all id with
          | true =>
            refine (riseB_yes ⟨List.cons_ne_nil _ _, h0, fun i u v hu hv => ?_⟩).symm
            have hi := (List.getElem?_eq_some_iff.mp hv).1
            rw [List.length_cons] at hi
            have := List.all_eq_true.mp hb (decide ((x0 :: L1).getD i 0 < (x0 :: L1).getD (i + 1) 0)) (List.mem_map.mpr ⟨i, List.mem_range.mpr (by omega), rfl⟩)
            have := of_decide_eq_true this
            rw [List.getD_eq_getElem?_getD, List.getD_eq_getElem?_getD, hu, hv] at this
            exact this
          | false =>
            refine (riseB_no fun h => ?_).symm
            obtain ⟨b, hb1, hb2⟩ := List.all_eq_false.mp hb
            obtain ⟨j, hj, rfl⟩ := List.mem_map.mp hb1
            have hj' := List.mem_range.mp hj
            have hj0 : j < (x0 :: L1).length := by rw [List.length_cons]; omega
            have hj1 : j + 1 < (x0 :: L1).length := by rw [List.length_cons]; omega
            refine hb2 (decide_eq_true ?_)
            rw [List.getD_eq_getElem?_getD, List.getD_eq_getElem?_getD, List.getElem?_eq_getElem hj0, List.getElem?_eq_getElem hj1]
            exact h.2.2 j _ _ (List.getElem?_eq_getElem hj0) (List.getElem?_eq_getElem hj1)
        rw [e]
        exact fin H5 k5
    · have h0 : ¬ 0 ≤ x0 := fun h => c0 (decide_eq_true h)
      rw [riseB_no (fun (h : riseP (x0 :: L1)) => h0 h.2.1)] at fin
      exact fin H3 k3
end


/-! ### places that are a standing; indexes -/
noncomputable def standB (ws : List Str) (ps : List Pat) (gap : Nat) (L : List Int) : Bool :=
  riseB L && (decide (L.length = ps.length) && (decide (L.getLastD 0 < (ws.length : Int)) && (decide (L.getLastD 0 - L.headD 0 + 1 - (L.length : Int) ≤ (gap : Int)) && ((List.range L.length).map fun i => fitsB (ws.getD (L.getD i 0).toNat "") (ps.getD i ("", ""))).all id)))
def yStanding (K : PySem.W.Frag) (Ps : List Tbl2) : Sp := fun vs H Q _ => ∃ (vd vr vp : V) (ws : List Str) (ps : List Pat) (gap : Nat) (d : PyData) (b : Bool), vs = [vd, vr, vp] ∧ Dp K H vd (encD ws) ∧ Dp K H vr (encRow ps gap) ∧ Dp K H vp d ∧ Imm d ∧
  ((∃ L : List Int, d = .tuple (L.map .int) ∧ L.length ≤ 100 ∧ b = standB ws ps gap L) ∨ (∃ i, d = .int i ∧ b = false)) ∧ TabsG H Ps ∧ ∀ H', KT Ps H H' → Q (.bl b) H'
def yIndex (K : PySem.W.Frag) : Sp := fun vs H Q _ => ∃ (i : Int) (p : Addr) (xs : List V), vs = [.int i, .ref p] ∧ SqT K H p xs ∧ Q (.bl (decide (0 ≤ i) && decide (i < (xs.length : Int)))) H
theorem rise_pos {L : List Int} (h : riseP L) : ∀ (i : Nat) (a : Int), L[i]? = some a → 0 ≤ a := by
  obtain ⟨h1, h2, h3⟩ := h
  intro i
  induction i with
  | zero => intro a ha; cases L with
    | nil => exact absurd rfl h1
    | cons x r => rw [← (Option.some.inj ha)]; exact h2
  | succ i ih =>
    intro a ha
    have hi := (List.getElem?_eq_some_iff.mp ha).1
    have h0 := List.getElem?_eq_getElem (show i < L.length by omega)
    have := h3 i _ a h0 ha
    have := ih _ h0
    omega
theorem rise_last {L : List Int} (h : riseP L) : ∀ (d i : Nat) (a : Int), L[i]? = some a → i + d + 1 = L.length → a ≤ L.getLastD 0
  | 0, i, a, ha, hd => by
    have : L.getLastD 0 = a := by
      obtain ⟨u, x, rfl⟩ : ∃ u x, L = u ++ [x] := ⟨L.dropLast, L.getLast h.1, (List.dropLast_concat_getLast h.1).symm⟩
      rw [List.getLastD_concat]
      rw [List.length_append, List.length_singleton] at hd
      rw [List.getElem?_append_right (by omega), show i - u.length = 0 by omega] at ha
      exact Option.some.inj ha
    omega
  | d + 1, i, a, ha, hd => by
    have hi : i + 1 < L.length := by omega
    have h1 := List.getElem?_eq_getElem hi
    have := h.2.2 i a _ ha h1
    have := rise_last h d (i + 1) _ h1 (by omega)
    omega
section
variable {P : Program} {w : World} {K : PySem.W.Frag} {mg : Str → Option Value} {base : Heap} {A : Nat → Addr} {D : Nat → FuncData}
theorem ok_is_index (T : Txt K mg A D) : FnOk P w K mg base CX0 2 (A 18) (D 18) ["value", "parts"] (yIndex K) := by
  have G_is_number := ok_is_number (P := P) (w := w) (base := base) T
  refine T.F_is_index.ok sc_is_index (fun vs H Q E h => ?_) (fun cdv A' outer s H vs Q E hr h => ?_)
  · obtain ⟨i, p, xs, rfl, _⟩ := h; rfl
  obtain ⟨i, p, xs, rfl, hp, q⟩ := h
  refine ⟨_, (pss_one (ps_ret (pe_and (pe_call G_is_number (hr.mono (by first | decide | omega)) rfl T.m_is_number T.F_is_number.kp T.b_is_number .nil pass0 (pa_cons (pv 0) pa_nil)) (pe_one (pe_chain op_le op_lt pe_int (pv 0) (pe_callB call_len_seq rfl T.z_len PySem.boot_len (pa_cons (pv 1) pa_nil))))))), ?_⟩
  refine ⟨_, rfl, .int i, .int i, rfl, .int _, True.intro, ⟨_, rfl, ?_⟩⟩
  refine iteT ⟨_, rfl, _, _, rfl, rfl, _, rfl, ?_⟩
  by_cases c : 0 ≤ i
  · rw [decide_eq_true c] at q ⊢
    exact iteT ⟨_, rfl, p, xs, rfl, .inr hp, _, _, rfl, rfl, q⟩
  · rw [decide_eq_false c] at q ⊢
    exact iteF q
theorem ok_standing (T : Txt K mg A D) {Ps : List Tbl2} (G_is_rising : FnOk P w K mg base CX0 8 (A 15) (D 15) ["places"] (yRise K Ps)) : FnOk P w K mg base CX0 9 (A 14) (D 14) ["document", "row", "places"] (yStanding K Ps) := by
  have G_fits := ok_fits (P := P) (w := w) (base := base) T
  refine T.F_is_standing.ok (k := 8) sc_is_standing (fun vs H Q E h => ?_) (fun cdv A' outer s H vs Q E hr h => ?_)
  · obtain ⟨vd, vr, vp, ws, ps, gap, d, b, rfl, _⟩ := h; rfl
  obtain ⟨vd, vr, vp, ws, ps, gap, d, b, rfl, hd, hrw, hp, ip, kd, hT, fin⟩ := h
  have hnd := sc_is_standing.nd
  refine ⟨_, (pss_cons (ps_asg (pv 1) (pg_tup rfl (pgs_cons (pg_name (i := 5) hnd rfl (Or.inl rfl)) (pgs_cons (pg_name (i := 6) hnd rfl (Or.inl rfl)) (pgs_cons (pg_name (i := 7) hnd rfl (Or.inl rfl)) pgs_nil))))) (pss_cons (ps_if (PW.pt (pw_or (pt_not (pt_val (pe_call G_is_rising (hr.mono (by first | decide | omega)) rfl T.m_is_rising T.F_is_rising.kp T.b_is_rising .nil pass0 (pa_cons (pv 2) pa_nil)))) (pw_or (pt_cmpR op_ne (pe_callB call_len_seq rfl T.z_len PySem.boot_len (pa_cons (pv 2) pa_nil)) (pe_callB call_len_seq rfl T.z_len PySem.boot_len (pa_cons (pv 6) pa_nil)) (nomark _)) (pw_or1 (pt_cmpR op_ge (pe_ix (r := rIxT K) ix_tup (pv 2) (pe_un un_neg pe_int) (fun _ _ => rfl)) (pe_callB call_len_seq rfl T.z_len PySem.boot_len (pa_cons (pv 0) pa_nil)) (nomark _)))))) (pss_one (ps_ret pe_bl)) pss_nil) (pss_cons (ps_if (pt_cmpR op_gt (pe_op op_sub (pe_op op_add (pe_op op_sub (pe_ix (r := rIxT K) ix_tup (pv 2) (pe_un un_neg pe_int) (fun _ _ => rfl)) (pe_ix (r := rIxT K) ix_tup (pv 2) pe_int (fun _ _ => rfl))) pe_int) (pe_callB call_len_seq rfl T.z_len PySem.boot_len (pa_cons (pv 2) pa_nil))) (pv 7) (nomark _)) (pss_one (ps_ret pe_bl)) pss_nil) (pss_one (ps_ret (pe_callB (cr_all rfl) rfl T.z_all (by decide +kernel) (pa_cons (pe_lc (own := [("place", 3), ("pattern", 4)]) rfl hnd (RZ.pi_zipA rfl T.z_zip (pa_cons (pv 2) (pa_cons (pv 6) pa_nil))) (blkOk_by (own := [("place", 3), ("pattern", 4)]) (N := N_is_standing) (sc := defScope s_is_standing) (by decide +kernel)) (fun _ _ _ _ _ => (pg_tupK (n := 2) K rfl rfl (pgs_cons (pg_name (i := 3) hnd rfl (Or.inl rfl)) (pgs_cons (pg_name (i := 4) hnd rfl (Or.inl rfl)) pgs_nil)))) (fun _ _ _ _ _ => pts_nil) (fun _ _ _ _ _ => (pe_call G_fits (hr.mono (by first | decide | omega)) rfl T.m_fits T.F_fits.kp T.b_fits .nil pass0 (pa_cons (pe_ix (r := rIxT K) ix_tup (pv 0) (pv 3) (fun _ _ => rfl)) (pa_cons (pv 4) pa_nil))))) pa_nil))))))), ?_⟩
  obtain ⟨ad, rfl, had⟩ := dp_encD hd
  obtain ⟨ar, pa, pxs, rfl, har, hpa, hpx⟩ := dp_encRow hrw
  have hpxl : pxs.length = ps.length := by rw [DpAll.len hpx, List.length_map]
  refine ⟨_, rfl, ar, _, rfl, har, rfl, _, _, rfl, _, _, rfl, _, _, rfl, rfl, ?_⟩
  rcases kd with ⟨L, rfl, hL, rfl⟩ | ⟨i, rfl, rfl⟩
  case inr => exact ⟨_, rfl, vp, _, false, rfl, hp, .inr ⟨i, rfl, rfl⟩, hT, fun H2 k2 => ⟨_, rfl, iteT (iteT (fin H2 k2))⟩⟩
  obtain ⟨a, xs, rfl, ha, hxs⟩ := Dp.tupI hp
  obtain rfl := DpAll.intsI hxs
  have hxl : (L.map V.int).length = L.length := List.length_map _
  refine ⟨_, rfl, .ref a, _, riseB L, rfl, hp, .inl ⟨L, rfl, hL, rfl⟩, hT, fun H2 k2 => ⟨_, rfl, ?_⟩⟩
  have ha2 := (k2.tk hT).seq ha
  have hpa2 := (k2.tk hT).seq hpa
  have had2 := (k2.tk hT).seq had
  cases hb : riseB L with
  | false =>
    have e : standB ws ps gap L = false := by unfold standB; rw [hb]; rfl
    rw [e] at fin
    exact iteT (iteT (fin H2 k2))
  | true =>
    have hri : riseP L := by
      by_cases h : riseP L
      · exact h
      · rw [riseB_no h] at hb; exact nomatch hb
    refine iteF ⟨_, rfl, a, _, rfl, .inr ha2, _, rfl, pa, _, rfl, .inr hpa2, rfl, _, rfl, ?_⟩
    by_cases c1 : L.length = ps.length
    case neg =>
      have e : standB ws ps gap L = false := by unfold standB; rw [hb, decide_eq_false c1]; rfl
      rw [e] at fin
      rw [decide_eq_false (show ¬ V.int (((L.map V.int).length : Nat) : Int) = V.int ((pxs.length : Nat) : Int) from fun h => c1 (by have := V.int.inj h; omega))]
      exact iteT (iteT (fin H2 k2))
    rw [decide_eq_true (show V.int (((L.map V.int).length : Nat) : Int) = V.int ((pxs.length : Nat) : Int) by rw [hxl, hpxl, c1])]
    refine iteF ?_
    have atl : atI (L.map V.int) (-1) = some (.int (L.getLastD 0)) := by
      obtain ⟨u, x, rfl⟩ : ∃ u x, L = u ++ [x] := ⟨L.dropLast, L.getLast hri.1, (List.dropLast_concat_getLast hri.1).symm⟩
      rw [List.map_append, List.getLastD_concat]
      exact atI_last _ _
    have at0 : atI (L.map V.int) 0 = some (.int (L.headD 0)) := by
      obtain ⟨x, r, rfl⟩ := List.exists_cons_of_ne_nil hri.1
      exact atI_nat (j := 0) rfl
    refine ⟨_, rfl, _, rfl, a, _, -1, _, rfl, rfl, ha2, atl, _, rfl, ad, _, rfl, .inr had2, _, _, rfl, rfl, _, rfl, ?_⟩
    have hwl : (ws.map V.str).length = ws.length := List.length_map _
    refine ite2 (fun c2 => ?_) (fun c2 => ?_)
    · have c2' := of_decide_eq_true c2
      have e : standB ws ps gap L = false := by unfold standB; rw [hb, decide_eq_true c1, decide_eq_false (show ¬ L.getLastD 0 < (ws.length : Int) by omega)]; rfl
      rw [e] at fin
      exact fin H2 k2
    have c2' : L.getLastD 0 < (ws.length : Int) := by
      have : ¬ (((ws.map V.str).length : Nat) : Int) ≤ L.getLastD 0 := fun h => c2 (decide_eq_true h)
      omega
    refine ⟨_, rfl, _, rfl, a, _, -1, _, rfl, rfl, ha2, atl, _, rfl, a, _, 0, _, rfl, rfl, ha2, at0, _, _, rfl, rfl, _, _, rfl, rfl, _, rfl, a, _, rfl, .inr ha2, _, _, rfl, rfl, _, rfl, _, _, rfl, rfl, _, rfl, ?_⟩
    refine ite2 (fun c3 => ?_) (fun c3 => ?_)
    · have c3' := of_decide_eq_true c3
      have e : standB ws ps gap L = false := by unfold standB; rw [hb, decide_eq_true c1, decide_eq_true c2', decide_eq_false (by omega)]; rfl
      rw [e] at fin
      exact fin H2 k2
    have c3' : L.getLastD 0 - L.headD 0 + 1 - (L.length : Int) ≤ (gap : Int) := by
      have : ¬ ((gap : Int) < L.getLastD 0 - L.headD 0 + 1 - (((L.map V.int).length : Nat) : Int)) := fun h => c3 (decide_eq_true h)
      omega
    have e : standB ws ps gap L = ((List.range L.length).map fun i => fitsB (ws.getD (L.getD i 0).toNat "") (ps.getD i ("", ""))).all id := by
      unfold standB; rw [hb, decide_eq_true c1, decide_eq_true c2', decide_eq_true c3']; rfl
    rw [e] at fin
    refine ⟨_, rfl, _, rfl, a, pa, _, _, rfl, .inr ⟨ha2, hpa2, fun R hR => ?_⟩⟩
    have hR0 : H R = none := k2.none hR
    refine lc_it (walk_zipT (xs := L.map V.int) (ys := pxs) (n := L.length) (by omega)) (fun i H' => KT Ps H H' ∧ H' R = some (.lst (((List.range i).map fun i => fitsB (ws.getD (L.getD i 0).toNat "") (ps.getD i ("", ""))).map V.bl)))
      ⟨k2.same (same_new hR), upd_same⟩ (fun _ _ _ h => ⟨(h.1.tk hT).seq ha, (h.1.tk hT).seq hpa⟩) ?_ ?_
    · rintro i v H5 H6 hi ⟨k5, e5⟩ ⟨T0, x, y, rfl, hT0, rfl, ex, ey⟩
      have sT := same_new (o := .tup [x, y]) hT0
      dsimp only at ex ey
      have hLi := List.getElem?_eq_getElem hi
      have gL : L.getD i 0 = L[i] := by rw [List.getD_eq_getElem?_getD, hLi]; rfl
      have e1 : x = .int L[i] := by
        rw [List.getElem?_map, hLi] at ex
        exact (Option.some.inj ex).symm
      subst e1
      have p0 := rise_pos hri i _ hLi
      have p1 := rise_last hri (L.length - i - 1) i _ hLi (by omega)
      obtain ⟨j, hj⟩ := Int.eq_ofNat_of_zero_le p0
      have hjw : j < ws.length := by omega
      obtain ⟨u, hu, du⟩ := DpAll.get hpx (i := i) (d := encT (ps.getD i ("", ""))) (by
        have hh : i < ps.length := by omega
        rw [List.getElem?_map, List.getElem?_eq_getElem hh, List.getD_eq_getElem?_getD, List.getElem?_eq_getElem hh]; rfl)
      obtain rfl : y = u := Option.some.inj (ey.symm.trans hu)
      have k6 := k5.same sT
      refine ⟨T0, _, rfl, SqT.of upd_same, rfl, _, _, rfl, _, _, rfl, rfl, ?_⟩
      refine ⟨rfl, ?_⟩
      have aw : atI (ws.map V.str) L[i] = some (.str (ws.getD (L.getD i 0).toNat "")) := by
        rw [gL, hj]
        refine atI_nat ?_
        rw [List.getElem?_map, List.getElem?_eq_getElem hjw, List.getD_eq_getElem?_getD, Int.toNat_natCast, List.getElem?_eq_getElem hjw]
        rfl
      refine ⟨_, rfl, _, rfl, ad, _, _, _, rfl, rfl, (k6.tk hT).seq had, aw, _, rfl, _, y, _, rfl, Dp.keep (k6.tk hT) du (imm_encT _), _, sT _ _ e5, ?_, k6.updN (sT _ _ e5) hR0, ?_⟩
      · rw [List.length_map, List.length_map, List.length_range]
        exact len_lt (by omega)
      · rw [List.range_succ, List.map_append, List.map_append]
        exact upd_same
    · rintro H5 ⟨k5, e5⟩
      exact ⟨R, _, rfl, SqL.of e5, fin H5 k5⟩
end


/-! ### what evidence shows -/
def yn (b : Bool) : Str := if b = true then "yes" else "no"
def ynV : Option Bool → V
  | some b => .str (yn b)
  | none => .non
theorem yn_eq (r : Option Bool) (s : Bool) : decide (ynV r = .str (yn s)) = decide (r = some s) := by
  rcases r with _ | b
  · exact (decide_eq_false (fun h => nomatch h)).trans (decide_eq_false (fun h => nomatch h)).symm
  · cases b <;> cases s <;> decide
theorem yn_scal (r : Option Bool) (z : Str) : scal (ynV r) (.str z) = true := by
  rcases r with _ | b <;> rfl
def allRes {α : Type} : Ed α → Option Bool
  | .tag s => if s = "all" then some true else none
  | _ => none
noncomputable def rowRes {α : Type} (ws : List Str) (ps : List Pat) (gap : Nat) : Ed α → Option Bool
  | .tag s => if s = "nowhere" ∧ rowB ws ps gap = false then some false else none
  | .stands L => if standB ws ps gap L = true then some true else none
  | _ => none
noncomputable def resE (ws : List Str) : ∀ n, Qn n → ∀ m, En m → Option Bool
  | 0, q, _, _ => nomatch (q : Empty)
  | _ + 1, _, 0, e => nomatch (e : Empty)
  | n + 1, q, m + 1, e => match (q : Qd (Qn n)) with
    | .all => allRes (e : Ed (En m))
    | .row ps gap => rowRes ws ps gap (e : Ed (En m))
    | .neg q => match (e : Ed (En m)) with
      | .neg e => (resE ws n q m e).map (!·)
      | _ => none
    | .bin o qs => match (e : Ed (En m)) with
      | .one i e => if 0 ≤ i then (match qs[i.toNat]? with
        | some q => if resE ws n q m e = some o then some o else none
        | none => none) else none
      | .each es => if (decide (es.length = qs.length) && ((qs.zip es).map fun p => decide (resE ws n p.1 m p.2 = some (!o))).all id) = true then some (!o) else none
      | _ => none
def okE : ∀ m, En m → Prop
  | 0, e => nomatch (e : Empty)
  | m + 1, e => match (e : Ed (En m)) with
    | .tag s => PyData.strOk s = true
    | .two s _ => s ≠ "not" ∧ s ≠ "each" ∧ s ≠ "one" ∧ PyData.strOk s = true
    | .stands L => L.length ≤ 100
    | .one _ e => okE m e
    | .neg e => okE m e
    | .each es => ∀ e ∈ es, okE m e
    | _ => True
def tolE {α : Type} (z : Str) (n : Nat) : Ed α → Bool
  | .tag s => decide (1 = n) && decide (s = z)
  | .nil => false
  | .two s _ => decide (2 = n) && decide (s = z)
  | .stands _ => decide (2 = n) && decide (("stands" : Str) = z)
  | .one _ _ => decide (3 = n) && decide (("one" : Str) = z)
  | .neg _ => decide (2 = n) && decide (("not" : Str) = z)
  | .each _ => decide (2 = n) && decide (("each" : Str) = z)
theorem told_use {m : Nat} (e : Ed (En m)) : ∃ ds, encE (m + 1) e = .tuple ds ∧ (ds = [] ∨ ∃ s r, ds = .str s :: r) ∧ ∀ z n, toldB ds z n = tolE z n e := by
  cases e with
  | tag s => exact ⟨_, rfl, .inr ⟨_, _, rfl⟩, fun z n => rfl⟩
  | nil => exact ⟨_, rfl, .inl rfl, fun z n => Bool.and_false _⟩
  | two s i => exact ⟨_, rfl, .inr ⟨_, _, rfl⟩, fun z n => rfl⟩
  | stands L => exact ⟨_, rfl, .inr ⟨_, _, rfl⟩, fun z n => rfl⟩
  | one i e => exact ⟨_, rfl, .inr ⟨_, _, rfl⟩, fun z n => rfl⟩
  | neg e => exact ⟨_, rfl, .inr ⟨_, _, rfl⟩, fun z n => rfl⟩
  | each es => exact ⟨_, rfl, .inr ⟨_, _, rfl⟩, fun z n => rfl⟩
def yChkRow (K : PySem.W.Frag) (Ps : List Tbl2) : Sp := fun vs H Q _ => ∃ (vd vr ve : V) (ws : List Str) (ps : List Pat) (gap m : Nat) (e : Ed (En m)), vs = [vd, vr, ve] ∧ Dp K H vd (encD ws) ∧ Dp K H vr (encRow ps gap) ∧ okR ps ∧ Dp K H ve (encE (m + 1) e) ∧ okE (m + 1) e ∧ TabsG H Ps ∧ ws.length ≤ 1000 ∧ ∀ H', KT Ps H H' → Q (ynV (rowRes ws ps gap e)) H'
def yChk (K : PySem.W.Frag) (Ps : List Tbl2) (n : Nat) : Sp := fun vs H Q _ => ∃ (vd vq ve : V) (ws : List Str) (q : Qn n) (m : Nat) (e : En m), vs = [vd, vq, ve] ∧ Dp K H vd (encD ws) ∧ Dp K H vq (encQ n q) ∧ okQ n q ∧ Dp K H ve (encE m e) ∧ okE m e ∧ TabsG H Ps ∧ ws.length ≤ 1000 ∧ ∀ H', KT Ps H H' → Q (ynV (resE ws n q m e)) H'
def DOpp (K : PySem.W.Frag) (w : World) (mg : Str → Option Value) : Prop := ∃ (d : Addr) (es : Array DictEntry) (n : Nat), mg "OPPOSITES" = some (.ref d) ∧ K.lookup d = some ⟨.type "dict", none, .dict es n, #[]⟩ ∧ PySem.W.KeysLit w.params es.toList ∧ (d == sysModules) = false ∧ (∃ t, PySem.W.nsIn K d "yes" = some (some (.str "no" t))) ∧ (∃ t, PySem.W.nsIn K d "no" = some (some (.str "yes" t)))
section
variable {P : Program} {w : World} {K : PySem.W.Frag} {mg : Str → Option Value} {base : Heap} {A : Nat → Addr} {D : Nat → FuncData}
theorem ok_check_row (T : Txt K mg A D) {Ps : List Tbl2} (G_matches1 : FnOk P w K mg base CX0 12 (A 1) (D 1) ["document", "question"] (yMatch K Ps 1)) (G_is_standing : FnOk P w K mg base CX0 9 (A 14) (D 14) ["document", "row", "places"] (yStanding K Ps)) : FnOk P w K mg base CX0 13 (A 13) (D 13) ["document", "row", "evidence"] (yChkRow K Ps) := by
  have G_matches := G_matches1
  have G_is_told := ok_told (P := P) (w := w) (base := base) T
  refine T.F_check_row.ok (k := 12) sc_check_row (fun vs H Q E h => ?_) (fun cdv A' outer s H vs Q E hr h => ?_)
  · obtain ⟨vd, vr, ve, ws, ps, gap, m, e, rfl, _⟩ := h; rfl
  obtain ⟨vd, vr, ve, ws, ps, gap, m, e, rfl, hd, hrw, okr, he, oke, hT, hws, fin⟩ := h
  have hnd := sc_check_row.nd
  refine ⟨_, (pss_cons (ps_if (PW.pt (pw_and (pt_val (pe_call G_is_told (hr.mono (by first | decide | omega)) rfl T.m_is_told T.F_is_told.kp T.b_is_told .nil pass0 (pa_cons (pv 2) (pa_cons pe_str (pa_cons pe_int pa_nil))))) (pw_and1 (pt_val (pe_call G_is_standing (hr.mono (by first | decide | omega)) rfl T.m_is_standing T.F_is_standing.kp T.b_is_standing .nil pass0 (pa_cons (pv 0) (pa_cons (pv 1) (pa_cons (pe_ix (r := rIxT K) ix_tup (pv 2) pe_int (fun _ _ => rfl)) pa_nil)))))))) (pss_one (ps_ret pe_str)) pss_nil) (pss_cons (ps_if (PW.pt (pw_and (pt_val (pe_call G_is_told (hr.mono (by first | decide | omega)) rfl T.m_is_told T.F_is_told.kp T.b_is_told .nil pass0 (pa_cons (pv 2) (pa_cons pe_str (pa_cons pe_int pa_nil))))) (pw_and1 (pt_not (pt_val (pe_call G_matches (hr.mono (by first | decide | omega)) rfl T.m_matches T.F_matches.kp T.b_matches .nil pass0 (pa_cons (pv 0) (pa_cons (pv 1) pa_nil)))))))) (pss_one (ps_ret pe_str)) pss_nil) (pss_one (ps_ret pe_non)))), ?_⟩
  obtain ⟨ds, eds, kds, hto⟩ := told_use e
  have hds : Dp K H ve (.tuple ds) := by rw [← eds]; exact he
  have ih : Imm (.tuple ds) := by rw [← eds]; exact imm_encE (m + 1) e
  -- the second test, in any later heap
  refine ⟨_, rfl, ve, ds, "stands", 2, rfl, hds, kds, (by decide), ⟨_, rfl, ?_⟩⟩
  rw [hto]
  have none2 : ∀ H1, KT Ps H H1 → tolE "nowhere" 1 e = false → rowRes ws ps gap e = none → Q .non H1 := fun H1 k1 _ h2 => by
    have := fin H1 k1
    rw [h2] at this
    exact this
  cases e with
  | tag s1 =>
    refine iteF (iteF ?_)
    refine ⟨_, rfl, ve, ds, "nowhere", 1, rfl, hds, kds, (by decide), ⟨_, rfl, ?_⟩⟩
    rw [hto]
    by_cases c : s1 = "nowhere"
    · subst c
      refine iteT ?_
      refine ⟨_, rfl, _, rfl, vd, vr, ws, (Qd.row ps gap : Qd (Qn 0)), rfl, hd, hrw, okr, hT, hws, fun H1 k1 => ⟨_, rfl, ?_⟩⟩
      have f1 := fin H1 k1
      cases hb : rowB ws ps gap with
      | true =>
        have e2 : rowRes ws ps gap (Ed.tag "nowhere" : Ed (En m)) = none := if_neg fun h => by rw [hb] at h; exact nomatch h.2
        rw [e2] at f1
        show if (!(rowB ws ps gap)) = true then _ else _
        rw [hb]
        exact iteF f1
      | false =>
        have e2 : rowRes ws ps gap (Ed.tag "nowhere" : Ed (En m)) = some false := if_pos ⟨rfl, hb⟩
        rw [e2] at f1
        show if (!(rowB ws ps gap)) = true then _ else _
        rw [hb]
        exact iteT f1
    · have e1 : tolE "nowhere" 1 (Ed.tag s1 : Ed (En m)) = false := decide_eq_false c
      rw [e1]
      exact iteF (iteF (none2 H (KT.refl hT) e1 (if_neg fun h => c h.1)))
  | stands L =>
    refine iteT ?_
    obtain ⟨ae, us, rfl, hae, hus⟩ := dp_kind (show Dp K H ve (.tuple [.str "stands", .tuple (L.map .int)]) from he)
    obtain ⟨v1, us2, rfl, hv1, hnil⟩ := DpAll.consI hus
    obtain rfl := DpAll.nilI hnil
    refine ⟨_, rfl, _, rfl, _, rfl, ae, _, 1, _, rfl, rfl, hae, atI_nat (j := 1) rfl, vd, vr, v1, ws, ps, gap, _, standB ws ps gap L, rfl, hd, hrw, hv1, (.tup fun d hd => by
      obtain ⟨y, _, rfl⟩ := List.mem_map.mp hd
      exact .int _), .inl ⟨L, rfl, oke, rfl⟩, hT, fun H1 k1 => ⟨_, rfl, ?_⟩⟩
    cases hb : standB ws ps gap L with
    | true =>
      have f1 := fin H1 k1
      rw [show rowRes ws ps gap (Ed.stands L : Ed (En m)) = some true from if_pos hb] at f1
      exact iteT f1
    | false =>
      refine iteF ?_
      refine ⟨_, rfl, .ref ae, ds, "nowhere", 1, rfl, Dp.keep (k1.tk hT) hds ih, kds, (by decide), ⟨_, rfl, ?_⟩⟩
      rw [hto]
      exact iteF (iteF (none2 H1 k1 rfl (if_neg fun h => by rw [hb] at h; exact nomatch h)))
  | two s1 i =>
    by_cases c : s1 = "stands"
    · subst c
      refine iteT ?_
      obtain ⟨ae, us, rfl, hae, hus⟩ := dp_kind (show Dp K H ve (.tuple [.str "stands", .int i]) from he)
      obtain ⟨v1, us2, rfl, hv1, hnil⟩ := DpAll.consI hus
      obtain rfl := DpAll.nilI hnil
      refine ⟨_, rfl, _, rfl, _, rfl, ae, _, 1, _, rfl, rfl, hae, atI_nat (j := 1) rfl, vd, vr, v1, ws, ps, gap, .int i, false, rfl, hd, hrw, hv1, .int _, .inr ⟨i, rfl, rfl⟩, hT, fun H1 k1 => ⟨_, rfl, ?_⟩⟩
      refine iteF ?_
      refine ⟨_, rfl, .ref ae, ds, "nowhere", 1, rfl, Dp.keep (k1.tk hT) hds ih, kds, (by decide), ⟨_, rfl, ?_⟩⟩
      rw [hto]
      exact iteF (iteF (none2 H1 k1 rfl rfl))
    · rw [show tolE "stands" 2 (Ed.two s1 i : Ed (En m)) = false from decide_eq_false c]
      refine iteF (iteF ?_)
      refine ⟨_, rfl, ve, ds, "nowhere", 1, rfl, hds, kds, (by decide), ⟨_, rfl, ?_⟩⟩
      rw [hto]
      exact iteF (iteF (none2 H (KT.refl hT) rfl rfl))
  | nil =>
    refine iteF (iteF ?_)
    refine ⟨_, rfl, ve, ds, "nowhere", 1, rfl, hds, kds, (by decide), ⟨_, rfl, ?_⟩⟩
    rw [hto]
    exact iteF (iteF (none2 H (KT.refl hT) rfl rfl))
  | one i e =>
    refine iteF (iteF ?_)
    refine ⟨_, rfl, ve, ds, "nowhere", 1, rfl, hds, kds, (by decide), ⟨_, rfl, ?_⟩⟩
    rw [hto]
    exact iteF (iteF (none2 H (KT.refl hT) rfl rfl))
  | neg e =>
    refine iteF (iteF ?_)
    refine ⟨_, rfl, ve, ds, "nowhere", 1, rfl, hds, kds, (by decide), ⟨_, rfl, ?_⟩⟩
    rw [hto]
    exact iteF (iteF (none2 H (KT.refl hT) rfl rfl))
  | each es =>
    refine iteF (iteF ?_)
    refine ⟨_, rfl, ve, ds, "nowhere", 1, rfl, hds, kds, (by decide), ⟨_, rfl, ?_⟩⟩
    rw [hto]
    exact iteF (iteF (none2 H (KT.refl hT) rfl rfl))
end


def yChkNot (K : PySem.W.Frag) (Ps : List Tbl2) (n : Nat) : Sp := fun vs H Q _ => ∃ (vd vq ve : V) (ws : List Str) (q : Qn n) (m : Nat) (e : Ed (En m)), vs = [vd, vq, ve] ∧ Dp K H vd (encD ws) ∧ Dp K H vq (.tuple [.str "not", encQ n q]) ∧ okQ n q ∧ Dp K H ve (encE (m + 1) e) ∧ okE (m + 1) e ∧ TabsG H Ps ∧ ws.length ≤ 1000 ∧ ∀ H', KT Ps H H' → Q (ynV (resE ws (n + 1) (Qd.neg q : Qd (Qn n)) (m + 1) e)) H'
def yEach (K : PySem.W.Frag) (Ps : List Tbl2) (n : Nat) : Sp := fun vs H Q _ => ∃ (vd ve : V) (ap : Addr) (xs : List V) (ws : List Str) (qs : List (Qn n)) (m : Nat) (es : List (En m)) (b : Bool), vs = [vd, .ref ap, ve, .str (yn b)] ∧ Dp K H vd (encD ws) ∧ SqT K H ap xs ∧ DpAll K H xs (qs.map (encQ n)) ∧ (∀ q ∈ qs, okQ n q) ∧ qs.length ≤ 100 ∧ Dp K H ve (.tuple (es.map (encE m))) ∧ (∀ e ∈ es, okE m e) ∧ TabsG H Ps ∧ ws.length ≤ 1000 ∧
  ∀ H', KT Ps H H' → Q (.bl (decide (es.length = qs.length) && ((qs.zip es).map fun p => decide (resE ws n p.1 m p.2 = some b)).all id)) H'
def yChkParts (K : PySem.W.Frag) (Ps : List Tbl2) (n : Nat) : Sp := fun vs H Q _ => ∃ (vd vq ve : V) (ws : List Str) (o : Bool) (qs : List (Qn n)) (m : Nat) (e : Ed (En m)), vs = [vd, vq, ve] ∧ Dp K H vd (encD ws) ∧ Dp K H vq (encQ (n + 1) (Qd.bin o qs : Qd (Qn n))) ∧ okQ (n + 1) (Qd.bin o qs : Qd (Qn n)) ∧ Dp K H ve (encE (m + 1) e) ∧ okE (m + 1) e ∧ TabsG H Ps ∧ ws.length ≤ 1000 ∧ ∀ H', KT Ps H H' → Q (ynV (resE ws (n + 1) (Qd.bin o qs : Qd (Qn n)) (m + 1) e)) H'
theorem dp_bin2 {K : PySem.W.Frag} {H : Hp} {n : Nat} {v : V} {o : Bool} {qs : List (Qn n)} (h : Dp K H v (encQ (n + 1) (Qd.bin o qs : Qd (Qn n)))) (ok : okQ (n + 1) (Qd.bin o qs : Qd (Qn n))) : ∃ (aq ap : Addr) (xs : List V), v = .ref aq ∧ SqT K H aq [.str (if o = true then "or" else "and"), .ref ap] ∧ SqT K H ap xs ∧ xs.length = qs.length ∧
    (∀ (i : Nat) (x : V), xs[i]? = some x → ∃ q, qs[i]? = some q ∧ Dp K H x (encQ n q) ∧ okQ n q) ∧ DpAll K H xs (qs.map (encQ n)) := by
  obtain ⟨aq, us, rfl, haq, hus⟩ := dp_kind (show Dp K H v (.tuple [.str (if o = true then "or" else "and"), .tuple (qs.map (encQ n))]) from h)
  obtain ⟨v1, us2, rfl, hv1, hnil⟩ := DpAll.consI hus
  obtain ⟨ap, xs, rfl, hap, hxs⟩ := Dp.tupI hv1
  obtain rfl := DpAll.nilI hnil
  have hl : xs.length = qs.length := by rw [DpAll.len hxs, List.length_map]
  refine ⟨aq, ap, xs, rfl, haq, hap, hl, fun i x hx => ?_, hxs⟩
  have hi := (List.getElem?_eq_some_iff.mp hx).1
  rw [hl] at hi
  obtain ⟨v, hv, dv⟩ := DpAll.get hxs (i := i) (d := encQ n qs[i]) (by rw [List.getElem?_map, List.getElem?_eq_getElem hi]; rfl)
  have ev : x = v := Option.some.inj (hx.symm.trans hv)
  subst ev
  exact ⟨qs[i], List.getElem?_eq_getElem hi, dv, (show qs.length ≤ 100 ∧ ∀ q ∈ qs, okQ n q from ok).2 _ (List.getElem_mem hi)⟩
theorem imm_all {α : Type} {f : α → PyData} {l : List α} (h : ∀ a, Imm (f a)) : ∀ d ∈ l.map f, Imm d := fun d hd => by
  obtain ⟨y, _, rfl⟩ := List.mem_map.mp hd
  exact h y
section
variable {P : Program} {w : World} {K : PySem.W.Frag} {mg : Str → Option Value} {base : Heap} {A : Nat → Addr} {D : Nat → FuncData}
theorem ok_check_not (T : Txt K mg A D) (DO : DOpp K w mg) {Ps : List Tbl2} {n k : Nat} (hk : 1 ≤ k) (G_check_evidence : FnOk P w K mg base CX0 k (A 11) (D 11) ["document", "question", "evidence"] (yChk K Ps n)) : FnOk P w K mg base CX0 (k + 1) (A 16) (D 16) ["document", "question", "evidence"] (yChkNot K Ps n) := by
  obtain ⟨dA, des, dn, hOPPOSITES, dl, dt, dw, ⟨t1, dv1⟩, ⟨t2, dv2⟩⟩ := DO
  have G_is_told := ok_told (P := P) (w := w) (base := base) T
  refine T.F_check_not.ok (k := k) sc_check_not (fun vs H Q E h => ?_) (fun cdv A' outer s H vs Q E hr h => ?_)
  · obtain ⟨vd, vq, ve, ws, q, m, e, rfl, _⟩ := h; rfl
  obtain ⟨vd, vq, ve, ws, q, m, e, rfl, hd, hq, ok, he, oke, hT, hws, fin⟩ := h
  have hnd := sc_check_not.nd
  refine ⟨_, (pss_cons (ps_if (pt_not (pt_val (pe_call G_is_told (hr.mono (by first | decide | omega)) rfl T.m_is_told T.F_is_told.kp T.b_is_told .nil pass0 (pa_cons (pv 2) (pa_cons pe_str (pa_cons pe_int pa_nil)))))) (pss_one (ps_ret pe_non)) pss_nil) (pss_one (ps_ret (pe_kget (pe_glob (v := V.ref _) rfl hOPPOSITES rfl) (pe_call G_check_evidence (hr.mono (by first | decide | omega)) rfl T.m_check_evidence T.F_check_evidence.kp T.b_check_evidence .nil pass0 (pa_cons (pv 0) (pa_cons (pe_ix (r := rIxT K) ix_tup (pv 1) pe_int (fun _ _ => rfl)) (pa_cons (pe_ix (r := rIxT K) ix_tup (pv 2) pe_int (fun _ _ => rfl)) pa_nil)))) ⟨rfl, rfl, rfl, rfl⟩)))), ?_⟩
  obtain ⟨ds, eds, kds, hto⟩ := told_use e
  have hds : Dp K H ve (.tuple ds) := by rw [← eds]; exact he
  refine ⟨_, rfl, ve, ds, "not", 2, rfl, hds, kds, (by decide), ⟨_, rfl, ?_⟩⟩
  rw [hto]
  cases e with
  | neg e =>
    refine iteF ?_
    obtain ⟨aq, us, rfl, haq, hus⟩ := dp_kind hq
    obtain ⟨v1, us2, rfl, hv1, hnil⟩ := DpAll.consI hus
    obtain ⟨ae, ue, rfl, hae, hue⟩ := dp_kind (show Dp K H ve (.tuple [.str "not", encE m e]) from he)
    obtain ⟨v2, ue2, rfl, hv2, hnil2⟩ := DpAll.consI hue
    refine ⟨dA, des, dn, rfl, dl, dt, dw, ?_⟩
    refine ⟨_, rfl, _, rfl, aq, _, 1, _, rfl, rfl, haq, atI_nat (j := 1) rfl, _, rfl, ae, _, 1, _, rfl, rfl, hae, atI_nat (j := 1) rfl, vd, v1, v2, ws, q, m, e, rfl, hd, hv1, ok, hv2, oke, hT, hws, fun H1 k1 => ?_⟩
    have f1 := fin H1 k1
    have er : resE ws (n + 1) (Qd.neg q : Qd (Qn n)) (m + 1) (Ed.neg e : Ed (En m)) = (resE ws n q m e).map (!·) := rfl
    rw [er] at f1
    cases hres : resE ws n q m e with
    | none =>
      rw [hres] at f1
      exact .inr ⟨rfl, f1⟩
    | some b =>
      rw [hres] at f1
      cases b with
      | true => exact .inl ⟨"yes", _, .str "no", rfl, dv1, ⟨_, rfl⟩, f1⟩
      | false => exact .inl ⟨"no", _, .str "yes", rfl, dv2, ⟨_, rfl⟩, f1⟩
  | tag s1 => 
    by_cases c : s1 = "not"
    · exact iteT (fin H (KT.refl hT))
    · exact iteT (fin H (KT.refl hT))
  | two s1 i =>
    rw [show tolE "not" 2 (Ed.two s1 i : Ed (En m)) = false from decide_eq_false (show s1 ≠ "not" ∧ s1 ≠ "each" ∧ s1 ≠ "one" ∧ PyData.strOk s1 = true from oke).1]
    exact iteT (fin H (KT.refl hT))
  | stands L => exact iteT (fin H (KT.refl hT))
  | nil => exact iteT (fin H (KT.refl hT))
  | one i e => exact iteT (fin H (KT.refl hT))
  | each es => exact iteT (fin H (KT.refl hT))
theorem ok_is_each (T : Txt K mg A D) {Ps : List Tbl2} {n k : Nat} (hk : 1 ≤ k) (G_check_evidence : FnOk P w K mg base CX0 k (A 11) (D 11) ["document", "question", "evidence"] (yChk K Ps n)) : FnOk P w K mg base CX0 (k + 1) (A 19) (D 19) ["document", "parts", "evidences", "shown"] (yEach K Ps n) := by
  refine T.F_is_each.ok (k := k) sc_is_each (fun vs H Q E h => ?_) (fun cdv A' outer s H vs Q E hr h => ?_)
  · obtain ⟨vd, ve, ap, xs, ws, qs, m, es, b, rfl, _⟩ := h; rfl
  obtain ⟨vd, ve, ap, xs, ws, qs, m, es, b, rfl, hd, hap, hxs, okq, hql, he, oke, hT, hws, fin⟩ := h
  have hnd := sc_is_each.nd
  refine ⟨_, (pss_cons (ps_if (PW.pt (pw_or (pt_not (pt_val (pe_callB call_isi rfl T.z_isinstance (by decide +kernel) (pa_cons (pv 2) (pa_cons (pe_bltn (v := .ty "tuple") rfl T.z_tuple (by decide +kernel) rfl) pa_nil))))) (pw_or1 (pt_cmpR op_ne (pe_callB call_len_seq rfl T.z_len PySem.boot_len (pa_cons (pv 2) pa_nil)) (pe_callB call_len_seq rfl T.z_len PySem.boot_len (pa_cons (pv 1) pa_nil)) (nomark _))))) (pss_one (ps_ret pe_bl)) pss_nil) (pss_one (ps_ret (pe_callB (cr_all rfl) rfl T.z_all (by decide +kernel) (pa_cons (pe_lc (own := [("part", 4), ("told", 5)]) rfl hnd (RZ.pi_zipA rfl T.z_zip (pa_cons (pv 1) (pa_cons (pv 2) pa_nil))) (blkOk_by (own := [("part", 4), ("told", 5)]) (N := N_is_each) (sc := defScope s_is_each) (by decide +kernel)) (fun _ _ _ _ _ => (pg_tupK (n := 2) K rfl rfl (pgs_cons (pg_name (i := 4) hnd rfl (Or.inl rfl)) (pgs_cons (pg_name (i := 5) hnd rfl (Or.inl rfl)) pgs_nil)))) (fun _ _ _ _ _ => pts_nil) (fun _ _ _ _ _ => (pe_cmpR op_eq (pe_call G_check_evidence (hr.mono (by first | decide | omega)) rfl T.m_check_evidence T.F_check_evidence.kp T.b_check_evidence .nil pass0 (pa_cons (pv 0) (pa_cons (pv 4) (pa_cons (pv 5) pa_nil)))) (pv 3) (nomark _)))) pa_nil))))), ?_⟩
  have hxl : xs.length = qs.length := by rw [DpAll.len hxs, List.length_map]
  have he' := he
  obtain ⟨a, ys, rfl, ha, hys⟩ := Dp.tupI he
  have hyl : ys.length = es.length := by rw [DpAll.len hys, List.length_map]
  refine ⟨_, rfl, _, _, _, _, true, rfl, .ty _, ty_at he' True.intro, kit_ty (show kitB "tuple" "tuple" = some true by decide +kernel), _, rfl, iteF ?_⟩
  refine ⟨_, rfl, a, _, rfl, .inr ha, _, rfl, ap, _, rfl, .inr hap, rfl, _, rfl, ?_⟩
  by_cases c1 : es.length = qs.length
  case neg =>
    rw [decide_eq_false c1] at fin
    rw [decide_eq_false (show ¬ V.int ((ys.length : Nat) : Int) = V.int ((xs.length : Nat) : Int) from fun h => c1 (by have := V.int.inj h; omega))]
    exact iteT (fin H (KT.refl hT))
  rw [decide_eq_true (show V.int ((ys.length : Nat) : Int) = V.int ((xs.length : Nat) : Int) by rw [hyl, hxl, c1])]
  refine iteF ?_
  rw [decide_eq_true c1, Bool.true_and] at fin
  refine ⟨_, rfl, _, rfl, ap, a, _, _, rfl, .inr ⟨hap, ha, fun R hR => ?_⟩⟩
  refine lc_it (walk_zipT (xs := xs) (ys := ys) (n := qs.length) (by omega)) (fun i H' => KT Ps H H' ∧ H' R = some (.lst ((((qs.zip es).take i).map fun p => decide (resE ws n p.1 m p.2 = some b)).map V.bl)))
    ⟨KT.of hT (same_new hR), upd_same⟩ (fun _ _ _ h => ⟨(h.1.tk hT).seq hap, (h.1.tk hT).seq ha⟩) ?_ ?_
  · rintro i v H5 H6 hi ⟨k5, e5⟩ ⟨T0, x, y, rfl, hT0, rfl, ex, ey⟩
    have sT := same_new (o := .tup [x, y]) hT0
    dsimp only at ex ey
    have hi2 : i < es.length := by omega
    obtain ⟨x1, hx1, dx⟩ := DpAll.get hxs (i := i) (d := encQ n qs[i]) (by rw [List.getElem?_map, List.getElem?_eq_getElem hi]; rfl)
    obtain rfl : x = x1 := Option.some.inj (ex.symm.trans hx1)
    obtain ⟨y1, hy1, dy⟩ := DpAll.get hys (i := i) (d := encE m es[i]) (by rw [List.getElem?_map, List.getElem?_eq_getElem hi2]; rfl)
    obtain rfl : y = y1 := Option.some.inj (ey.symm.trans hy1)
    have k6 := k5.same sT
    refine ⟨T0, _, rfl, SqT.of upd_same, rfl, _, _, rfl, _, _, rfl, rfl, ?_⟩
    refine ⟨rfl, ?_⟩
    refine ⟨_, rfl, _, rfl, _, rfl, vd, x, y, ws, qs[i], m, es[i], rfl, Dp.keep (k6.tk hT) hd (imm_encD ws), Dp.keep (k6.tk hT) dx (imm_encQ n _), okq _ (List.getElem_mem hi), Dp.keep (k6.tk hT) dy (imm_encE m _), oke _ (List.getElem_mem hi2), k6.1, hws, fun H7 k7 => ?_⟩
    have e7 := k7.lst k6.1 (sT _ _ e5)
    have hR0 : H R = none := hR
    refine ⟨_, rfl, yn_scal _ _, _, e7, ?_, (k6.trans k7).updN e7 hR0, ?_⟩
    · rw [List.length_map, List.length_map, List.length_take]
      exact len_lt (by omega)
    · rw [yn_eq]
      have ez : (qs.zip es)[i]? = some (qs[i], es[i]) := by
        rw [List.getElem?_zip_eq_some]
        exact ⟨List.getElem?_eq_getElem hi, List.getElem?_eq_getElem hi2⟩
      rw [List.take_add_one, ez, List.map_append, List.map_append]
      exact upd_same
  · rintro H5 ⟨k5, e5⟩
    rw [take_all (by rw [List.length_zip]; omega)] at e5
    exact ⟨R, _, rfl, SqL.of e5, fin H5 k5⟩
theorem ok_check_parts (T : Txt K mg A D) (DO : DOpp K w mg) {Ps : List Tbl2} {n k : Nat} (hk : 2 ≤ k) (G_check_evidence0 : FnOk P w K mg base CX0 k (A 11) (D 11) ["document", "question", "evidence"] (yChk K Ps n)) : FnOk P w K mg base CX0 (k + 2) (A 17) (D 17) ["document", "question", "evidence"] (yChkParts K Ps n) := by
  have G_check_evidence := G_check_evidence0
  have G_is_each := ok_is_each T (by omega) G_check_evidence0
  have G_is_told := ok_told (P := P) (w := w) (base := base) T
  have G_is_index := ok_is_index (P := P) (w := w) (base := base) T
  obtain ⟨dA, des, dn, hOPPOSITES, dl, dt, dw, ⟨t1, dv1⟩, ⟨t2, dv2⟩⟩ := DO
  refine T.F_check_parts.ok (k := k + 1) sc_check_parts (fun vs H Q E h => ?_) (fun cdv A' outer s H vs Q E hr h => ?_)
  · obtain ⟨vd, vq, ve, ws, o, qs, m, e, rfl, _⟩ := h; rfl
  obtain ⟨vd, vq, ve, ws, o, qs, m, e, rfl, hd, hq, ok, he, oke, hT, hws, fin⟩ := h
  have hnd := sc_check_parts.nd
  refine ⟨_, (pss_cons (ps_asg (pv 1) (pg_tup rfl (pgs_cons (pg_name (i := 3) hnd rfl (Or.inl rfl)) (pgs_cons (pg_name (i := 4) hnd rfl (Or.inl rfl)) pgs_nil)))) (pss_cons (ps_set (i := 5) hnd rfl (Or.inl rfl) (pe_ifExp (pt_cmpR op_eq (pv 3) pe_str (nomark _)) pe_str pe_str)) (pss_cons (ps_if (PW.pt (pw_and (pt_val (pe_call G_is_told (hr.mono (by first | decide | omega)) rfl T.m_is_told T.F_is_told.kp T.b_is_told .nil pass0 (pa_cons (pv 2) (pa_cons pe_str (pa_cons pe_int pa_nil))))) (pw_and1 (pt_val (pe_call G_is_index (hr.mono (by first | decide | omega)) rfl T.m_is_index T.F_is_index.kp T.b_is_index .nil pass0 (pa_cons (pe_ix (r := rIxT K) ix_tup (pv 2) pe_int (fun _ _ => rfl)) (pa_cons (pv 4) pa_nil))))))) (pss_one (ps_if (pt_cmpR op_eq (pe_call G_check_evidence (hr.mono (by first | decide | omega)) rfl T.m_check_evidence T.F_check_evidence.kp T.b_check_evidence .nil pass0 (pa_cons (pv 0) (pa_cons (pe_ix (r := rIxT K) ix_tup (pv 4) (pe_ix (r := rIxT K) ix_tup (pv 2) pe_int (fun _ _ => rfl)) (fun _ _ => rfl)) (pa_cons (pe_ix (r := rIxT K) ix_tup (pv 2) pe_int (fun _ _ => rfl)) pa_nil)))) (pv 5) (nomark _)) (pss_one (ps_ret (pv 5))) pss_nil)) pss_nil) (pss_cons (ps_if (PW.pt (pw_and (pt_val (pe_call G_is_told (hr.mono (by first | decide | omega)) rfl T.m_is_told T.F_is_told.kp T.b_is_told .nil pass0 (pa_cons (pv 2) (pa_cons pe_str (pa_cons pe_int pa_nil))))) (pw_and1 (pt_val (pe_call G_is_each (hr.mono (by first | decide | omega)) rfl T.m_is_each T.F_is_each.kp T.b_is_each .nil pass0 (pa_cons (pv 0) (pa_cons (pv 4) (pa_cons (pe_ix (r := rIxT K) ix_tup (pv 2) pe_int (fun _ _ => rfl)) (pa_cons (pe_ix (r := rIxD K w) ix_kdict (pe_glob (v := V.ref _) rfl hOPPOSITES rfl) (pv 5) (fun _ _ => rfl)) pa_nil))))))))) (pss_one (ps_ret (pe_ix (r := rIxD K w) ix_kdict (pe_glob (v := V.ref _) rfl hOPPOSITES rfl) (pv 5) (fun _ _ => rfl)))) pss_nil) (pss_one (ps_ret pe_non)))))), ?_⟩
  obtain ⟨ds, eds, kds, hto⟩ := told_use e
  have hds : Dp K H ve (.tuple ds) := by rw [← eds]; exact he
  have ih : Imm (.tuple ds) := by rw [← eds]; exact imm_encE (m + 1) e
  obtain ⟨aq, ap, xs, rfl, haq, hap, hl, part, hxs⟩ := dp_bin2 hq ok
  obtain ⟨hql, okqs⟩ := (show qs.length ≤ 100 ∧ ∀ q ∈ qs, okQ n q from ok)
  refine ⟨_, rfl, aq, _, rfl, haq, rfl, _, _, rfl, _, _, rfl, rfl, ?_⟩
  cases o with
  | false =>
    refine ⟨_, rfl, rfl, _, rfl, ?_⟩
    refine strF (by decide) ?_
    refine ⟨_, rfl, ve, ds, "one", 3, rfl, hds, kds, (by decide), ⟨_, rfl, ?_⟩⟩
    rw [hto]
    cases e with
    | one i e =>
      refine iteT ?_
      obtain ⟨ae, ue, rfl, hae, hue⟩ := dp_kind (show Dp K H ve (.tuple [.str "one", .int i, encE m e]) from he)
      obtain ⟨v1, ue2, rfl, hv1, hue2⟩ := DpAll.consI hue
      obtain ⟨v2, ue3, rfl, hv2, hnil2⟩ := DpAll.consI hue2
      obtain rfl := Dp.intI hv1
      have back : ∀ H1, KT Ps H H1 → resE ws (n + 1) (Qd.bin false qs : Qd (Qn n)) (m + 1) (Ed.one i e : Ed (En m)) = none → Q .non H1 := fun H1 k1 h2 => by
        have f1 := fin H1 k1
        rw [h2] at f1
        exact f1
      refine ⟨_, rfl, ae, _, 1, _, rfl, rfl, hae, atI_nat (j := 1) rfl, _, rfl, i, ap, xs, rfl, hap, ⟨_, rfl, ?_⟩⟩
      rw [← Bool.decide_and]
      have er : resE ws (n + 1) (Qd.bin false qs : Qd (Qn n)) (m + 1) (Ed.one i e : Ed (En m)) = if 0 ≤ i then (match qs[i.toNat]? with
        | some q => if resE ws n q m e = some false then some false else none
        | none => none) else none := rfl
      have second : ∀ H1, KT Ps H H1 → Dp K H1 (.ref ae) (.tuple ds) := fun H1 k1 => Dp.keep (k1.tk hT) hds ih
      by_cases c : 0 ≤ i ∧ i < (xs.length : Int)
      · rw [decide_eq_true c]
        refine iteT ?_
        obtain ⟨j, rfl⟩ := Int.eq_ofNat_of_zero_le c.1
        have hj : j < xs.length := by omega
        obtain ⟨q, hy, dy, oky⟩ := part j _ (List.getElem?_eq_getElem hj)
        rw [if_pos c.1, Int.toNat_natCast, hy] at er
        refine ⟨_, rfl, _, rfl, _, rfl, ae, _, 1, _, rfl, rfl, hae, atI_nat (j := 1) rfl, ap, _, _, _, rfl, rfl, hap, atI_nat (List.getElem?_eq_getElem hj), _, rfl, ae, _, 2, _, rfl, rfl, hae, atI_nat (j := 2) rfl, vd, xs[j], v2, ws, q, m, e, rfl, hd, dy, oky, hv2, oke, hT, hws, fun H1 k1 => ?_⟩
        refine ⟨_, rfl, yn_scal _ _, _, rfl, ?_⟩
        rw [show decide (ynV (resE ws n q m e) = V.str "no") = decide (resE ws n q m e = some false) from yn_eq _ false]
        by_cases cr : resE ws n q m e = some false
        · rw [decide_eq_true cr]
          have f1 := fin H1 k1
          rw [er] at f1
          dsimp only at f1
          rw [if_pos cr] at f1
          exact iteT ⟨_, rfl, f1⟩
        · rw [decide_eq_false cr]
          refine iteF ?_
          refine ⟨_, rfl, .ref ae, ds, "each", 2, rfl, second H1 k1, kds, (by decide), ⟨_, rfl, ?_⟩⟩
          rw [hto]
          refine iteF (iteF (back H1 k1 ?_))
          rw [er]
          exact if_neg cr
      · rw [decide_eq_false c]
        refine iteF ?_
        refine ⟨_, rfl, .ref ae, ds, "each", 2, rfl, second H (KT.refl hT), kds, (by decide), ⟨_, rfl, ?_⟩⟩
        rw [hto]
        refine iteF (iteF (back H (KT.refl hT) ?_))
        rw [er]
        by_cases c0 : 0 ≤ i
        · rw [if_pos c0, List.getElem?_eq_none (by omega)]
        · rw [if_neg c0]
    | each es =>
      refine iteF (iteF ?_)
      refine ⟨_, rfl, ve, ds, "each", 2, rfl, hds, kds, (by decide), ⟨_, rfl, ?_⟩⟩
      rw [hto]
      refine iteT ?_
      obtain ⟨ae, ue, rfl, hae, hue⟩ := dp_kind (show Dp K H ve (.tuple [.str "each", .tuple (es.map (encE m))]) from he)
      obtain ⟨v1, ue2, rfl, hv1, hue2⟩ := DpAll.consI hue
      obtain rfl := DpAll.nilI hue2
      have kd : KDct K w dA "no" (.str "yes") := ⟨des, dn, _, dl, dt, dv2, ⟨_, rfl⟩⟩
      refine ⟨_, rfl, _, rfl, _, rfl, ae, _, 1, _, rfl, rfl, hae, atI_nat (j := 1) rfl, _, rfl, dA, "no", .str "yes", rfl, rfl, kd, vd, v1, ap, xs, ws, qs, m, es, !false, rfl, hd, hap, hxs, okqs, hql, hv1, oke, hT, hws, fun H1 k1 => ⟨_, rfl, ?_⟩⟩
      have er : resE ws (n + 1) (Qd.bin false qs : Qd (Qn n)) (m + 1) (Ed.each es : Ed (En m)) = if (decide (es.length = qs.length) && ((qs.zip es).map fun p => decide (resE ws n p.1 m p.2 = some (!false))).all id) = true then some (!false) else none := rfl
      have f1 := fin H1 k1
      rw [er] at f1
      cases cb : (decide (es.length = qs.length) && ((qs.zip es).map fun p => decide (resE ws n p.1 m p.2 = some (!false))).all id) with
      | true =>
        rw [cb] at f1
        exact iteT ⟨_, rfl, dA, "no", .str "yes", rfl, rfl, kd, f1⟩
      | false =>
        rw [cb] at f1
        exact iteF f1
    | two s1 i =>
      refine iteF (iteF ?_)
      refine ⟨_, rfl, ve, ds, "each", 2, rfl, hds, kds, (by decide), ⟨_, rfl, ?_⟩⟩
      rw [hto, show tolE "each" 2 (Ed.two s1 i : Ed (En m)) = false from decide_eq_false (show s1 ≠ "not" ∧ s1 ≠ "each" ∧ s1 ≠ "one" ∧ PyData.strOk s1 = true from oke).2.1]
      exact iteF (iteF (fin H (KT.refl hT)))
    | tag s1 =>
      refine iteF (iteF ?_)
      refine ⟨_, rfl, ve, ds, "each", 2, rfl, hds, kds, (by decide), ⟨_, rfl, ?_⟩⟩
      rw [hto]
      exact iteF (iteF (fin H (KT.refl hT)))
    | stands L =>
      refine iteF (iteF ?_)
      refine ⟨_, rfl, ve, ds, "each", 2, rfl, hds, kds, (by decide), ⟨_, rfl, ?_⟩⟩
      rw [hto]
      exact iteF (iteF (fin H (KT.refl hT)))
    | nil =>
      refine iteF (iteF ?_)
      refine ⟨_, rfl, ve, ds, "each", 2, rfl, hds, kds, (by decide), ⟨_, rfl, ?_⟩⟩
      rw [hto]
      exact iteF (iteF (fin H (KT.refl hT)))
    | neg e =>
      refine iteF (iteF ?_)
      refine ⟨_, rfl, ve, ds, "each", 2, rfl, hds, kds, (by decide), ⟨_, rfl, ?_⟩⟩
      rw [hto]
      exact iteF (iteF (fin H (KT.refl hT)))
  | true =>
    refine ⟨_, rfl, rfl, _, rfl, ?_⟩
    refine strT ?_
    refine ⟨_, rfl, ve, ds, "one", 3, rfl, hds, kds, (by decide), ⟨_, rfl, ?_⟩⟩
    rw [hto]
    cases e with
    | one i e =>
      refine iteT ?_
      obtain ⟨ae, ue, rfl, hae, hue⟩ := dp_kind (show Dp K H ve (.tuple [.str "one", .int i, encE m e]) from he)
      obtain ⟨v1, ue2, rfl, hv1, hue2⟩ := DpAll.consI hue
      obtain ⟨v2, ue3, rfl, hv2, hnil2⟩ := DpAll.consI hue2
      obtain rfl := Dp.intI hv1
      have back : ∀ H1, KT Ps H H1 → resE ws (n + 1) (Qd.bin true qs : Qd (Qn n)) (m + 1) (Ed.one i e : Ed (En m)) = none → Q .non H1 := fun H1 k1 h2 => by
        have f1 := fin H1 k1
        rw [h2] at f1
        exact f1
      refine ⟨_, rfl, ae, _, 1, _, rfl, rfl, hae, atI_nat (j := 1) rfl, _, rfl, i, ap, xs, rfl, hap, ⟨_, rfl, ?_⟩⟩
      rw [← Bool.decide_and]
      have er : resE ws (n + 1) (Qd.bin true qs : Qd (Qn n)) (m + 1) (Ed.one i e : Ed (En m)) = if 0 ≤ i then (match qs[i.toNat]? with
        | some q => if resE ws n q m e = some true then some true else none
        | none => none) else none := rfl
      have second : ∀ H1, KT Ps H H1 → Dp K H1 (.ref ae) (.tuple ds) := fun H1 k1 => Dp.keep (k1.tk hT) hds ih
      by_cases c : 0 ≤ i ∧ i < (xs.length : Int)
      · rw [decide_eq_true c]
        refine iteT ?_
        obtain ⟨j, rfl⟩ := Int.eq_ofNat_of_zero_le c.1
        have hj : j < xs.length := by omega
        obtain ⟨q, hy, dy, oky⟩ := part j _ (List.getElem?_eq_getElem hj)
        rw [if_pos c.1, Int.toNat_natCast, hy] at er
        refine ⟨_, rfl, _, rfl, _, rfl, ae, _, 1, _, rfl, rfl, hae, atI_nat (j := 1) rfl, ap, _, _, _, rfl, rfl, hap, atI_nat (List.getElem?_eq_getElem hj), _, rfl, ae, _, 2, _, rfl, rfl, hae, atI_nat (j := 2) rfl, vd, xs[j], v2, ws, q, m, e, rfl, hd, dy, oky, hv2, oke, hT, hws, fun H1 k1 => ?_⟩
        refine ⟨_, rfl, yn_scal _ _, _, rfl, ?_⟩
        rw [show decide (ynV (resE ws n q m e) = V.str "yes") = decide (resE ws n q m e = some true) from yn_eq _ true]
        by_cases cr : resE ws n q m e = some true
        · rw [decide_eq_true cr]
          have f1 := fin H1 k1
          rw [er] at f1
          dsimp only at f1
          rw [if_pos cr] at f1
          exact iteT ⟨_, rfl, f1⟩
        · rw [decide_eq_false cr]
          refine iteF ?_
          refine ⟨_, rfl, .ref ae, ds, "each", 2, rfl, second H1 k1, kds, (by decide), ⟨_, rfl, ?_⟩⟩
          rw [hto]
          refine iteF (iteF (back H1 k1 ?_))
          rw [er]
          exact if_neg cr
      · rw [decide_eq_false c]
        refine iteF ?_
        refine ⟨_, rfl, .ref ae, ds, "each", 2, rfl, second H (KT.refl hT), kds, (by decide), ⟨_, rfl, ?_⟩⟩
        rw [hto]
        refine iteF (iteF (back H (KT.refl hT) ?_))
        rw [er]
        by_cases c0 : 0 ≤ i
        · rw [if_pos c0, List.getElem?_eq_none (by omega)]
        · rw [if_neg c0]
    | each es =>
      refine iteF (iteF ?_)
      refine ⟨_, rfl, ve, ds, "each", 2, rfl, hds, kds, (by decide), ⟨_, rfl, ?_⟩⟩
      rw [hto]
      refine iteT ?_
      obtain ⟨ae, ue, rfl, hae, hue⟩ := dp_kind (show Dp K H ve (.tuple [.str "each", .tuple (es.map (encE m))]) from he)
      obtain ⟨v1, ue2, rfl, hv1, hue2⟩ := DpAll.consI hue
      obtain rfl := DpAll.nilI hue2
      have kd : KDct K w dA "yes" (.str "no") := ⟨des, dn, _, dl, dt, dv1, ⟨_, rfl⟩⟩
      refine ⟨_, rfl, _, rfl, _, rfl, ae, _, 1, _, rfl, rfl, hae, atI_nat (j := 1) rfl, _, rfl, dA, "yes", .str "no", rfl, rfl, kd, vd, v1, ap, xs, ws, qs, m, es, !true, rfl, hd, hap, hxs, okqs, hql, hv1, oke, hT, hws, fun H1 k1 => ⟨_, rfl, ?_⟩⟩
      have er : resE ws (n + 1) (Qd.bin true qs : Qd (Qn n)) (m + 1) (Ed.each es : Ed (En m)) = if (decide (es.length = qs.length) && ((qs.zip es).map fun p => decide (resE ws n p.1 m p.2 = some (!true))).all id) = true then some (!true) else none := rfl
      have f1 := fin H1 k1
      rw [er] at f1
      cases cb : (decide (es.length = qs.length) && ((qs.zip es).map fun p => decide (resE ws n p.1 m p.2 = some (!true))).all id) with
      | true =>
        rw [cb] at f1
        exact iteT ⟨_, rfl, dA, "yes", .str "no", rfl, rfl, kd, f1⟩
      | false =>
        rw [cb] at f1
        exact iteF f1
    | two s1 i =>
      refine iteF (iteF ?_)
      refine ⟨_, rfl, ve, ds, "each", 2, rfl, hds, kds, (by decide), ⟨_, rfl, ?_⟩⟩
      rw [hto, show tolE "each" 2 (Ed.two s1 i : Ed (En m)) = false from decide_eq_false (show s1 ≠ "not" ∧ s1 ≠ "each" ∧ s1 ≠ "one" ∧ PyData.strOk s1 = true from oke).2.1]
      exact iteF (iteF (fin H (KT.refl hT)))
    | tag s1 =>
      refine iteF (iteF ?_)
      refine ⟨_, rfl, ve, ds, "each", 2, rfl, hds, kds, (by decide), ⟨_, rfl, ?_⟩⟩
      rw [hto]
      exact iteF (iteF (fin H (KT.refl hT)))
    | stands L =>
      refine iteF (iteF ?_)
      refine ⟨_, rfl, ve, ds, "each", 2, rfl, hds, kds, (by decide), ⟨_, rfl, ?_⟩⟩
      rw [hto]
      exact iteF (iteF (fin H (KT.refl hT)))
    | nil =>
      refine iteF (iteF ?_)
      refine ⟨_, rfl, ve, ds, "each", 2, rfl, hds, kds, (by decide), ⟨_, rfl, ?_⟩⟩
      rw [hto]
      exact iteF (iteF (fin H (KT.refl hT)))
    | neg e =>
      refine iteF (iteF ?_)
      refine ⟨_, rfl, ve, ds, "each", 2, rfl, hds, kds, (by decide), ⟨_, rfl, ?_⟩⟩
      rw [hto]
      exact iteF (iteF (fin H (KT.refl hT)))
end


section
variable {P : Program} {w : World} {K : PySem.W.Frag} {mg : Str → Option Value} {base : Heap} {A : Nat → Addr} {D : Nat → FuncData}
theorem ok_check (T : Txt K mg A D) (DO : DOpp K w mg) {Ps : List Tbl2} (G_check_row0 : FnOk P w K mg base CX0 13 (A 13) (D 13) ["document", "row", "evidence"] (yChkRow K Ps)) : ∀ n, FnOk P w K mg base CX0 (3 * n + 14) (A 11) (D 11) ["document", "question", "evidence"] (yChk K Ps n)
  | 0 => by
    have no : ∀ vs H Q E, ¬ yChk K Ps 0 vs H Q E := fun vs H Q E h => by
      obtain ⟨vd, vq, ve, ws, q, _⟩ := h
      exact nomatch (q : Empty)
    exact ⟨fun vs H Q E h => absurd h (no vs H Q E), fun A outer s H args us vs Q E _ _ _ _ h => absurd h (no vs H Q E)⟩
  | n + 1 => by
    have G0 := ok_check T DO G_check_row0 n
    have G_check_not := ok_check_not T DO (by omega) G0
    have G_check_parts := ok_check_parts T DO (by omega) G0
    have G_check_row := G_check_row0
    have G_is_told := ok_told (P := P) (w := w) (base := base) T
    have lv : 3 * (n + 1) + 14 = 3 * n + 16 + 1 := by omega
    rw [lv]
    refine T.F_check_evidence.ok (k := 3 * n + 16) sc_check_evidence (fun vs H Q E h => ?_) (fun cdv A' outer s H vs Q E hr h => ?_)
    · obtain ⟨vd, vq, ve, ws, q, m, e, rfl, _⟩ := h; rfl
    obtain ⟨vd, vq, ve, ws, q, m, e, rfl, hd, hq, ok, he, oke, hT, hws, fin⟩ := h
    have hnd := sc_check_evidence.nd
    refine ⟨_, (pss_cons (ps_set (i := 3) hnd rfl (Or.inl rfl) (pe_ix (r := rIxT K) ix_tup (pv 1) pe_int (fun _ _ => rfl))) (pss_cons (ps_if (pt_cmpR op_eq (pv 3) pe_str (nomark _)) (pss_one (ps_ret (pe_call G_check_row (hr.mono (by first | decide | omega)) rfl T.m_check_row T.F_check_row.kp T.b_check_row .nil pass0 (pa_cons (pv 0) (pa_cons (pv 1) (pa_cons (pv 2) pa_nil)))))) pss_nil) (pss_cons (ps_if (pt_cmpR op_eq (pv 3) pe_str (nomark _)) (pss_one (ps_ret (pe_ifExp (pt_val (pe_call G_is_told (hr.mono (by first | decide | omega)) rfl T.m_is_told T.F_is_told.kp T.b_is_told .nil pass0 (pa_cons (pv 2) (pa_cons pe_str (pa_cons pe_int pa_nil))))) pe_str pe_non))) pss_nil) (pss_cons (ps_if (pt_cmpR op_eq (pv 3) pe_str (nomark _)) (pss_one (ps_ret (pe_call G_check_not (hr.mono (by first | decide | omega)) rfl T.m_check_not T.F_check_not.kp T.b_check_not .nil pass0 (pa_cons (pv 0) (pa_cons (pv 1) (pa_cons (pv 2) pa_nil)))))) pss_nil) (pss_one (ps_ret (pe_call G_check_parts (hr.mono (by first | decide | omega)) rfl T.m_check_parts T.F_check_parts.kp T.b_check_parts .nil pass0 (pa_cons (pv 0) (pa_cons (pv 1) (pa_cons (pv 2) pa_nil)))))))))), ?_⟩
    cases m with
    | zero => exact nomatch (e : Empty)
    | succ m =>
    rcases q with _ | ⟨ps, gap⟩ | q | ⟨o, qs⟩
    · obtain ⟨aq, us, rfl, haq, hus⟩ := dp_kind (show Dp K H vq (.tuple [.str "all"]) from hq)
      refine ⟨_, rfl, aq, _, 0, _, rfl, rfl, haq, atI_nat (j := 0) rfl, ?_⟩
      refine ⟨_, rfl, rfl, _, rfl, strF (by decide) ?_⟩
      refine ⟨_, rfl, rfl, _, rfl, strT ?_⟩
      obtain ⟨ds, eds, kds, hto⟩ := told_use (e : Ed (En m))
      have hds : Dp K H ve (.tuple ds) := by rw [← eds]; exact he
      refine ⟨_, rfl, ve, ds, "all", 1, rfl, hds, kds, (by decide), ⟨_, rfl, ?_⟩⟩
      rw [hto]
      have f1 := fin H (KT.refl hT)
      have er : resE ws (n + 1) (Qd.all : Qd (Qn n)) (m + 1) e = allRes (e : Ed (En m)) := rfl
      rw [er] at f1
      cases e with
      | tag s1 =>
        by_cases c : s1 = "all"
        · subst c; exact iteT f1
        · rw [show tolE "all" 1 (Ed.tag s1 : Ed (En m)) = false from decide_eq_false c]
          rw [show allRes (Ed.tag s1 : Ed (En m)) = none from if_neg c] at f1
          exact iteF f1
      | two s1 i => exact iteF f1
      | stands L => exact iteF f1
      | nil => exact iteF f1
      | one i e => exact iteF f1
      | neg e => exact iteF f1
      | each es => exact iteF f1
    · obtain ⟨ar, pa, pxs, rfl, har, hpa, hpx⟩ := dp_encRow (show Dp K H vq (encRow ps gap) from hq)
      refine ⟨_, rfl, ar, _, 0, _, rfl, rfl, har, atI_nat (j := 0) rfl, ?_⟩
      refine ⟨_, rfl, rfl, _, rfl, strT ?_⟩
      exact ⟨_, rfl, _, rfl, _, rfl, vd, .ref ar, ve, ws, ps, gap, m, e, rfl, hd, hq, ok, he, oke, hT, hws, fin⟩
    · have hq' : Dp K H vq (.tuple [.str "not", encQ n q]) := hq
      obtain ⟨aq, us, rfl, haq, hus⟩ := dp_kind hq'
      refine ⟨_, rfl, aq, _, 0, _, rfl, rfl, haq, atI_nat (j := 0) rfl, ?_⟩
      refine ⟨_, rfl, rfl, _, rfl, strF (by decide) ?_⟩
      refine ⟨_, rfl, rfl, _, rfl, strF (by decide) ?_⟩
      refine ⟨_, rfl, rfl, _, rfl, strT ?_⟩
      exact ⟨_, rfl, _, rfl, _, rfl, vd, .ref aq, ve, ws, q, m, e, rfl, hd, hq', ok, he, oke, hT, hws, fin⟩
    · obtain ⟨aq, ap, xs, rfl, haq, hap, hl, part⟩ := dp_bin hq ok
      have ko := kind_no o
      refine ⟨_, rfl, aq, _, 0, _, rfl, rfl, haq, atI_nat (j := 0) rfl, ?_⟩
      refine ⟨_, rfl, rfl, _, rfl, strF ko.1 ?_⟩
      refine ⟨_, rfl, rfl, _, rfl, strF ko.2.1 ?_⟩
      refine ⟨_, rfl, rfl, _, rfl, strF ko.2.2 ?_⟩
      exact ⟨_, rfl, _, rfl, _, rfl, vd, .ref aq, ve, ws, o, qs, m, e, rfl, hd, hq, ok, he, oke, hT, hws, fin⟩
end
/-! ### what the given evidence shows -/
theorem evF_cases (ws : List Str) (n : Nat) (o : Bool) (qs : List (Qn n)) :
    (∃ i q, qs[i]? = some q ∧ qB ws n q = o ∧ qB ws (n + 1) (Qd.bin o qs : Qd (Qn n)) = o ∧ evF ws (n + 1) (Qd.bin o qs : Qd (Qn n)) = (Ed.one (i : Nat) (evF ws n q) : Ed (En n))) ∨
    ((∀ q ∈ qs, qB ws n q = !o) ∧ qB ws (n + 1) (Qd.bin o qs : Qd (Qn n)) = !o ∧ evF ws (n + 1) (Qd.bin o qs : Qd (Qn n)) = (Ed.each (qs.map (evF ws n)) : Ed (En n))) := by
  cases h : qs.findIdx? (fun q => qB ws n q == o) with
  | some i =>
    obtain ⟨hi, hp, hn⟩ := List.findIdx?_eq_some_iff_getElem.mp h
    have hq : qB ws n qs[i] = o := eq_of_beq hp
    have hg := List.getElem?_eq_getElem hi
    refine .inl ⟨i, qs[i], hg, hq, ?_, evF_one hg hq fun j y hj hy => ?_⟩
    · cases o with
      | false => exact List.all_eq_false.mpr ⟨qs[i], List.getElem_mem hi, by rw [hq]; exact Bool.false_ne_true⟩
      | true => exact List.any_eq_true.mpr ⟨qs[i], List.getElem_mem hi, hq⟩
    · have hj' : j < qs.length := by omega
      have := hn j hj
      have ey : qs[j] = y := Option.some.inj ((List.getElem?_eq_getElem hj').symm.trans hy)
      rw [ey] at this
      cases o <;> cases hb : qB ws n y <;> simp_all
  | none =>
    have all : ∀ q ∈ qs, qB ws n q = !o := fun q hq => by
      have := List.findIdx?_eq_none_iff.mp h q hq
      cases o <;> cases hb : qB ws n q <;> simp_all
    refine .inr ⟨all, ?_, evF_each fun j y hj hy => all y (List.mem_of_getElem? hy)⟩
    cases o with
    | false => exact List.all_eq_true.mpr fun y hy => all y hy
    | true => exact List.any_eq_false.mpr fun y hy => by rw [all y hy]; exact Bool.false_ne_true
theorem firstE_cases (n : Nat) (ws : List Str) (ps : List Pat) (gap : Nat) : (waysL ws ps gap ps.length = [] ∧ firstE n ws ps gap = (Ed.tag "nowhere" : Ed (En n))) ∨ ∃ u, u ∈ waysL ws ps gap ps.length ∧ firstE n ws ps gap = (Ed.stands (u.map fun (k : Nat) => (k : Int)) : Ed (En n)) := by
  cases h : waysL ws ps gap ps.length with
  | nil => exact .inl ⟨rfl, firstE_no h⟩
  | cons u r => exact .inr ⟨u, List.mem_cons_self, firstE_yes (by rw [h]; rfl)⟩
def wayP (ws : List Str) (ps : List Pat) (gap : Nat) (u : List Nat) : Prop :=
  (∀ (i a b : Nat), u[i]? = some a → u[i + 1]? = some b → a < b) ∧ (∀ (i a : Nat), u[i]? = some a → a < ws.length ∧ fitsB (ws.getD a "") (ps.getD i ("", "")) = true) ∧ (u ≠ [] → u.getLastD 0 < u.headD 0 + ps.length + gap)
theorem way_ok {ws : List Str} {ps : List Pat} {gap : Nat} : ∀ {k : Nat} {u : List Nat}, 1 ≤ ps.length + gap → u ∈ waysL ws ps gap k → wayP ws ps gap u
  | 0, u, h1, h => by
    have : u = [] := List.mem_singleton.mp h
    subst this
    exact ⟨fun i a b h => (nomatch h), fun i a h => (nomatch h), fun h => absurd rfl h⟩
  | k + 1, v, h1, h => by
    obtain ⟨u, hu, hv⟩ := List.mem_flatMap.mp (show v ∈ (waysL ws ps gap k).flatMap (lawExt ws ps gap) from h)
    obtain ⟨j, rfl, hj, hlt, hf, hg⟩ := mem_lawExt hv
    obtain ⟨a1, a2, a3⟩ := way_ok h1 hu
    refine ⟨fun i a b ha hb => ?_, fun i a ha => ?_, fun _ => ?_⟩
    · have hi := (List.getElem?_eq_some_iff.mp hb).1
      rw [List.length_append, List.length_singleton] at hi
      have hi0 : i < u.length := by omega
      rw [List.getElem?_append_left hi0] at ha
      by_cases c : i + 1 < u.length
      · rw [List.getElem?_append_left c] at hb
        exact a1 i a b ha hb
      · rw [List.getElem?_append_right (by omega), show i + 1 - u.length = 0 by omega] at hb
        have eb : j = b := Option.some.inj hb
        have hne : u ≠ [] := fun z => by rw [z] at hi0; exact absurd hi0 (Nat.not_lt_zero _)
        have el : u.getLastD 0 = a := by
          obtain ⟨y, x, rfl⟩ : ∃ y x, u = y ++ [x] := ⟨u.dropLast, u.getLast hne, (List.dropLast_concat_getLast hne).symm⟩
          rw [List.getLastD_concat]
          rw [List.length_append, List.length_singleton] at c hi0
          rw [List.getElem?_append_right (by omega), show i - y.length = 0 by omega] at ha
          exact Option.some.inj ha
        rcases hlt with z | z
        · exact absurd z hne
        · omega
    · by_cases c : i < u.length
      · rw [List.getElem?_append_left c] at ha
        exact a2 i a ha
      · have hi := (List.getElem?_eq_some_iff.mp ha).1
        rw [List.length_append, List.length_singleton] at hi
        have ei : i = u.length := by omega
        subst ei
        rw [List.getElem?_append_right (by omega), show u.length - u.length = 0 by omega] at ha
        have eb : j = a := Option.some.inj ha
        subst eb
        exact ⟨hj, hf⟩
    · rw [List.getLastD_concat, headD_snoc]
      by_cases c : u = []
      · rw [if_pos c]; omega
      · rw [if_neg c]
        rcases hg with z | z
        · exact absurd z c
        · omega
theorem way_stands {ws : List Str} {ps : List Pat} {gap : Nat} {u : List Nat} (h1 : 1 ≤ ps.length) (hu : u ∈ waysL ws ps gap ps.length) : standB ws ps gap (u.map fun (k : Nat) => (k : Int)) = true := by
  obtain ⟨ul, _⟩ := mem_waysL hu
  obtain ⟨a1, a2, a3⟩ := way_ok (by omega) hu
  have hne : u ≠ [] := fun z => by rw [z] at ul; exact absurd ul (by show ¬ 0 = _; omega)
  have hd : (u.map fun (k : Nat) => (k : Int)).headD 0 = ((u.headD 0 : Nat) : Int) := by
    obtain ⟨x, r, rfl⟩ := List.exists_cons_of_ne_nil hne
    rfl
  have hl : (u.map fun (k : Nat) => (k : Int)).getLastD 0 = ((u.getLastD 0 : Nat) : Int) := by
    obtain ⟨y, x, rfl⟩ : ∃ y x, u = y ++ [x] := ⟨u.dropLast, u.getLast hne, (List.dropLast_concat_getLast hne).symm⟩
    rw [List.map_append, List.getLastD_concat]
    exact List.getLastD_concat
  have hlen : (u.map fun (k : Nat) => (k : Int)).length = u.length := List.length_map _
  have get : ∀ (i : Nat) (a : Int), (u.map fun (k : Nat) => (k : Int))[i]? = some a → ∃ b : Nat, u[i]? = some b ∧ a = (b : Int) := fun i a h => by
    rw [List.getElem?_map] at h
    obtain ⟨b, hb, e⟩ := Option.map_eq_some_iff.mp h
    exact ⟨b, hb, e.symm⟩
  have r : riseB (u.map fun (k : Nat) => (k : Int)) = true := riseB_yes ⟨fun z => hne (List.map_eq_nil_iff.mp z), by rw [hd]; omega, fun i a b ha hb => by
    obtain ⟨x, hx, rfl⟩ := get i a ha
    obtain ⟨y, hy, rfl⟩ := get (i + 1) b hb
    have := a1 i x y hx hy
    omega⟩
  have lastw : u.getLastD 0 < ws.length := by
    obtain ⟨y, x, rfl⟩ : ∃ y x, u = y ++ [x] := ⟨u.dropLast, u.getLast hne, (List.dropLast_concat_getLast hne).symm⟩
    rw [List.getLastD_concat]
    exact (a2 y.length x (by rw [List.getElem?_append_right (Nat.le_refl _), Nat.sub_self]; rfl)).1
  have := a3 hne
  unfold standB
  rw [r, hd, hl, hlen, decide_eq_true ul, decide_eq_true (show ((u.getLastD 0 : Nat) : Int) < (ws.length : Int) by omega), decide_eq_true (show ((u.getLastD 0 : Nat) : Int) - ((u.headD 0 : Nat) : Int) + 1 - (u.length : Int) ≤ (gap : Int) by omega), Bool.true_and, Bool.true_and, Bool.true_and, Bool.true_and]
  refine List.all_eq_true.mpr fun b hb => ?_
  obtain ⟨i, hi, rfl⟩ := List.mem_map.mp hb
  have hi' := List.mem_range.mp hi
  have eg : (u.map fun (k : Nat) => (k : Int)).getD i 0 = ((u[i] : Nat) : Int) := by
    rw [List.getD_eq_getElem?_getD, List.getElem?_map, List.getElem?_eq_getElem hi']; rfl
  rw [eg, Int.toNat_natCast]
  exact (a2 i _ (List.getElem?_eq_getElem hi')).2


theorem fn_any {P : Program} {w : World} {K : PySem.W.Frag} {mg : Str → Option Value} {base : Heap} {CX : CXT} {k m : Nat} {f : Addr} {fd : FuncData} {ps : List Str} {sp : Nat → Sp} {lv : Nat → Nat} (F : ∀ n, FnOk P w K mg base CX (lv n) f fd ps (sp n)) (hl : ∀ n, n ≤ m → lv n ≤ k) :
    FnOk P w K mg base CX k f fd ps (fun vs H Q E => ∃ n, n ≤ m ∧ sp n vs H Q E) :=
  ⟨fun vs H Q E ⟨n, _, h⟩ => (F n).len vs H Q E h, fun A outer s H args us vs Q E hr e0 hb hv ⟨n, hn, h⟩ => (F n).run A outer s H args us vs Q E (hr.mono (hl n hn)) e0 hb hv h⟩


/-! ### the evidence that is given shows what is so -/
theorem row_none {ws : List Str} {ps : List Pat} {gap : Nat} (h : 1 ≤ ps.length) (hw : waysL ws ps gap ps.length = []) : rowB ws ps gap = false := by
  rw [row_ways h, hw]; rfl
theorem row_some {ws : List Str} {ps : List Pat} {gap : Nat} {u : List Nat} (h : 1 ≤ ps.length) (hu : u ∈ waysL ws ps gap ps.length) : rowB ws ps gap = true := by
  rw [row_ways h]
  exact decide_eq_true (List.length_pos_iff.mpr fun z => by rw [z] at hu; exact nomatch hu)
theorem okE_evF (ws : List Str) : ∀ n (q : Qn n), okQ n q → okE n (evF ws n q)
  | 0, q, _ => nomatch (q : Empty)
  | n + 1, q, ok => match (q : Qd (Qn n)), ok with
    | .all, _ => (by decide +kernel : PyData.strOk "all" = true)
    | .row ps gap, ok => by
      obtain ⟨ok1, ok2, ok3⟩ : okR ps := ok
      show okE (n + 1) (firstE n ws ps gap)
      rcases firstE_cases n ws ps gap with ⟨_, e⟩ | ⟨u, hu, e⟩
      · rw [e]; exact (by decide +kernel : PyData.strOk "nowhere" = true)
      · rw [e]
        show (u.map fun (k : Nat) => (k : Int)).length ≤ 100
        rw [List.length_map, (mem_waysL hu).1]; omega
    | .neg q, ok => okE_evF ws n q ok
    | .bin o qs, ok => by
      have ok' : qs.length ≤ 100 ∧ ∀ q ∈ qs, okQ n q := ok
      rcases evF_cases ws n o qs with ⟨i, q, hq, _, _, e⟩ | ⟨_, _, e⟩
      · show okE (n + 1) (evF ws (n + 1) (Qd.bin o qs : Qd (Qn n)))
        rw [e]
        exact okE_evF ws n q (ok'.2 q (List.mem_of_getElem? hq))
      · show okE (n + 1) (evF ws (n + 1) (Qd.bin o qs : Qd (Qn n)))
        rw [e]
        show ∀ x ∈ qs.map (evF ws n), okE n x
        intro x hx
        obtain ⟨q, hq, rfl⟩ := List.mem_map.mp hx
        exact okE_evF ws n q (ok'.2 q hq)
theorem fits_mono : ∀ {m k : Nat} {d : PyData}, Fits m d → m ≤ k → Fits k d
  | 0, _, _, h, _ => by cases ‹PyData› <;> exact h.elim
  | m + 1, 0, _, _, hk => absurd hk (by omega)
  | m + 1, k + 1, .list xs, h, hk => ⟨h.1, fun x hx => fits_mono (h.2 x hx) (by omega)⟩
  | m + 1, k + 1, .tuple xs, h, hk => ⟨h.1, fun x hx => fits_mono (h.2 x hx) (by omega)⟩
  | m + 1, k + 1, .dict _, h, _ => h.elim
  | m + 1, k + 1, .none, _, _ => True.intro
  | m + 1, k + 1, .bool _, _, _ => True.intro
  | m + 1, k + 1, .int _, _, _ => True.intro
  | m + 1, k + 1, .str _, _, _ => True.intro
theorem fits_two {k : Nat} {a b : PyData} (ha : Fits k a) (hb : Fits k b) : Fits (k + 1) (.tuple [a, b]) := ⟨by show 2 < 2 ^ 60; decide, fun x hx => by
  rcases List.mem_cons.mp hx with rfl | hx
  · exact ha
  · rw [List.mem_singleton.mp hx]; exact hb⟩
theorem fits_evF (ws : List Str) : ∀ n (q : Qn n), okQ n q → Fits (2 * n + 1) (encE n (evF ws n q))
  | 0, q, _ => nomatch (q : Empty)
  | n + 1, q, ok => match (q : Qd (Qn n)), ok with
    | .all, _ => ⟨by show 1 < 2 ^ 60; decide, fun x hx => by rw [List.mem_singleton.mp hx]; exact True.intro⟩
    | .row ps gap, ok => by
      obtain ⟨ok1, ok2, ok3⟩ : okR ps := ok
      show Fits (2 * (n + 1) + 1) (encE (n + 1) (firstE n ws ps gap))
      rcases firstE_cases n ws ps gap with ⟨_, e⟩ | ⟨u, hu, e⟩
      · rw [e]; exact ⟨by show 1 < 2 ^ 60; decide, fun x hx => by rw [List.mem_singleton.mp hx]; exact True.intro⟩
      · rw [e]
        refine fits_two (k := 2 * n + 2) True.intro ⟨?_, fun x hx => ?_⟩
        · rw [List.length_map, List.length_map, (mem_waysL hu).1]; omega
        · obtain ⟨y, _, rfl⟩ := List.mem_map.mp hx
          exact True.intro
    | .neg q, ok => fits_two (k := 2 * n + 2) True.intro (fits_mono (fits_evF ws n q ok) (by omega))
    | .bin o qs, ok => by
      have ok' : qs.length ≤ 100 ∧ ∀ q ∈ qs, okQ n q := ok
      show Fits (2 * (n + 1) + 1) (encE (n + 1) (evF ws (n + 1) (Qd.bin o qs : Qd (Qn n))))
      rcases evF_cases ws n o qs with ⟨i, q, hq, _, _, e⟩ | ⟨_, _, e⟩
      · rw [e]
        refine ⟨by show 3 < 2 ^ 60; decide, fun x hx => ?_⟩
        rcases List.mem_cons.mp hx with rfl | hx
        · exact True.intro
        · rcases List.mem_cons.mp hx with rfl | hx
          · exact True.intro
          · rw [List.mem_singleton.mp hx]
            exact fits_mono (fits_evF ws n q (ok'.2 q (List.mem_of_getElem? hq))) (by omega)
      · rw [e]
        refine fits_two (k := 2 * n + 2) True.intro ⟨?_, fun x hx => ?_⟩
        · rw [List.length_map, List.length_map]; omega
        · rw [List.map_map] at hx
          obtain ⟨y, hy, rfl⟩ := List.mem_map.mp hx
          exact fits_evF ws n y (ok'.2 y hy)
theorem resE_evF (ws : List Str) : ∀ n (q : Qn n), okQ n q → resE ws n q n (evF ws n q) = some (qB ws n q)
  | 0, q, _ => nomatch (q : Empty)
  | n + 1, q, ok => match (q : Qd (Qn n)), ok with
    | .all, _ => rfl
    | .row ps gap, ok => by
      obtain ⟨ok1, ok2, ok3⟩ : okR ps := ok
      show rowRes ws ps gap (firstE n ws ps gap : Ed (En n)) = some (rowB ws ps gap)
      rcases firstE_cases n ws ps gap with ⟨hw, e⟩ | ⟨u, hu, e⟩
      · rw [e, row_none ok1 hw]
        exact if_pos ⟨rfl, row_none ok1 hw⟩
      · rw [e, row_some ok1 hu]
        exact if_pos (way_stands ok1 hu)
    | .neg q, ok => by
      show (resE ws n q n (evF ws n q)).map (!·) = some (!(qB ws n q))
      rw [resE_evF ws n q ok]; rfl
    | .bin o qs, ok => by
      have ok' : qs.length ≤ 100 ∧ ∀ q ∈ qs, okQ n q := ok
      show resE ws (n + 1) (Qd.bin o qs : Qd (Qn n)) (n + 1) (evF ws (n + 1) (Qd.bin o qs : Qd (Qn n))) = some (qB ws (n + 1) (Qd.bin o qs : Qd (Qn n)))
      rcases evF_cases ws n o qs with ⟨i, q, hq, hb, hB, e⟩ | ⟨all, hB, e⟩
      · rw [e, hB]
        show (if 0 ≤ ((i : Nat) : Int) then (match qs[((i : Nat) : Int).toNat]? with
          | some q' => if resE ws n q' n (evF ws n q) = some o then some o else none
          | none => none) else none) = some o
        rw [if_pos (by omega), Int.toNat_natCast, hq]
        exact if_pos (by rw [resE_evF ws n q (ok'.2 q (List.mem_of_getElem? hq)), hb])
      · rw [e, hB]
        refine if_pos ?_
        rw [decide_eq_true (by rw [List.length_map]), Bool.true_and]
        refine List.all_eq_true.mpr fun b hb => ?_
        obtain ⟨p, hp, rfl⟩ := List.mem_map.mp hb
        obtain ⟨i, hi, rfl⟩ := List.mem_iff_getElem.mp hp
        rw [List.length_zip, List.length_map, Nat.min_self] at hi
        rw [List.getElem_zip]
        show decide (resE ws n qs[i] n ((qs.map (evF ws n))[i]'(by rw [List.length_map]; exact hi)) = some (!o)) = true
        rw [List.getElem_map, resE_evF ws n qs[i] (ok'.2 _ (List.getElem_mem hi)), all _ (List.getElem_mem hi)]
        exact decide_eq_true rfl


/-! ### what evidence shows is so -/
theorem rise_nat {u : List Nat} (h : ∀ (i a b : Nat), u[i]? = some a → u[i + 1]? = some b → a < b) : ∀ (d i a : Nat), u[i]? = some a → i + d + 1 = u.length → a ≤ u.getLastD 0
  | 0, i, a, ha, hd => by
    have hne : u ≠ [] := fun z => by rw [z] at ha; exact nomatch ha
    obtain ⟨y, x, rfl⟩ : ∃ y x, u = y ++ [x] := ⟨u.dropLast, u.getLast hne, (List.dropLast_concat_getLast hne).symm⟩
    rw [List.getLastD_concat]
    rw [List.length_append, List.length_singleton] at hd
    rw [List.getElem?_append_right (by omega), show i - y.length = 0 by omega] at ha
    exact Nat.le_of_eq (Option.some.inj ha).symm
  | d + 1, i, a, ha, hd => by
    have hi : i + 1 < u.length := by omega
    have h1 := List.getElem?_eq_getElem hi
    have := h i a _ ha h1
    have := rise_nat h d (i + 1) _ h1 (by omega)
    omega
theorem way_mem {ws : List Str} {ps : List Pat} {gap : Nat} {u : List Nat} (w : wayP ws ps gap u) : ∀ k, k ≤ u.length → u.take k ∈ waysL ws ps gap k
  | 0, _ => List.mem_singleton.mpr rfl
  | k + 1, hk => by
    obtain ⟨a1, a2, a3⟩ := w
    have ih := way_mem ⟨a1, a2, a3⟩ k (by omega)
    have hlt : k < u.length := by omega
    have hg := List.getElem?_eq_getElem hlt
    show u.take (k + 1) ∈ (waysL ws ps gap k).flatMap (lawExt ws ps gap)
    refine List.mem_flatMap.mpr ⟨u.take k, ih, ?_⟩
    unfold lawExt
    refine List.mem_map.mpr ⟨u[k], List.mem_filter.mpr ⟨List.mem_range.mpr (a2 k _ hg).1, decide_eq_true ⟨?_, ?_, ?_⟩⟩, ?_⟩
    · by_cases c : u.take k = []
      · exact .inl c
      · refine .inr ?_
        have k0 : 0 < k := by
          rcases Nat.eq_zero_or_pos k with z | z
          · rw [z] at c; exact absurd rfl c
          · exact z
        obtain ⟨j, rfl⟩ : ∃ j, k = j + 1 := ⟨k - 1, by omega⟩
        have hj : j < u.length := by omega
        have el : (u.take (j + 1)).getLastD 0 = u[j] := by
          rw [List.take_add_one, List.getElem?_eq_getElem hj]
          exact List.getLastD_concat
        rw [el]
        exact a1 j _ _ (List.getElem?_eq_getElem hj) hg
    · rw [List.length_take, Nat.min_eq_left (by omega)]
      exact (a2 k _ hg).2
    · by_cases c : u.take k = []
      · exact .inl c
      · refine .inr ?_
        have hne : u ≠ [] := fun z => by rw [z, List.take_nil] at c; exact c rfl
        have := rise_nat a1 (u.length - k - 1) k _ hg (by omega)
        have := a3 hne
        have eh : (u.take k).headD 0 = u.headD 0 := by
          obtain ⟨x, r, rfl⟩ := List.exists_cons_of_ne_nil hne
          cases k with
          | zero => exact absurd rfl c
          | succ k => rfl
        rw [eh]
        omega
    · rw [List.take_add_one, hg]; rfl
theorem stands_way {ws : List Str} {ps : List Pat} {gap : Nat} {L : List Int} (h : standB ws ps gap L = true) : (L.map Int.toNat) ∈ waysL ws ps gap ps.length := by
  unfold standB at h
  rw [Bool.and_eq_true, Bool.and_eq_true, Bool.and_eq_true, Bool.and_eq_true] at h
  obtain ⟨h1, h2, h3, h4, h5⟩ := h
  have h2 := of_decide_eq_true h2
  have h3 := of_decide_eq_true h3
  have h4 := of_decide_eq_true h4
  have r : riseP L := by
    by_cases c : riseP L
    · exact c
    · rw [riseB_no c] at h1; exact nomatch h1
  have get : ∀ (i a : Nat), (L.map Int.toNat)[i]? = some a → L[i]? = some (a : Int) := fun i a ha => by
    rw [List.getElem?_map] at ha
    obtain ⟨b, hb, e⟩ := Option.map_eq_some_iff.mp ha
    have := rise_pos r i b hb
    rw [hb, ← e, Int.toNat_of_nonneg this]
  have hne : L.map Int.toNat ≠ [] := fun z => r.1 (List.map_eq_nil_iff.mp z)
  have hh : 0 ≤ L.headD 0 := r.2.1
  have hl0 : 0 ≤ L.getLastD 0 := by
    obtain ⟨y, x, rfl⟩ : ∃ y x, L = y ++ [x] := ⟨L.dropLast, L.getLast r.1, (List.dropLast_concat_getLast r.1).symm⟩
    rw [List.getLastD_concat]
    exact rise_pos r y.length x (by rw [List.getElem?_append_right (Nat.le_refl _), Nat.sub_self]; rfl)
  have hd : (((L.map Int.toNat).headD 0 : Nat) : Int) = L.headD 0 := by
    obtain ⟨x, t, rfl⟩ := List.exists_cons_of_ne_nil r.1
    exact Int.toNat_of_nonneg hh
  have hl : (((L.map Int.toNat).getLastD 0 : Nat) : Int) = L.getLastD 0 := by
    obtain ⟨y, x, rfl⟩ : ∃ y x, L = y ++ [x] := ⟨L.dropLast, L.getLast r.1, (List.dropLast_concat_getLast r.1).symm⟩
    rw [List.getLastD_concat] at hl0 ⊢
    rw [List.map_append]
    show (((y.map Int.toNat ++ [x.toNat]).getLastD 0 : Nat) : Int) = x
    rw [List.getLastD_concat]
    exact Int.toNat_of_nonneg hl0
  have w : wayP ws ps gap (L.map Int.toNat) := by
    refine ⟨fun i a b ha hb => ?_, fun i a ha => ?_, fun _ => by omega⟩
    · have := r.2.2 i _ _ (get i a ha) (get (i + 1) b hb)
      omega
    · have g := get i a ha
      have hi := (List.getElem?_eq_some_iff.mp g).1
      have := rise_last r (L.length - i - 1) i _ g (by omega)
      refine ⟨by omega, ?_⟩
      have := List.all_eq_true.mp h5 _ (List.mem_map.mpr ⟨i, List.mem_range.mpr hi, rfl⟩)
      have eg : L.getD i 0 = (a : Int) := by rw [List.getD_eq_getElem?_getD, g]; rfl
      rw [eg, Int.toNat_natCast] at this
      exact this
  have m := way_mem w (L.map Int.toNat).length (Nat.le_refl _)
  rw [List.take_of_length_le (Nat.le_refl _), List.length_map, h2] at m
  exact m
theorem resE_true (ws : List Str) : ∀ n (q : Qn n) m (e : En m) (b : Bool), okQ n q → resE ws n q m e = some b → qB ws n q = b
  | 0, q, _, _, _, _, _ => nomatch (q : Empty)
  | _ + 1, _, 0, e, _, _, _ => nomatch (e : Empty)
  | n + 1, q, m + 1, e, b, ok, h => match (q : Qd (Qn n)), ok, h with
    | .all, _, h => by
      have h' : allRes (e : Ed (En m)) = some b := h
      show true = b
      cases e with
      | tag s =>
        by_cases c : s = "all"
        · rw [show allRes (Ed.tag s : Ed (En m)) = some true from if_pos c] at h'
          exact Option.some.inj h'
        · rw [show allRes (Ed.tag s : Ed (En m)) = none from if_neg c] at h'
          exact nomatch h'
      | _ => exact nomatch h'
    | .row ps gap, ok, h => by
      obtain ⟨ok1, ok2, ok3⟩ : okR ps := ok
      have h' : rowRes ws ps gap (e : Ed (En m)) = some b := h
      show rowB ws ps gap = b
      cases e with
      | tag s =>
        by_cases c : s = "nowhere" ∧ rowB ws ps gap = false
        · rw [show rowRes ws ps gap (Ed.tag s : Ed (En m)) = some false from if_pos c] at h'
          rw [c.2]; exact Option.some.inj h'
        · rw [show rowRes ws ps gap (Ed.tag s : Ed (En m)) = none from if_neg c] at h'
          exact nomatch h'
      | stands L =>
        by_cases c : standB ws ps gap L = true
        · rw [show rowRes ws ps gap (Ed.stands L : Ed (En m)) = some true from if_pos c] at h'
          rw [row_some ok1 (stands_way c)]; exact Option.some.inj h'
        · rw [show rowRes ws ps gap (Ed.stands L : Ed (En m)) = none from if_neg c] at h'
          exact nomatch h'
      | _ => exact nomatch h'
    | .neg q, ok, h => by
      show (!(qB ws n q)) = b
      cases e with
      | neg e =>
        have h' : (resE ws n q m e).map (!·) = some b := h
        obtain ⟨c, hc, hb⟩ := Option.map_eq_some_iff.mp h'
        rw [resE_true ws n q m e c ok hc]; exact hb
      | _ => exact nomatch (show (none : Option Bool) = some b from h)
    | .bin o qs, ok, h => by
      have ok' : qs.length ≤ 100 ∧ ∀ q ∈ qs, okQ n q := ok
      cases e with
      | one i e =>
        have h' : (if 0 ≤ i then (match qs[i.toNat]? with
          | some q => if resE ws n q m e = some o then some o else none
          | none => none) else none) = some b := h
        by_cases c : 0 ≤ i
        · rw [if_pos c] at h'
          cases hq : qs[i.toNat]? with
          | none => rw [hq] at h'; exact nomatch h'
          | some q =>
            rw [hq] at h'
            by_cases cr : resE ws n q m e = some o
            · rw [show (match some q with
                | some q => if resE ws n q m e = some o then some o else none
                | none => none) = some o from if_pos cr] at h'
              have hm := List.mem_of_getElem? hq
              have hb := resE_true ws n q m e o (ok'.2 q hm) cr
              rw [← Option.some.inj h']
              cases o with
              | false => exact List.all_eq_false.mpr ⟨q, hm, by rw [hb]; exact Bool.false_ne_true⟩
              | true => exact List.any_eq_true.mpr ⟨q, hm, hb⟩
            · rw [show (match some q with
                | some q => if resE ws n q m e = some o then some o else none
                | none => none) = none from if_neg cr] at h'
              exact nomatch h'
        · rw [if_neg c] at h'; exact nomatch h'
      | each es =>
        have h' : (if (decide (es.length = qs.length) && ((qs.zip es).map fun p => decide (resE ws n p.1 m p.2 = some (!o))).all id) = true then some (!o) else none) = some b := h
        by_cases c : (decide (es.length = qs.length) && ((qs.zip es).map fun p => decide (resE ws n p.1 m p.2 = some (!o))).all id) = true
        · rw [if_pos c] at h'
          rw [Bool.and_eq_true] at c
          have hl := of_decide_eq_true c.1
          have all : ∀ q ∈ qs, qB ws n q = !o := fun q hq => by
            obtain ⟨i, hi, rfl⟩ := List.mem_iff_getElem.mp hq
            have hz : (qs.zip es)[i]? = some (qs[i], es[i]'(by omega)) := by
              rw [List.getElem?_zip_eq_some]
              exact ⟨List.getElem?_eq_getElem hi, List.getElem?_eq_getElem (by omega)⟩
            have := List.all_eq_true.mp c.2 _ (List.mem_map.mpr ⟨_, List.mem_of_getElem? hz, rfl⟩)
            exact resE_true ws n _ m _ _ (ok'.2 _ hq) (of_decide_eq_true this)
          rw [← Option.some.inj h']
          cases o with
          | false => exact List.all_eq_true.mpr fun y hy => all y hy
          | true => exact List.any_eq_false.mpr fun y hy => by rw [all y hy]; exact Bool.false_ne_true
        · rw [if_neg c] at h'; exact nomatch h'
      | _ => exact nomatch (show (none : Option Bool) = some b from h)


/-! ### evidence that is spoilt -/
def up : ∀ m, En m → En (m + 1)
  | 0, e => nomatch (e : Empty)
  | m + 1, e => match (e : Ed (En m)) with
    | .tag s => (Ed.tag s : Ed (En (m + 1)))
    | .nil => (Ed.nil : Ed (En (m + 1)))
    | .two s i => (Ed.two s i : Ed (En (m + 1)))
    | .stands L => (Ed.stands L : Ed (En (m + 1)))
    | .one i e => (Ed.one i (up m e) : Ed (En (m + 1)))
    | .neg e => (Ed.neg (up m e) : Ed (En (m + 1)))
    | .each es => (Ed.each (es.map (up m)) : Ed (En (m + 1)))
theorem encE_up : ∀ m (e : En m), encE (m + 1) (up m e) = encE m e
  | 0, e => nomatch (e : Empty)
  | m + 1, e => match (e : Ed (En m)) with
    | .tag s => rfl
    | .nil => rfl
    | .two s i => rfl
    | .stands L => rfl
    | .one i e => by
      show PyData.tuple [.str "one", .int i, encE (m + 1) (up m e)] = .tuple [.str "one", .int i, encE m e]
      rw [encE_up m e]
    | .neg e => by
      show PyData.tuple [.str "not", encE (m + 1) (up m e)] = .tuple [.str "not", encE m e]
      rw [encE_up m e]
    | .each es => by
      show PyData.tuple [.str "each", .tuple ((es.map (up m)).map (encE (m + 1)))] = .tuple [.str "each", .tuple (es.map (encE m))]
      rw [List.map_map, show (encE (m + 1)) ∘ up m = encE m from funext (encE_up m)]
theorem okE_up : ∀ m (e : En m), okE m e → okE (m + 1) (up m e)
  | 0, e, _ => nomatch (e : Empty)
  | m + 1, e, h => match (e : Ed (En m)), h with
    | .tag s, h => h
    | .nil, _ => True.intro
    | .two s i, h => h
    | .stands L, h => h
    | .one i e, h => okE_up m e h
    | .neg e, h => okE_up m e h
    | .each es, h => by
      show ∀ x ∈ es.map (up m), okE (m + 1) x
      intro x hx
      obtain ⟨y, hy, rfl⟩ := List.mem_map.mp hx
      exact okE_up m y ((show ∀ e ∈ es, okE m e from h) y hy)
def up2 (m : Nat) (e : En m) : En (m + 2) := up (m + 1) (up m e)
theorem encE_up2 (m : Nat) (e : En m) : encE (m + 2) (up2 m e) = encE m e := (encE_up (m + 1) _).trans (encE_up m e)
theorem okE_up2 {m : Nat} {e : En m} (h : okE m e) : okE (m + 2) (up2 m e) := okE_up (m + 1) _ (okE_up m e h)
def ySpoilt (K : PySem.W.Frag) (m : Nat) : Sp := fun vs H Q _ => ∃ (b p : Addr) (ve : V) (e : En m), vs = [.ref b, ve] ∧ BoxAt H b p ∧ Dp K H ve (encE m e) ∧ okE m e ∧ ∀ v H' (e' : En (m + 2)), okE (m + 2) e' → Dp K H' v (encE (m + 2) e') → BoxAt H' b p → Kp b H H' → Q v H'
def wrongE (m : Nat) : List (En (m + 2)) := [(Ed.tag "nowhere" : Ed (En (m + 1))), (Ed.tag "all" : Ed (En (m + 1))), (Ed.stands [0] : Ed (En (m + 1))), (Ed.stands [1, 0] : Ed (En (m + 1))), (Ed.each [] : Ed (En (m + 1))), (Ed.one 0 (Ed.tag "all" : Ed (En m)) : Ed (En (m + 1))), (Ed.nil : Ed (En (m + 1))), (Ed.two "x" 1 : Ed (En (m + 1))), (Ed.tag "yes" : Ed (En (m + 1))), (Ed.two "stands" 0 : Ed (En (m + 1))), (Ed.one (-1) (Ed.tag "nowhere" : Ed (En m)) : Ed (En (m + 1))), (Ed.one 7 (Ed.tag "nowhere" : Ed (En m)) : Ed (En (m + 1))), (Ed.tag "stands" : Ed (En (m + 1)))]
theorem wrong_ok (m : Nat) : ∀ e ∈ wrongE m, okE (m + 2) e := List.forall_mem_cons.mpr ⟨(by first | exact True.intro | (show PyData.strOk _ = true; decide +kernel)), List.forall_mem_cons.mpr ⟨(by first | exact True.intro | (show PyData.strOk _ = true; decide +kernel)), List.forall_mem_cons.mpr ⟨(by show ([0] : List Int).length ≤ 100; decide), List.forall_mem_cons.mpr ⟨(by show ([1, 0] : List Int).length ≤ 100; decide), List.forall_mem_cons.mpr ⟨(fun e he => (nomatch he)), List.forall_mem_cons.mpr ⟨(by first | exact True.intro | (show PyData.strOk _ = true; decide +kernel)), List.forall_mem_cons.mpr ⟨(by first | exact True.intro | (show PyData.strOk _ = true; decide +kernel)), List.forall_mem_cons.mpr ⟨⟨by decide, by decide, by decide, by decide +kernel⟩, List.forall_mem_cons.mpr ⟨(by first | exact True.intro | (show PyData.strOk _ = true; decide +kernel)), List.forall_mem_cons.mpr ⟨⟨by decide, by decide, by decide, by decide +kernel⟩, List.forall_mem_cons.mpr ⟨(by first | exact True.intro | (show PyData.strOk _ = true; decide +kernel)), List.forall_mem_cons.mpr ⟨(by first | exact True.intro | (show PyData.strOk _ = true; decide +kernel)), List.forall_mem_cons.mpr ⟨(by first | exact True.intro | (show PyData.strOk _ = true; decide +kernel)), fun e he => (nomatch he)⟩⟩⟩⟩⟩⟩⟩⟩⟩⟩⟩⟩⟩
theorem DpAll.set {K : PySem.W.Frag} {H : Hp} {v : V} {d : PyData} (hv : Dp K H v d) : ∀ {vs : List V} {ds : List PyData} {j : Nat}, DpAll K H vs ds → DpAll K H (vs.set j v) (ds.set j d)
  | [], _, j, h => by cases h; exact .nil
  | _ :: _, _, 0, h => by cases h with | cons h1 h2 => exact .cons hv h2
  | _ :: _, _, j + 1, h => by cases h with | cons h1 h2 => exact .cons h1 (DpAll.set hv h2)
theorem DpAll.dropN {K : PySem.W.Frag} {H : Hp} : ∀ {vs : List V} {ds : List PyData}, DpAll K H vs ds → ∀ n, DpAll K H (vs.drop n) (ds.drop n)
  | _, _, h, 0 => h
  | [], _, h, n + 1 => by cases h; exact .nil
  | _ :: _, _, h, n + 1 => by cases h with | cons h1 h2 => exact DpAll.dropN h2 n
theorem ixN_nat {n j : Nat} (h : j < n) : ixN n ((j : Nat) : Int) = some j := by
  unfold ixN
  rw [if_pos (show (0 : Int) ≤ (j : Int) by omega), if_pos (show (j : Int) < (n : Int) by omega), Int.toNat_natCast]
theorem len2 {K : PySem.W.Frag} {H : Hp} {m : Nat} {v : V} {e : En m} (h : Dp K H v (encE m e)) : ∃ a xs, v = .ref a ∧ SqT K H a xs := by
  cases m with
  | zero => exact nomatch (e : Empty)
  | succ m =>
    obtain ⟨ds, eds, _, _⟩ := told_use (e : Ed (En m))
    obtain ⟨a, xs, e1, e2, _⟩ := Dp.tupI (show Dp K H v (.tuple ds) by rw [← eds]; exact h)
    exact ⟨a, xs, e1, e2⟩
section
variable {P : Program} {w : World} {K : PySem.W.Frag} {mg : Str → Option Value} {base : Heap} {A : Nat → Addr} {D : Nat → FuncData}
theorem ok_spoilt (T : Txt K mg A D) : ∀ m, FnOk P w K mg base CX0 (m + 2) (A 30) (D 30) ["box", "evidence"] (ySpoilt K m)
  | 0 => by
    have no : ∀ vs H Q E, ¬ ySpoilt K 0 vs H Q E := fun vs H Q E h => by
      obtain ⟨b, p, ve, e, _⟩ := h
      exact nomatch (e : Empty)
    exact ⟨fun vs H Q E h => absurd h (no vs H Q E), fun A outer s H args us vs Q E _ _ _ _ h => absurd h (no vs H Q E)⟩
  | m0 + 1 => by
    obtain ⟨m, hm⟩ : ∃ m, m = m0 + 1 := ⟨_, rfl⟩
    have G__law_spoilt := ok_spoilt T m0
    have G__law_draw := ok_draw (P := P) (w := w) (base := base) T
    refine T.F__law_spoilt.ok (k := m0 + 2) sc__law_spoilt (fun vs H Q E h => ?_) (fun cdv A' outer s H vs Q E hr h => ?_)
    · obtain ⟨b, p, ve, e, rfl, _⟩ := h; rfl
    obtain ⟨b, p, ve, e, rfl, B, he, oke, fin⟩ := h
    have hnd := sc__law_spoilt.nd
    refine ⟨_, (pss_cons (ps_set (i := 2) hnd rfl (Or.inl rfl) (pe_call G__law_draw (hr.mono (by first | decide | omega)) rfl T.m__law_draw T.F__law_draw.kp T.b__law_draw .nil pass0 (pa_cons (pv 0) (pa_cons pe_int pa_nil)))) (pss_cons (ps_if (pt_cmpR op_eq (pv 2) pe_int (nomark _)) (pss_one (ps_ret (pe_ix (r := rIxL K) ix_list (pe_lst (pa_cons (pe_tup (pa_cons pe_str pa_nil)) (pa_cons (pe_tup (pa_cons pe_str pa_nil)) (pa_cons (pe_tup (pa_cons pe_str (pa_cons (pe_tup (pa_cons pe_int pa_nil)) pa_nil))) (pa_cons (pe_tup (pa_cons pe_str (pa_cons (pe_tup (pa_cons pe_int (pa_cons pe_int pa_nil))) pa_nil))) (pa_cons (pe_tup (pa_cons pe_str (pa_cons (pe_tup pa_nil) pa_nil))) (pa_cons (pe_tup (pa_cons pe_str (pa_cons pe_int (pa_cons (pe_tup (pa_cons pe_str pa_nil)) pa_nil)))) (pa_cons (pe_tup pa_nil) (pa_cons (pe_tup (pa_cons pe_str (pa_cons pe_int pa_nil))) (pa_cons (pe_tup (pa_cons pe_str pa_nil)) (pa_cons (pe_tup (pa_cons pe_str (pa_cons pe_int pa_nil))) (pa_cons (pe_tup (pa_cons pe_str (pa_cons (pe_un un_neg pe_int) (pa_cons (pe_tup (pa_cons pe_str pa_nil)) pa_nil)))) (pa_cons (pe_tup (pa_cons pe_str (pa_cons pe_int (pa_cons (pe_tup (pa_cons pe_str pa_nil)) pa_nil)))) (pa_cons (pe_tup (pa_cons pe_str pa_nil)) pa_nil)))))))))))))) (pe_call G__law_draw (hr.mono (by first | decide | omega)) rfl T.m__law_draw T.F__law_draw.kp T.b__law_draw .nil pass0 (pa_cons (pv 0) (pa_cons pe_int pa_nil))) (fun _ _ => rfl)))) pss_nil) (pss_cons (ps_if (pt_cmpR op_lt (pe_callB call_len_seq rfl T.z_len PySem.boot_len (pa_cons (pv 1) pa_nil)) pe_int (nomark _)) (pss_one (ps_ret (pv 1))) pss_nil) (pss_cons (ps_if (pt_cmpR op_eq (pe_ix (r := rIxT K) ix_tup (pv 1) pe_int (fun _ _ => rfl)) pe_str (nomark _)) (pss_cons (ps_if (pt_cmpR op_lt (pv 2) pe_int (nomark _)) (pss_one (ps_ret (pe_tup (pa_cons pe_str (pa_cons (pe_op op_add (pe_ix (r := rIxT K) ix_tup (pv 1) pe_int (fun _ _ => rfl)) (pe_ix (r := rIxL K) ix_list (pe_lst (pa_cons pe_int (pa_cons (pe_un un_neg pe_int) pa_nil))) (pe_call G__law_draw (hr.mono (by first | decide | omega)) rfl T.m__law_draw T.F__law_draw.kp T.b__law_draw .nil pass0 (pa_cons (pv 0) (pa_cons pe_int pa_nil))) (fun _ _ => rfl))) (pa_cons (pe_ix (r := rIxT K) ix_tup (pv 1) pe_int (fun _ _ => rfl)) pa_nil)))))) pss_nil) (pss_one (ps_ret (pe_tup (pa_cons pe_str (pa_cons (pe_ix (r := rIxT K) ix_tup (pv 1) pe_int (fun _ _ => rfl)) (pa_cons (pe_call G__law_spoilt (hr.mono (by first | decide | omega)) rfl T.m__law_spoilt T.F__law_spoilt.kp T.b__law_spoilt .nil pass0 (pa_cons (pv 0) (pa_cons (pe_ix (r := rIxT K) ix_tup (pv 1) pe_int (fun _ _ => rfl)) pa_nil))) pa_nil))))))) pss_nil) (pss_cons (ps_if (PW.pt (pw_or (pt_not (pt_val (pe_callB call_isi rfl T.z_isinstance (by decide +kernel) (pa_cons (pe_ix (r := rIxT K) ix_tup (pv 1) pe_int (fun _ _ => rfl)) (pa_cons (pe_bltn (v := .ty "tuple") rfl T.z_tuple (by decide +kernel) rfl) pa_nil))))) (pw_or1 (pt_cmpR op_eq (pe_callB call_len_seq rfl T.z_len PySem.boot_len (pa_cons (pe_ix (r := rIxT K) ix_tup (pv 1) pe_int (fun _ _ => rfl)) pa_nil)) pe_int (nomark _))))) (pss_one (ps_ret (pv 1))) pss_nil) (pss_cons (ps_if (PW.pt (pw_and (pt_cmpR op_eq (pe_ix (r := rIxT K) ix_tup (pv 1) pe_int (fun _ _ => rfl)) pe_str (nomark _)) (pw_and1 (pt_cmpR op_lt (pv 2) pe_int (nomark _))))) (pss_cons (ps_set (i := 3) hnd rfl (Or.inl rfl) (pe_callTy call_list_of rfl T.z_list (by decide +kernel) (pa_cons (pe_ix (r := rIxT K) ix_tup (pv 1) pe_int (fun _ _ => rfl)) pa_nil))) (pss_cons (ps_set (i := 4) hnd rfl (Or.inl rfl) (pe_call G__law_draw (hr.mono (by first | decide | omega)) rfl T.m__law_draw T.F__law_draw.kp T.b__law_draw .nil pass0 (pa_cons (pv 0) (pa_cons (pe_callB call_len_seq rfl T.z_len PySem.boot_len (pa_cons (pv 3) pa_nil)) pa_nil)))) (pss_cons (ps_asg (pe_op op_add (pe_ix (r := rIxL K) ix_list (pv 3) (pv 4) (fun _ _ => rfl)) (pe_ix (r := rIxL K) ix_list (pe_lst (pa_cons pe_int (pa_cons (pe_un un_neg pe_int) (pa_cons pe_int (pa_cons pe_int pa_nil))))) (pe_call G__law_draw (hr.mono (by first | decide | omega)) rfl T.m__law_draw T.F__law_draw.kp T.b__law_draw .nil pass0 (pa_cons (pv 0) (pa_cons pe_int pa_nil))) (fun _ _ => rfl))) (pg_sub (pv 3) (pv 4) set_list)) (pss_one (ps_ret (pe_tup (pa_cons pe_str (pa_cons (pe_callTy call_tuple_of rfl T.z_tuple (by decide +kernel) (pa_cons (pv 3) pa_nil)) pa_nil)))))))) pss_nil) (pss_cons (ps_if (pt_cmpR op_eq (pe_ix (r := rIxT K) ix_tup (pv 1) pe_int (fun _ _ => rfl)) pe_str (nomark _)) (pss_one (ps_ret (pe_tup (pa_cons pe_str (pa_cons (pe_call G__law_spoilt (hr.mono (by first | decide | omega)) rfl T.m__law_spoilt T.F__law_spoilt.kp T.b__law_spoilt .nil pass0 (pa_cons (pv 0) (pa_cons (pe_ix (r := rIxT K) ix_tup (pv 1) pe_int (fun _ _ => rfl)) pa_nil))) pa_nil))))) pss_nil) (pss_cons (ps_if (pt_cmpR op_eq (pe_ix (r := rIxT K) ix_tup (pv 1) pe_int (fun _ _ => rfl)) pe_str (nomark _)) (pss_cons (ps_set (i := 5) hnd rfl (Or.inl rfl) (pe_callTy call_list_of rfl T.z_list (by decide +kernel) (pa_cons (pe_ix (r := rIxT K) ix_tup (pv 1) pe_int (fun _ _ => rfl)) pa_nil))) (pss_cons (ps_if (pt_cmpR op_lt (pv 2) pe_int (nomark _)) (pss_one (ps_ret (pe_tup (pa_cons pe_str (pa_cons (pe_callTy call_tuple_of rfl T.z_tuple (by decide +kernel) (pa_cons (pe_slice sl_list (pv 5) (po_some pe_int) po_none) pa_nil)) pa_nil))))) pss_nil) (pss_cons (ps_set (i := 4) hnd rfl (Or.inl rfl) (pe_call G__law_draw (hr.mono (by first | decide | omega)) rfl T.m__law_draw T.F__law_draw.kp T.b__law_draw .nil pass0 (pa_cons (pv 0) (pa_cons (pe_callB call_len_seq rfl T.z_len PySem.boot_len (pa_cons (pv 5) pa_nil)) pa_nil)))) (pss_cons (ps_asg (pe_call G__law_spoilt (hr.mono (by first | decide | omega)) rfl T.m__law_spoilt T.F__law_spoilt.kp T.b__law_spoilt .nil pass0 (pa_cons (pv 0) (pa_cons (pe_ix (r := rIxL K) ix_list (pv 5) (pv 4) (fun _ _ => rfl)) pa_nil))) (pg_sub (pv 5) (pv 4) set_list)) (pss_one (ps_ret (pe_tup (pa_cons pe_str (pa_cons (pe_callTy call_tuple_of rfl T.z_tuple (by decide +kernel) (pa_cons (pv 5) pa_nil)) pa_nil))))))))) pss_nil) (pss_one (ps_ret (pv 1))))))))))), ?_⟩
    refine ⟨_, rfl, b, p, 10, rfl, B, (by decide), fun r H1 h10 h11 B1 k1 => ?_⟩
    refine ⟨_, rfl, rfl, _, rfl, ite2 (fun c0 => ?_) (fun c0 => ?_)⟩
    · clear c0
      refine ⟨(by show 1 ≤ sizeLine; decide), fun a0 ha0 => ?_⟩
      have sa0 := same_new (o := .tup [.str "nowhere"]) ha0
      refine ⟨(by show 1 ≤ sizeLine; decide), fun a1 ha1 => ?_⟩
      have sa1 := same_new (o := .tup [.str "all"]) ha1
      refine ⟨(by show 1 ≤ sizeLine; decide), fun b2 hb2 => ?_⟩
      have sb2 := same_new (o := .tup [.int 0]) hb2
      refine ⟨(by show 2 ≤ sizeLine; decide), fun a2 ha2 => ?_⟩
      have sa2 := same_new (o := .tup [.str "stands", .ref b2]) ha2
      refine ⟨(by show 2 ≤ sizeLine; decide), fun b3 hb3 => ?_⟩
      have sb3 := same_new (o := .tup [.int 1, .int 0]) hb3
      refine ⟨(by show 2 ≤ sizeLine; decide), fun a3 ha3 => ?_⟩
      have sa3 := same_new (o := .tup [.str "stands", .ref b3]) ha3
      refine ⟨(by show 0 ≤ sizeLine; decide), fun b4 hb4 => ?_⟩
      have sb4 := same_new (o := .tup []) hb4
      refine ⟨(by show 2 ≤ sizeLine; decide), fun a4 ha4 => ?_⟩
      have sa4 := same_new (o := .tup [.str "each", .ref b4]) ha4
      refine ⟨(by show 1 ≤ sizeLine; decide), fun b5 hb5 => ?_⟩
      have sb5 := same_new (o := .tup [.str "all"]) hb5
      refine ⟨(by show 3 ≤ sizeLine; decide), fun a5 ha5 => ?_⟩
      have sa5 := same_new (o := .tup [.str "one", .int 0, .ref b5]) ha5
      refine ⟨(by show 0 ≤ sizeLine; decide), fun a6 ha6 => ?_⟩
      have sa6 := same_new (o := .tup []) ha6
      refine ⟨(by show 2 ≤ sizeLine; decide), fun a7 ha7 => ?_⟩
      have sa7 := same_new (o := .tup [.str "x", .int 1]) ha7
      refine ⟨(by show 1 ≤ sizeLine; decide), fun a8 ha8 => ?_⟩
      have sa8 := same_new (o := .tup [.str "yes"]) ha8
      refine ⟨(by show 2 ≤ sizeLine; decide), fun a9 ha9 => ?_⟩
      have sa9 := same_new (o := .tup [.str "stands", .int 0]) ha9
      refine ⟨_, rfl, ?_⟩
      refine ⟨(by show 1 ≤ sizeLine; decide), fun b10 hb10 => ?_⟩
      have sb10 := same_new (o := .tup [.str "nowhere"]) hb10
      refine ⟨(by show 3 ≤ sizeLine; decide), fun a10 ha10 => ?_⟩
      have sa10 := same_new (o := .tup [.str "one", .int (-1), .ref b10]) ha10
      refine ⟨(by show 1 ≤ sizeLine; decide), fun b11 hb11 => ?_⟩
      have sb11 := same_new (o := .tup [.str "nowhere"]) hb11
      refine ⟨(by show 3 ≤ sizeLine; decide), fun a11 ha11 => ?_⟩
      have sa11 := same_new (o := .tup [.str "one", .int 7, .ref b11]) ha11
      refine ⟨(by show 1 ≤ sizeLine; decide), fun a12 ha12 => ?_⟩
      have sa12 := same_new (o := .tup [.str "stands"]) ha12
      refine ⟨(by show 13 ≤ sizeLine; decide), fun l hl => ?_⟩
      have sl := same_new (o := .lst [.ref a0, .ref a1, .ref a2, .ref a3, .ref a4, .ref a5, .ref a6, .ref a7, .ref a8, .ref a9, .ref a10, .ref a11, .ref a12]) hl
      have c_a12 := sl
      have c_a11 := sa12.trans c_a12
      have c_b11 := sa11.trans c_a11
      have c_a10 := sb11.trans c_b11
      have c_b10 := sa10.trans c_a10
      have c_a9 := sb10.trans c_b10
      have c_a8 := sa9.trans c_a9
      have c_a7 := sa8.trans c_a8
      have c_a6 := sa7.trans c_a7
      have c_a5 := sa6.trans c_a6
      have c_b5 := sa5.trans c_a5
      have c_a4 := sb5.trans c_b5
      have c_b4 := sa4.trans c_a4
      have c_a3 := sb4.trans c_b4
      have c_b3 := sa3.trans c_a3
      have c_a2 := sb3.trans c_b3
      have c_b2 := sa2.trans c_a2
      have c_a1 := sb2.trans c_b2
      have c_a0 := sa1.trans c_a1
      have c_all := sa0.trans c_a0
      have f_a0 := c_a0 a0 (.tup [.str "nowhere"]) upd_same
      have f_a1 := c_a1 a1 (.tup [.str "all"]) upd_same
      have f_b2 := c_b2 b2 (.tup [.int 0]) upd_same
      have f_a2 := c_a2 a2 (.tup [.str "stands", .ref b2]) upd_same
      have f_b3 := c_b3 b3 (.tup [.int 1, .int 0]) upd_same
      have f_a3 := c_a3 a3 (.tup [.str "stands", .ref b3]) upd_same
      have f_b4 := c_b4 b4 (.tup []) upd_same
      have f_a4 := c_a4 a4 (.tup [.str "each", .ref b4]) upd_same
      have f_b5 := c_b5 b5 (.tup [.str "all"]) upd_same
      have f_a5 := c_a5 a5 (.tup [.str "one", .int 0, .ref b5]) upd_same
      have f_a6 := c_a6 a6 (.tup []) upd_same
      have f_a7 := c_a7 a7 (.tup [.str "x", .int 1]) upd_same
      have f_a8 := c_a8 a8 (.tup [.str "yes"]) upd_same
      have f_a9 := c_a9 a9 (.tup [.str "stands", .int 0]) upd_same
      have f_b10 := c_b10 b10 (.tup [.str "nowhere"]) upd_same
      have f_a10 := c_a10 a10 (.tup [.str "one", .int (-1), .ref b10]) upd_same
      have f_b11 := c_b11 b11 (.tup [.str "nowhere"]) upd_same
      have f_a11 := c_a11 a11 (.tup [.str "one", .int 7, .ref b11]) upd_same
      have f_a12 := c_a12 a12 (.tup [.str "stands"]) upd_same
      have DA : DpAll K _ _ ((wrongE (m0 + 1)).map (encE (m0 + 1 + 2))) := .cons (mk_tup1 f_a0) (.cons (mk_tup1 f_a1) (.cons (mk_tup2 f_a2 (.tup (SqT.of f_b2) (DpAll.ints [0]))) (.cons (mk_tup2 f_a3 (.tup (SqT.of f_b3) (DpAll.ints [1, 0]))) (.cons (mk_tup2 f_a4 (.tup (SqT.of f_b4) .nil)) (.cons (mk_tup3 f_a5 (mk_tup1 f_b5)) (.cons (.tup (SqT.of f_a6) .nil) (.cons (mk_tup2 f_a7 (.int _)) (.cons (mk_tup1 f_a8) (.cons (mk_tup2 f_a9 (.int _)) (.cons (mk_tup3 f_a10 (mk_tup1 f_b10)) (.cons (mk_tup3 f_a11 (mk_tup1 f_b11)) (.cons (mk_tup1 f_a12) (.nil)))))))))))))
      have c_pre := ((((((((((((((((((sa0).trans sa1).trans sb2).trans sa2).trans sb3).trans sa3).trans sb4).trans sa4).trans sb5).trans sa5).trans sa6).trans sa7).trans sa8).trans sa9).trans sb10).trans sa10).trans sb11).trans sa11).trans sa12
      have Bl := B1.keep c_pre
      obtain ⟨hlb, hlp⟩ := Bl.ne hl
      have Be := Bl.keep sl
      refine ⟨_, rfl, b, p, 13, rfl, Be, (by decide), fun r2 H2 h20 h21 B2 k2 => ?_⟩
      obtain ⟨j, rfl⟩ := Int.eq_ofNat_of_zero_le h20
      have hj : j < (wrongE (m0 + 1)).length := by show j < 13; omega
      obtain ⟨v, hv, dv⟩ := DpAll.get DA (i := j) (d := encE (m0 + 1 + 2) ((wrongE (m0 + 1))[j])) (by rw [List.getElem?_map, List.getElem?_eq_getElem hj]; rfl)
      refine ⟨l, _, _, v, rfl, rfl, SqL.of (k2 _ _ upd_same hlb), atI_nat hv, ?_⟩
      exact fin v H2 ((wrongE (m0 + 1))[j]) (wrong_ok (m0 + 1) _ (List.getElem_mem hj)) (Dp.keep (TK.box Be k2) dv (imm_encE _ _)) B2 ((k1.trans (Kp.of c_all)).trans k2)

    have he1 := Dp.keep (TK.box B k1) he (imm_encE (m0 + 1) e)
    have back : ∀ H2, BoxAt H2 b p → Kp b H1 H2 → Q ve H2 := fun H2 B2 k2 => fin ve H2 (up2 (m0 + 1) e) (okE_up2 oke) (by rw [encE_up2]; exact Dp.keep (TK.box B1 k2) he1 (imm_encE (m0 + 1) e)) B2 (k1.trans k2)
    have stay := back H1 B1 (fun _ _ h _ => h)
    cases e with
    | tag s1 =>
      obtain ⟨a, us, rfl, ha, hus⟩ := dp_kind (show Dp K H1 ve (.tuple [.str s1]) from he1)
      obtain rfl := DpAll.nilI hus
      exact ⟨_, rfl, a, _, rfl, .inr ha, _, _, rfl, rfl, _, rfl, ite2 (fun _ => ⟨_, rfl, stay⟩) (fun c => absurd (decide_eq_true (show ((1 : Nat) : Int) < 2 by decide)) c)⟩
    | nil =>
      obtain ⟨a, us, rfl, ha, hus⟩ := Dp.tupI (show Dp K H1 ve (.tuple []) from he1)
      obtain rfl := DpAll.nilI hus
      exact ⟨_, rfl, a, _, rfl, .inr ha, _, _, rfl, rfl, _, rfl, ite2 (fun _ => ⟨_, rfl, stay⟩) (fun c => absurd (decide_eq_true (show ((0 : Nat) : Int) < 2 by decide)) c)⟩
    | two s1 i =>
      obtain ⟨o1, o2, o3, _⟩ := (show s1 ≠ "not" ∧ s1 ≠ "each" ∧ s1 ≠ "one" ∧ PyData.strOk s1 = true from oke)
      obtain ⟨a, us, rfl, ha, hus⟩ := dp_kind (show Dp K H1 ve (.tuple [.str s1, .int i]) from he1)
      obtain ⟨v1, us2, rfl, hv1, hnil⟩ := DpAll.consI hus
      obtain rfl := DpAll.nilI hnil
      obtain rfl := Dp.intI hv1
      refine ⟨_, rfl, a, _, rfl, .inr ha, _, _, rfl, rfl, _, rfl, ite2 (fun c => absurd (of_decide_eq_true c) (show ¬ ((2 : Nat) : Int) < 2 by decide)) (fun _ => ?_)⟩
      refine ⟨_, rfl, a, _, 0, _, rfl, rfl, ha, atI_nat (j := 0) rfl, rfl, _, rfl, strF o3 ?_⟩
      exact ⟨_, rfl, a, _, 1, _, rfl, rfl, ha, atI_nat (j := 1) rfl, _, _, _, _, false, rfl, .ty _, ty_at hv1 True.intro, kit_ty (show kitB "int" "tuple" = some false by decide +kernel), _, rfl, iteT (iteT ⟨_, rfl, stay⟩)⟩
    | one i e =>
      obtain ⟨a, us, rfl, ha, hus⟩ := dp_kind (show Dp K H1 ve (.tuple [.str "one", .int i, encE m0 e]) from he1)
      obtain ⟨v1, us2, rfl, hv1, hus2⟩ := DpAll.consI hus
      obtain ⟨v2, us3, rfl, hv2, hnil⟩ := DpAll.consI hus2
      obtain rfl := DpAll.nilI hnil
      obtain rfl := Dp.intI hv1
      refine ⟨_, rfl, a, _, rfl, .inr ha, _, _, rfl, rfl, _, rfl, ite2 (fun c => absurd (of_decide_eq_true c) (show ¬ ((3 : Nat) : Int) < 2 by decide)) (fun _ => ?_)⟩
      refine ⟨_, rfl, a, _, 0, _, rfl, rfl, ha, atI_nat (j := 0) rfl, rfl, _, rfl, strT ?_⟩
      refine ⟨_, rfl, _, _, rfl, rfl, _, rfl, ite2 (fun c4 => ?_) (fun c4 => ?_)⟩
      · refine ⟨_, rfl, a, _, 1, _, rfl, rfl, ha, atI_nat (j := 1) rfl, ?_⟩
        refine ⟨_, rfl, (by show 2 ≤ sizeLine; decide), fun l hl => ?_⟩
        have sl := same_new (o := .lst [.int 1, .int (-1)]) hl
        have Bl := B1.keep sl
        obtain ⟨hlb, hlp⟩ := B1.ne hl
        refine ⟨_, rfl, b, p, 2, rfl, Bl, (by decide), fun r2 H2 h20 h21 B2 k2 => ?_⟩
        have hx : atI [V.int 1, V.int (-1)] r2 = some (.int (if r2 = 0 then 1 else -1)) := by
          rcases (show r2 = 0 ∨ r2 = 1 by omega) with z | z <;> rw [z] <;> rfl
        have k12 : Kp b H1 H2 := (Kp.of sl).trans k2
        have tk := TK.trans (TK.same sl) (TK.box Bl k2)
        refine ⟨l, _, _, _, rfl, rfl, SqL.of (k2 _ _ upd_same hlb), hx, _, _, rfl, rfl, ?_⟩
        refine ⟨_, rfl, a, _, 2, _, rfl, rfl, tk.seq ha, atI_nat (j := 2) rfl, (by show 3 ≤ sizeLine; decide), fun t ht => ?_⟩
        have st := same_new (o := .tup [.str "one", .int (i + if r2 = 0 then 1 else -1), v2]) ht
        refine fin _ _ (Ed.one (i + if r2 = 0 then 1 else -1) (up2 m0 e) : Ed (En (m0 + 2))) (okE_up2 (show okE m0 e from oke)) ?_ (B2.keep st) ((k1.trans k12).trans (Kp.of st))
        refine mk_tup3 upd_same ?_
        rw [encE_up2]
        exact Dp.same st (Dp.keep tk hv2 (imm_encE m0 e))
      · refine ⟨_, rfl, a, _, 1, _, rfl, rfl, ha, atI_nat (j := 1) rfl, ?_⟩
        refine ⟨_, rfl, _, rfl, a, _, 2, _, rfl, rfl, ha, atI_nat (j := 2) rfl, b, p, v2, e, rfl, B1, hv2, oke, fun v H2 e' ok' dv B2 k2 => ⟨(by show 3 ≤ sizeLine; decide), fun t ht => ?_⟩⟩
        have st := same_new (o := .tup [.str "one", .int i, v]) ht
        exact fin _ _ (Ed.one i e' : Ed (En (m0 + 2))) ok' (mk_tup3 upd_same (Dp.same st dv)) (B2.keep st) ((k1.trans k2).trans (Kp.of st))
    | neg e =>
      obtain ⟨a, us, rfl, ha, hus⟩ := dp_kind (show Dp K H1 ve (.tuple [.str "not", encE m0 e]) from he1)
      obtain ⟨v1, us2, rfl, hv1, hnil⟩ := DpAll.consI hus
      obtain rfl := DpAll.nilI hnil
      obtain ⟨a1, xs1, rfl, ha1⟩ := len2 hv1
      refine ⟨_, rfl, a, _, rfl, .inr ha, _, _, rfl, rfl, _, rfl, ite2 (fun c => absurd (of_decide_eq_true c) (show ¬ ((2 : Nat) : Int) < 2 by decide)) (fun _ => ?_)⟩
      refine ⟨_, rfl, a, _, 0, _, rfl, rfl, ha, atI_nat (j := 0) rfl, rfl, _, rfl, strF (by decide) ?_⟩
      refine ⟨_, rfl, a, _, 1, _, rfl, rfl, ha, atI_nat (j := 1) rfl, _, _, _, _, true, rfl, .ty _, ty_t ha1, kit_ty (show kitB "tuple" "tuple" = some true by decide +kernel), _, rfl, iteF ?_⟩
      refine ⟨_, rfl, a, _, 1, _, rfl, rfl, ha, atI_nat (j := 1) rfl, a1, _, rfl, .inr ha1, rfl, _, rfl, ite2 (fun _ => ⟨_, rfl, stay⟩) (fun _ => ?_)⟩
      refine ⟨_, rfl, a, _, 0, _, rfl, rfl, ha, atI_nat (j := 0) rfl, rfl, _, rfl, strF (by decide) (iteF ?_)⟩
      refine ⟨_, rfl, a, _, 0, _, rfl, rfl, ha, atI_nat (j := 0) rfl, rfl, _, rfl, strT ?_⟩
      refine ⟨_, rfl, _, rfl, a, _, 1, _, rfl, rfl, ha, atI_nat (j := 1) rfl, b, p, .ref a1, e, rfl, B1, hv1, oke, fun v H2 e' ok' dv B2 k2 => ⟨(by show 2 ≤ sizeLine; decide), fun t ht => ?_⟩⟩
      have st := same_new (o := .tup [.str "not", v]) ht
      exact fin _ _ (Ed.neg e' : Ed (En (m0 + 2))) ok' (mk_tup2 upd_same (Dp.same st dv)) (B2.keep st) ((k1.trans k2).trans (Kp.of st))
    | stands L =>
      have hL : L.length ≤ 100 := oke
      have he2 : Dp K H1 ve (.tuple [.str "stands", .tuple (L.map .int)]) := he1
      obtain ⟨a, us, rfl, ha, hus⟩ := dp_kind he2
      obtain ⟨v1, us2, rfl, hv1, hnil⟩ := DpAll.consI hus
      obtain rfl := DpAll.nilI hnil
      obtain ⟨a1, xs1, rfl, ha1, hxs1⟩ := Dp.tupI hv1
      obtain rfl := DpAll.intsI hxs1
      refine ⟨_, rfl, a, _, rfl, .inr ha, _, _, rfl, rfl, _, rfl, ite2 (fun c => absurd (of_decide_eq_true c) (show ¬ ((2 : Nat) : Int) < 2 by decide)) (fun _ => ?_)⟩
      refine ⟨_, rfl, a, _, 0, _, rfl, rfl, ha, atI_nat (j := 0) rfl, rfl, _, rfl, strF (by decide) ?_⟩
      refine ⟨_, rfl, a, _, 1, _, rfl, rfl, ha, atI_nat (j := 1) rfl, _, _, _, _, true, rfl, .ty _, ty_t ha1, kit_ty (show kitB "tuple" "tuple" = some true by decide +kernel), _, rfl, iteF ?_⟩
      refine ⟨_, rfl, a, _, 1, _, rfl, rfl, ha, atI_nat (j := 1) rfl, a1, _, rfl, .inr ha1, rfl, _, rfl, ite2 (fun _ => ⟨_, rfl, stay⟩) (fun c0 => ?_)⟩
      have hL0 : 0 < L.length := by
        rcases Nat.eq_zero_or_pos L.length with z | z
        · exact absurd (decide_eq_true (show V.int (((L.map V.int).length : Nat) : Int) = V.int 0 by rw [List.length_map, z]; rfl)) c0
        · exact z
      refine ⟨_, rfl, a, _, 0, _, rfl, rfl, ha, atI_nat (j := 0) rfl, rfl, _, rfl, strT ?_⟩
      refine ⟨_, rfl, _, _, rfl, rfl, _, rfl, ite2 (fun _ => ?_) (fun _ => ?_)⟩
      · refine ⟨_, rfl, a, _, 1, _, rfl, rfl, ha, atI_nat (j := 1) rfl, a1, _, rfl, .inr ha1, fun l hl => ?_⟩
        have sl := same_new (o := .lst (L.map V.int)) hl
        have Bl := B1.keep sl
        obtain ⟨hlb, hlp⟩ := B1.ne hl
        refine ⟨_, rfl, _, rfl, l, _, rfl, .inl (SqL.of upd_same), b, p, _, rfl, Bl, (by rw [List.length_map]; omega), fun r2 H2 h20 h21 B2 k2 => ?_⟩
        rw [List.length_map] at h21
        obtain ⟨j, rfl⟩ := Int.eq_ofNat_of_zero_le h20
        have hj : j < L.length := by omega
        have e2 : H2 l = some (.lst (L.map V.int)) := k2 _ _ upd_same hlb
        have hx : (L.map V.int)[j]? = some (.int L[j]) := by rw [List.getElem?_map, List.getElem?_eq_getElem hj]; rfl
        refine ⟨_, rfl, _, rfl, l, _, _, _, rfl, rfl, SqL.of e2, atI_nat hx, ?_⟩
        refine ⟨_, rfl, (by show 4 ≤ sizeLine; decide), fun l4 hl4 => ?_⟩
        have s4 := same_new (o := .lst [.int 1, .int (-1), .int 2, .int 9]) hl4
        have B4 := B2.keep s4
        obtain ⟨h4b, h4p⟩ := B2.ne hl4
        refine ⟨_, rfl, b, p, 4, rfl, B4, (by decide), fun r3 H5 h30 h31 B5 k5 => ?_⟩
        have hx4 : ∃ d, atI [V.int 1, V.int (-1), V.int 2, V.int 9] r3 = some (.int d) := by
          rcases (show r3 = 0 ∨ r3 = 1 ∨ r3 = 2 ∨ r3 = 3 by omega) with z | z | z | z <;> rw [z] <;> exact ⟨_, rfl⟩
        obtain ⟨d, hd⟩ := hx4
        have e5 : H5 l = some (.lst (L.map V.int)) := k5 _ _ (s4 _ _ e2) hlb
        refine ⟨l4, _, _, _, rfl, rfl, SqL.of (k5 _ _ upd_same h4b), hd, _, _, rfl, rfl, ?_⟩
        refine ⟨_, rfl, _, rfl, l, _, _, j, rfl, rfl, e5, (by rw [List.length_map]; exact ixN_nat hj), ?_⟩
        have es : (L.map V.int).set j (.int (L[j] + d)) = (L.set j (L[j] + d)).map V.int := by rw [List.map_set]
        rw [es]
        refine ⟨_, rfl, l, _, rfl, .inl ⟨SqL.of upd_same, fun t ht => ?_⟩⟩
        have st := same_new (o := .tup ((L.set j (L[j] + d)).map V.int)) ht
        refine ⟨(by show 2 ≤ sizeLine; decide), fun t2 ht2 => ?_⟩
        have st2 := same_new (o := .tup [.str "stands", .ref t]) ht2
        have kAll : Kp b H1 H5 := (((Kp.of sl).trans k2).trans (Kp.of s4)).trans k5
        have hl1 : H1 l = none := hl
        refine fin _ _ (Ed.stands (L.set j (L[j] + d)) : Ed (En (m0 + 2))) (by show (L.set j (L[j] + d)).length ≤ 100; rw [List.length_set]; exact hL) ?_ (((B5.updO hlb hlp).keep st).keep st2) ((k1.trans (kp_updN kAll hl1)).trans ((Kp.of st).trans (Kp.of st2)))
        exact mk_tup2 upd_same (.tup ((TK.same st2).seq (SqT.of upd_same)) (DpAll.ints _))
      · refine ⟨_, rfl, a, _, 0, _, rfl, rfl, ha, atI_nat (j := 0) rfl, rfl, _, rfl, strF (by decide) ?_⟩
        refine ⟨_, rfl, a, _, 0, _, rfl, rfl, ha, atI_nat (j := 0) rfl, rfl, _, rfl, strF (by decide) ?_⟩
        exact ⟨_, rfl, stay⟩
    | each es =>
      have oks : ∀ e ∈ es, okE m0 e := oke
      obtain ⟨a, us, rfl, ha, hus⟩ := dp_kind (show Dp K H1 ve (.tuple [.str "each", .tuple (es.map (encE m0))]) from he1)
      obtain ⟨v1, us2, rfl, hv1, hnil⟩ := DpAll.consI hus
      obtain rfl := DpAll.nilI hnil
      obtain ⟨a1, xs1, rfl, ha1, hxs1⟩ := Dp.tupI hv1
      have hxl : xs1.length = es.length := by rw [DpAll.len hxs1, List.length_map]
      have im : ∀ d ∈ es.map (encE m0), Imm d := imm_all (imm_encE m0)
      have eup : (es.map (up2 m0)).map (encE (m0 + 2)) = es.map (encE m0) := by rw [List.map_map, show (encE (m0 + 2)) ∘ up2 m0 = encE m0 from funext (encE_up2 m0)]
      refine ⟨_, rfl, a, _, rfl, .inr ha, _, _, rfl, rfl, _, rfl, ite2 (fun c => absurd (of_decide_eq_true c) (show ¬ ((2 : Nat) : Int) < 2 by decide)) (fun _ => ?_)⟩
      refine ⟨_, rfl, a, _, 0, _, rfl, rfl, ha, atI_nat (j := 0) rfl, rfl, _, rfl, strF (by decide) ?_⟩
      refine ⟨_, rfl, a, _, 1, _, rfl, rfl, ha, atI_nat (j := 1) rfl, _, _, _, _, true, rfl, .ty _, ty_t ha1, kit_ty (show kitB "tuple" "tuple" = some true by decide +kernel), _, rfl, iteF ?_⟩
      refine ⟨_, rfl, a, _, 1, _, rfl, rfl, ha, atI_nat (j := 1) rfl, a1, _, rfl, .inr ha1, rfl, _, rfl, ite2 (fun _ => ⟨_, rfl, stay⟩) (fun c0 => ?_)⟩
      have hL0 : 0 < xs1.length := by
        rcases Nat.eq_zero_or_pos xs1.length with z | z
        · exact absurd (decide_eq_true (show V.int ((xs1.length : Nat) : Int) = V.int 0 by rw [z]; rfl)) c0
        · exact z
      refine ⟨_, rfl, a, _, 0, _, rfl, rfl, ha, atI_nat (j := 0) rfl, rfl, _, rfl, strF (by decide) (iteF ?_)⟩
      refine ⟨_, rfl, a, _, 0, _, rfl, rfl, ha, atI_nat (j := 0) rfl, rfl, _, rfl, strF (by decide) ?_⟩
      refine ⟨_, rfl, a, _, 0, _, rfl, rfl, ha, atI_nat (j := 0) rfl, rfl, _, rfl, strT ?_⟩
      refine ⟨_, rfl, a, _, 1, _, rfl, rfl, ha, atI_nat (j := 1) rfl, a1, _, rfl, .inr ha1, fun l hl => ?_⟩
      have sl := same_new (o := .lst xs1) hl
      have Bl := B1.keep sl
      obtain ⟨hlb, hlp⟩ := B1.ne hl
      have hl1 : H1 l = none := hl
      have dxs := DpAll.same sl hxs1
      refine ⟨_, rfl, _, _, rfl, rfl, _, rfl, ite2 (fun _ => ?_) (fun _ => ?_)⟩
      · refine ⟨_, rfl, _, rfl, ?_⟩
        dsimp only [tNoPart]
        refine ⟨l, xs1, rfl, SqL.of upd_same, fun l2 hl2 => ?_⟩
        have ew : cutV xs1 (some 1) none = xs1.drop 1 := cutV_from xs1 1
        rw [ew]
        have s2 := same_new (o := .lst (xs1.drop 1)) hl2
        refine ⟨l2, _, rfl, .inl ⟨SqL.of upd_same, fun t ht => ?_⟩⟩
        have st := same_new (o := .tup (xs1.drop 1)) ht
        refine ⟨(by show 2 ≤ sizeLine; decide), fun t2 ht2 => ?_⟩
        have st2 := same_new (o := .tup [.str "each", .ref t]) ht2
        have sA := ((sl.trans s2).trans st).trans st2
        refine fin _ _ (Ed.each ((es.map (up2 m0)).drop 1) : Ed (En (m0 + 2))) ?_ ?_ (B1.keep sA) (k1.trans (Kp.of sA))
        · show ∀ x ∈ (es.map (up2 m0)).drop 1, okE (m0 + 2) x
          intro x hx
          obtain ⟨y, hy, rfl⟩ := List.mem_map.mp (List.mem_of_mem_drop hx)
          exact okE_up2 (oks y hy)
        · refine mk_tup2 upd_same (.tup ((TK.same st2).seq (SqT.of upd_same)) ?_)
          rw [List.map_drop, eup]
          exact DpAll.dropN (DpAll.same sA hxs1) 1
      · refine ⟨_, rfl, _, rfl, l, _, rfl, .inl (SqL.of upd_same), b, p, _, rfl, Bl, (by omega), fun r2 H2 h20 h21 B2 k2 => ?_⟩
        obtain ⟨j, rfl⟩ := Int.eq_ofNat_of_zero_le h20
        have hj : j < xs1.length := by omega
        have hje : j < es.length := by omega
        have e2 : H2 l = some (.lst xs1) := k2 _ _ upd_same hlb
        have dx2 := DpAll.keep (TK.box Bl k2) dxs im
        obtain ⟨v, hv, dv⟩ := DpAll.get dx2 (i := j) (d := encE m0 es[j]) (by rw [List.getElem?_map, List.getElem?_eq_getElem hje]; rfl)
        refine ⟨_, rfl, _, rfl, _, rfl, l, _, _, _, rfl, rfl, SqL.of e2, atI_nat hv, b, p, v, es[j], rfl, B2, dv, oks _ (List.getElem_mem hje), fun v5 H5 e' ok' dv5 B5 k5 => ?_⟩
        have e5 : H5 l = some (.lst xs1) := k5 _ _ e2 hlb
        have dx5 := DpAll.keep (TK.box B2 k5) dx2 im
        refine ⟨_, rfl, _, rfl, l, _, _, j, rfl, rfl, e5, ixN_nat hj, ?_⟩
        refine ⟨_, rfl, l, _, rfl, .inl ⟨SqL.of upd_same, fun t ht => ?_⟩⟩
        have st := same_new (o := .tup (xs1.set j v5)) ht
        refine ⟨(by show 2 ≤ sizeLine; decide), fun t2 ht2 => ?_⟩
        have st2 := same_new (o := .tup [.str "each", .ref t]) ht2
        have kAll : Kp b H1 H5 := ((Kp.of sl).trans k2).trans k5
        have tkL : TK H5 (upd H5 l (.lst (xs1.set j v5))) := TK.updL (TK.refl H5) e5
        have dset : DpAll K H5 (xs1.set j v5) (((es.map (up2 m0)).set j e').map (encE (m0 + 2))) := by
          rw [List.map_set, eup]
          exact DpAll.set dv5 dx5
        refine fin _ _ (Ed.each ((es.map (up2 m0)).set j e') : Ed (En (m0 + 2))) ?_ ?_ (((B5.updO hlb hlp).keep st).keep st2) ((k1.trans (kp_updN kAll hl1)).trans ((Kp.of st).trans (Kp.of st2)))
        · show ∀ x ∈ (es.map (up2 m0)).set j e', okE (m0 + 2) x
          intro x hx
          rcases List.mem_or_eq_of_mem_set hx with h | h
          · obtain ⟨y, hy, rfl⟩ := List.mem_map.mp h
            exact okE_up2 (oks y hy)
          · rw [h]; exact ok'
        · exact mk_tup2 upd_same (.tup ((TK.same st2).seq (SqT.of upd_same)) (DpAll.same (st.trans st2) (DpAll.keep tkL dset (imm_all (imm_encE (m0 + 2))))))
end


/-! ### k12: the law's own check -/
theorem eqv_ints : ∀ a b : List Int, PyData.eqvAll (a.map .int) (b.map .int) = decide (a = b)
  | [], [] => by simp [PyData.eqvAll]
  | [], _ :: _ => by simp [PyData.eqvAll]
  | _ :: _, [] => by simp [PyData.eqvAll]
  | x :: xs, y :: ys => by
    have ih := eqv_ints xs ys
    simp only [List.map_cons, PyData.eqvAll, PyData.eqv, ih]
    by_cases c : x = y
    · subst c; simp
    · simp [c]
theorem lay_ints : ∀ a : List Int, PyData.canLayAll0 (a.map .int) = true
  | [] => by simp [PyData.canLayAll0]
  | x :: xs => by simp [PyData.canLayAll0, PyData.canLay0, lay_ints xs]
theorem dep_ints : ∀ a : List Int, PyData.depthAll (a.map .int) = 0
  | [] => by simp [PyData.depthAll]
  | x :: xs => by simp [PyData.depthAll, PyData.depth, dep_ints xs]
theorem shaped_tints (a : List Int) : SeqAt.shaped (.tuple (a.map .int)) = true := by
  unfold SeqAt.shaped
  rw [PyData.canLay0, lay_ints, PyData.depth, dep_ints]; decide
theorem shaped_ways (us : List (List Nat)) : SeqAt.shaped (.list (us.map encW)) = true := by
  have h1 : PyData.canLayAll0 (us.map encW) = true := by
    induction us with
    | nil => simp [PyData.canLayAll0]
    | cons u us ih => rw [List.map_cons, PyData.canLayAll0, ih, encW_ints, PyData.canLay0, lay_ints]; rfl
  have h2 : PyData.depthAll (us.map encW) ≤ 1 := by
    induction us with
    | nil => simp [PyData.depthAll]
    | cons u us ih => rw [List.map_cons, PyData.depthAll, encW_ints, PyData.depth, dep_ints]; exact Nat.max_le.mpr ⟨by omega, ih (by
        rw [List.map_cons, PyData.canLayAll0, Bool.and_eq_true] at h1; exact h1.2)⟩
  unfold SeqAt.shaped
  rw [PyData.canLay0, h1, PyData.depth]
  simp only [Bool.true_and, decide_eq_true_eq]; omega
theorem in_ways {ws : List Str} {ps : List Pat} {gap : Nat} {L : List Int} (h1 : 1 ≤ ps.length) : (((waysL ws ps gap ps.length).map encW).any fun z => PyData.eqv z (.tuple (L.map .int))) = standB ws ps gap L := by
  rw [Bool.eq_iff_iff, List.any_eq_true]
  constructor
  · rintro ⟨d, hd, e⟩
    obtain ⟨u, hu, rfl⟩ := List.mem_map.mp hd
    rw [encW_ints, PyData.eqv, eqv_ints, decide_eq_true_iff] at e
    rw [← e]
    exact way_stands h1 hu
  · intro h
    have hw := stands_way h
    refine ⟨_, List.mem_map.mpr ⟨_, hw, rfl⟩, ?_⟩
    rw [encW_ints, PyData.eqv, eqv_ints, decide_eq_true_iff, List.map_map]
    have r : riseP L := by
      by_cases c : riseP L
      · exact c
      · unfold standB at h
        rw [riseB_no c] at h
        simp at h
    have e : ∀ x ∈ L, ((fun (n : Nat) => (n : Int)) ∘ Int.toNat) x = x := fun x hx => by
      obtain ⟨i, hi⟩ := List.getElem?_of_mem hx
      exact Int.toNat_of_nonneg (rise_pos r i x hi)
    exact (List.map_congr_left e).trans (List.map_id _)
theorem units65 {k : Nat} {A : Around} (hr : Room k A) : A.units + 65 < cLine := by
  have := hr.un
  omega
section
variable {P : Program} {w : World} {K : PySem.W.Frag} {mg : Str → Option Value} {base : Heap} {A : Nat → Addr} {D : Nat → FuncData}
def yLIsS (K : PySem.W.Frag) : Sp := fun vs H Q _ => ∃ (vd vr ve : V) (ws : List Str) (ps : List Pat) (gap : Nat) (b : Bool), vs = [vd, vr, ve] ∧ Dp K H vd (encD ws) ∧ Dp K H vr (encRow ps gap) ∧ okR ps ∧ (∀ t ∈ ps, t.2.length ≤ 20) ∧ ws.length ≤ 12 ∧ (∀ x ∈ ws, x.length ≤ 20) ∧
  ((∃ L : List Int, Dp K H ve (.tuple (L.map .int)) ∧ b = standB ws ps gap L) ∨ (∃ i, Dp K H ve (.int i) ∧ b = false)) ∧ ∀ H', Same H H' → Q (.bl b) H'
theorem ok_lisst (T : Txt K mg A D) : FnOk P w K mg base CX0 3 (A 31) (D 31) ["document", "row", "places"] (yLIsS K) := by
  refine T.F__law_is_standing.ok (k := 2) sc__law_is_standing (fun vs H Q E h => ?_) (fun cdv A' outer s H vs Q E hr h => ?_)
  · obtain ⟨_, _, _, _, _, _, _, rfl, _⟩ := h; rfl
  obtain ⟨vd, vr, ve, ws, ps, gap, b, rfl, hd, hrw, okr, ok3, hws, hw20, hk, fin⟩ := h
  have hnd := sc__law_is_standing.nd
  have G__law_standings := ok_lstandings (P := P) (w := w) (base := base) T
  refine ⟨_, (pss_cons (ps_if (pt_not (pt_val (pe_callB call_isi rfl T.z_isinstance (by decide +kernel) (pa_cons (pv 2) (pa_cons (pe_bltn (v := .ty "tuple") rfl T.z_tuple (by decide +kernel) rfl) pa_nil))))) (pss_one (ps_ret pe_bl)) pss_nil) (pss_one (ps_ret (pe_cmpR (op_inD (units65 hr)) (pv 2) (pe_call G__law_standings (hr.mono (by first | decide | omega)) rfl T.m__law_standings T.F__law_standings.kp T.b__law_standings .nil pass0 (pa_cons (pv 0) (pa_cons (pv 1) pa_nil))) (by rfl))))), ?_⟩
  rcases hk with ⟨L, hL, rfl⟩ | ⟨i, hi, rfl⟩
  · refine ⟨_, rfl, _, _, _, _, true, rfl, .ty _, ty_at hL trivial, kit_ty (show kitB "tuple" "tuple" = some true by decide +kernel), _, rfl, iteF ?_⟩
    refine ⟨_, rfl, _, rfl, _, rfl, vd, vr, ws, ps, gap, rfl, hd, hrw, okr.1, okr.2.1, hws, hw20, ok3, fun r H1 vs s1 hr0 h1 hv => ?_⟩
    refine ⟨_, _, Dp.same s1 hL, .lst (SqL.of h1) hv, shaped_tints L, shaped_ways _, ?_⟩
    rw [in_ways okr.1]
    exact fin H1 s1
  · refine ⟨_, rfl, _, _, _, _, false, rfl, .ty _, ty_at hi trivial, kit_ty (show kitB "int" "tuple" = some false by decide +kernel), _, rfl, iteT ?_⟩
    exact fin H (Same.refl H)

theorem lay_encE : ∀ m (e : En m), okE m e → (encE m e).canLay0 = true ∧ (encE m e).depth ≤ 2 * m
  | 0, e, _ => nomatch (e : Empty)
  | m + 1, e, ok => by
    have e0 : ∀ x : Ed (En m), x = e → (encE (m + 1) x).canLay0 = true ∧ (encE (m + 1) x).depth ≤ 2 * (m + 1) := fun x hx => by
      have ok : okE (m + 1) x := by rw [hx]; exact ok
      cases x with
      | tag s =>
        have o : PyData.strOk s = true := ok
        show (PyData.tuple [.str s]).canLay0 = true ∧ (PyData.tuple [.str s]).depth ≤ _
        simp [PyData.canLay0, PyData.canLayAll0, PyData.depth, PyData.depthAll, o]
        omega
      | nil =>
        show (PyData.tuple []).canLay0 = true ∧ (PyData.tuple []).depth ≤ _
        simp [PyData.canLay0, PyData.canLayAll0, PyData.depth, PyData.depthAll]
        omega
      | two s i =>
        have o : s ≠ "not" ∧ s ≠ "each" ∧ s ≠ "one" ∧ PyData.strOk s = true := ok
        show (PyData.tuple [.str s, .int i]).canLay0 = true ∧ (PyData.tuple [.str s, .int i]).depth ≤ _
        simp [PyData.canLay0, PyData.canLayAll0, PyData.depth, PyData.depthAll, o.2.2.2]
        omega
      | stands L =>
        show (PyData.tuple [.str "stands", .tuple (L.map .int)]).canLay0 = true ∧ (PyData.tuple [.str "stands", .tuple (L.map .int)]).depth ≤ _
        simp only [PyData.canLay0, PyData.canLayAll0, PyData.depth, PyData.depthAll, lay_ints, dep_ints]
        exact ⟨by decide +kernel, by omega⟩
      | one i x =>
        have ih := lay_encE m x ok
        show (PyData.tuple [.str "one", .int i, encE m x]).canLay0 = true ∧ (PyData.tuple [.str "one", .int i, encE m x]).depth ≤ _
        simp only [PyData.canLay0, PyData.canLayAll0, PyData.depth, PyData.depthAll, ih.1]
        exact ⟨by decide +kernel, by omega⟩
      | neg x =>
        have ih := lay_encE m x ok
        show (PyData.tuple [.str "not", encE m x]).canLay0 = true ∧ (PyData.tuple [.str "not", encE m x]).depth ≤ _
        simp only [PyData.canLay0, PyData.canLayAll0, PyData.depth, PyData.depthAll, ih.1]
        exact ⟨by decide +kernel, by omega⟩
      | each es =>
        have h1 : ∀ es : List (En m), (∀ x ∈ es, okE m x) → PyData.canLayAll0 (es.map (encE m)) = true ∧ PyData.depthAll (es.map (encE m)) ≤ 2 * m := fun es => by
          induction es with
          | nil => intro _; simp [PyData.canLayAll0, PyData.depthAll]
          | cons y ys ih =>
            intro h
            have a := lay_encE m y (h y List.mem_cons_self)
            have b := ih fun x hx => h x (List.mem_cons_of_mem _ hx)
            rw [List.map_cons, PyData.canLayAll0, PyData.depthAll, a.1, b.1]
            exact ⟨rfl, Nat.max_le.mpr ⟨a.2, b.2⟩⟩
        have a := h1 es ok
        show (PyData.tuple [.str "each", .tuple (es.map (encE m))]).canLay0 = true ∧ (PyData.tuple [.str "each", .tuple (es.map (encE m))]).depth ≤ _
        simp only [PyData.canLay0, PyData.canLayAll0, PyData.depth, PyData.depthAll, a.1]
        exact ⟨by decide +kernel, by omega⟩
    exact e0 e rfl
theorem shaped_encE {m : Nat} {e : En m} (h : okE m e) (hm : m ≤ 20) : SeqAt.shaped (encE m e) = true := by
  have := lay_encE m e h
  unfold SeqAt.shaped
  rw [this.1, Bool.true_and]
  exact decide_eq_true (by omega)
/-- len(evidence) == n and evidence[0] == z and .. -/
theorem told_and {H : Hp} {σ : L2.St} {Q : Bool → Hp → Prop} {ve : V} {ds : List PyData} {n : Nat} {z : Str} {U : TT} (hσ : σ[2]? = some (some ve)) (hv : Dp K H ve (.tuple ds)) (kds : ds = [] ∨ ∃ s r, ds = .str s :: r) (hn : 1 ≤ n)
    (yes : toldB ds z n = true → U σ H Q) (no : toldB ds z n = false → Q false H) :
    tAnd (tTest (tOp rEq (tCB (fun xs H Q => ∃ p ys, xs = [.ref p] ∧ (SqL K H p ys ∨ SqT K H p ys) ∧ Q (.int ys.length) H) (tCons (tVar 2) tNil)) (tC (.int ((n : Nat) : Int))))) (tAnd (tTest (tOp rEq (tOp (rIxT K) (tVar 2) (tC (.int 0))) (tC (.str z)))) U) σ H Q := by
  obtain ⟨a, xs, rfl, ha, hxs⟩ := Dp.tupI hv
  refine ⟨_, hσ, a, xs, rfl, .inr ha, rfl, _, rfl, ?_⟩
  have hl := DpAll.len hxs
  by_cases c : ds.length = n
  · rw [show decide (V.int ((xs.length : Nat) : Int) = V.int ((n : Nat) : Int)) = true from decide_eq_true (by rw [hl, c])]
    refine iteT ?_
    rcases kds with rfl | ⟨s, r, rfl⟩
    · rw [← c] at hn; exact absurd hn (by decide)
    · obtain ⟨v, us, rfl, h1, h2⟩ := DpAll.consI hxs
      rw [Dp.strI h1] at ha
      refine ⟨_, hσ, a, _, 0, _, rfl, rfl, ha, atI_nat (j := 0) rfl, rfl, _, rfl, ?_⟩
      by_cases c2 : s = z
      · subst c2
        exact strT (yes (by unfold toldB; rw [decide_eq_true c]; simp))
      · exact strF c2 (no (by unfold toldB; rw [decide_eq_true c]; simp [c2]))
  · rw [show decide (V.int ((xs.length : Nat) : Int) = V.int ((n : Nat) : Int)) = false from decide_eq_false (fun z => c (by have := V.int.inj z; omega))]
    exact iteF (no (by unfold toldB; rw [decide_eq_false c]; rfl))
/-- len(evidence) != n or evidence[0] != z -/
theorem told_or {H : Hp} {σ : L2.St} {Q : Bool → Hp → Prop} {ve : V} {ds : List PyData} {n : Nat} {z : Str} (hσ : σ[2]? = some (some ve)) (hv : Dp K H ve (.tuple ds)) (kds : ds = [] ∨ ∃ s r, ds = .str s :: r) (hn : 1 ≤ n)
    (q : Q (!toldB ds z n) H) :
    tOr (tTest (tOp rNe (tCB (fun xs H Q => ∃ p ys, xs = [.ref p] ∧ (SqL K H p ys ∨ SqT K H p ys) ∧ Q (.int ys.length) H) (tCons (tVar 2) tNil)) (tC (.int ((n : Nat) : Int))))) (tTest (tOp rNe (tOp (rIxT K) (tVar 2) (tC (.int 0))) (tC (.str z)))) σ H Q := by
  obtain ⟨a, xs, rfl, ha, hxs⟩ := Dp.tupI hv
  refine ⟨_, hσ, a, xs, rfl, .inr ha, rfl, _, rfl, ?_⟩
  have hl := DpAll.len hxs
  by_cases c : ds.length = n
  · rw [show decide (V.int ((xs.length : Nat) : Int) = V.int ((n : Nat) : Int)) = true from decide_eq_true (by rw [hl, c])]
    refine iteF ?_
    rcases kds with rfl | ⟨s, r, rfl⟩
    · rw [← c] at hn; exact absurd hn (by decide)
    · obtain ⟨v, us, rfl, h1, h2⟩ := DpAll.consI hxs
      rw [Dp.strI h1] at ha
      refine ⟨_, hσ, a, _, 0, _, rfl, rfl, ha, atI_nat (j := 0) rfl, rfl, _, rfl, ?_⟩
      have e : toldB (.str s :: r) z n = decide (V.str s = V.str z) := by
        unfold toldB
        rw [decide_eq_true c, Bool.true_and]
        exact decide_eq_decide.mpr ⟨fun h => by rw [h], fun h => V.str.inj h⟩
      rw [e] at q
      exact q
  · rw [show decide (V.int ((xs.length : Nat) : Int) = V.int ((n : Nat) : Int)) = false from decide_eq_false (fun z => c (by have := V.int.inj z; omega))]
    refine iteT ?_
    have e : toldB ds z n = false := by unfold toldB; rw [decide_eq_false c]; rfl
    rw [e] at q
    exact q
def yShown (K : PySem.W.Frag) (n : Nat) : Sp := fun vs H Q _ => ∃ (vd vq ve : V) (ws : List Str) (q : Qn n) (m : Nat) (e : En m), vs = [vd, vq, ve] ∧ Dp K H vd (encD ws) ∧ Dp K H vq (encQ n q) ∧ okQ n q ∧ Dp K H ve (encE m e) ∧ okE m e ∧ m ≤ 20 ∧ ws.length ≤ 12 ∧ (∀ x ∈ ws, x.length ≤ 20) ∧ ∀ H', Same H H' → Q (ynV (resE ws n q m e)) H'
theorem eqv_tag (ds : List PyData) (z : Str) (kds : ds = [] ∨ ∃ s r, ds = .str s :: r) : PyData.eqv (.tuple ds) (.tuple [.str z]) = toldB ds z 1 := by
  rcases kds with rfl | ⟨s, r, rfl⟩
  · simp [PyData.eqv, PyData.eqvAll, toldB]
  · cases r with
    | nil =>
      have e : ∀ a b : Str, (a == b) = decide (a = b) := fun a b => by
        by_cases c : a = b
        · subst c; rw [decide_eq_true rfl]; exact beq_self_eq_true a
        · rw [decide_eq_false c]; exact beq_false_of_ne c
      simp [PyData.eqv, PyData.eqvAll, toldB, e]
    | cons _ _ => simp [PyData.eqv, PyData.eqvAll, toldB]
theorem all_tol {α : Type} (e : Ed α) : allRes e = if tolE "all" 1 e = true then some true else none := by
  cases e with
  | tag s =>
    by_cases c : s = "all"
    · subst c; rfl
    · have h : tolE "all" 1 (Ed.tag s : Ed α) = false := by show (decide (1 = 1) && decide (s = "all")) = false; rw [decide_eq_false c]; rfl
      rw [h]
      exact if_neg c
  | nil => rfl
  | two s i => rfl
  | stands L => rfl
  | one i e => rfl
  | neg e => rfl
  | each es => rfl
theorem ok_lshown (T : Txt K mg A D) : ∀ n, FnOk P w K mg base CX0 (n + 3) (A 32) (D 32) ["document", "question", "evidence"] (yShown K n)
  | 0 => by
    have no : ∀ vs H Q E, ¬ yShown K 0 vs H Q E := fun vs H Q E h => by
      obtain ⟨vd, vq, ve, ws, q, _⟩ := h
      exact nomatch (q : Empty)
    exact ⟨fun vs H Q E h => absurd h (no vs H Q E), fun A outer s H args us vs Q E _ _ _ _ h => absurd h (no vs H Q E)⟩
  | n + 1 => by
    have G__law_shown := ok_lshown T n
    have G__law_standings := ok_lstandings (P := P) (w := w) (base := base) T
    have G__law_is_standing := ok_lisst (P := P) (w := w) (base := base) T
    refine T.F__law_shown.ok (k := n + 3) sc__law_shown (fun vs H Q E h => ?_) (fun cdv A' outer s H vs Q E hr h => ?_)
    · obtain ⟨vd, vq, ve, ws, q, m, e, rfl, _⟩ := h; rfl
    obtain ⟨vd, vq, ve, ws, q, m, e, rfl, hd, hq, ok, he, oke, hm, hws, hw20, fin⟩ := h
    have hnd := sc__law_shown.nd
    refine ⟨_, (pss_cons (ps_set (i := 3) hnd rfl (Or.inl rfl) (pe_ix (r := rIxT K) ix_tup (pv 1) pe_int (fun _ _ => rfl))) (pss_cons (ps_if (pt_not (pt_val (pe_callB call_isi rfl T.z_isinstance (by decide +kernel) (pa_cons (pv 2) (pa_cons (pe_bltn (v := .ty "tuple") rfl T.z_tuple (by decide +kernel) rfl) pa_nil))))) (pss_one (ps_ret pe_non)) pss_nil) (pss_cons (ps_if (pt_cmpR op_eq (pv 3) pe_str (nomark _)) (pss_cons (ps_if (PW.pt (pw_and (pt_cmpR (r := rEqD K) (op_eqD hr.units) (pv 2) (pe_tup (pa_cons pe_str pa_nil)) (nomark _)) (pw_and1 (pt_cmpR op_eq (pe_callB call_len_seq rfl T.z_len PySem.boot_len (pa_cons (pe_call G__law_standings (hr.mono (by first | decide | omega)) rfl T.m__law_standings T.F__law_standings.kp T.b__law_standings .nil pass0 (pa_cons (pv 0) (pa_cons (pv 1) pa_nil))) pa_nil)) pe_int (nomark _))))) (pss_one (ps_ret pe_str)) pss_nil) (pss_cons (ps_if (PW.pt (pw_and (pt_cmpR op_eq (pe_callB call_len_seq rfl T.z_len PySem.boot_len (pa_cons (pv 2) pa_nil)) pe_int (nomark _)) (pw_and (pt_cmpR op_eq (pe_ix (r := rIxT K) ix_tup (pv 2) pe_int (fun _ _ => rfl)) pe_str (nomark _)) (pw_and1 (pt_val (pe_call G__law_is_standing (hr.mono (by first | decide | omega)) rfl T.m__law_is_standing T.F__law_is_standing.kp T.b__law_is_standing .nil pass0 (pa_cons (pv 0) (pa_cons (pv 1) (pa_cons (pe_ix (r := rIxT K) ix_tup (pv 2) pe_int (fun _ _ => rfl)) pa_nil))))))))) (pss_one (ps_ret pe_str)) pss_nil) (pss_one (ps_ret pe_non)))) pss_nil) (pss_cons (ps_if (pt_cmpR op_eq (pv 3) pe_str (nomark _)) (pss_one (ps_ret (pe_ix (r := rIxL K) ix_list (pe_lst (pa_cons pe_str (pa_cons pe_non pa_nil))) (pe_callTy call_int1 rfl T.z_int (by decide +kernel) (pa_cons (pe_cmpR (r := rNeD K) (op_neD hr.units) (pv 2) (pe_tup (pa_cons pe_str pa_nil)) (nomark _)) pa_nil)) (fun _ _ => rfl)))) pss_nil) (pss_cons (ps_if (pt_cmpR op_eq (pv 3) pe_str (nomark _)) (pss_cons (ps_if (PW.pt (pw_or (pt_cmpR op_ne (pe_callB call_len_seq rfl T.z_len PySem.boot_len (pa_cons (pv 2) pa_nil)) pe_int (nomark _)) (pw_or1 (pt_cmpR op_ne (pe_ix (r := rIxT K) ix_tup (pv 2) pe_int (fun _ _ => rfl)) pe_str (nomark _))))) (pss_one (ps_ret pe_non)) pss_nil) (pss_cons (ps_set (i := 4) hnd rfl (Or.inl rfl) (pe_call G__law_shown (hr.mono (by first | decide | omega)) rfl T.m__law_shown T.F__law_shown.kp T.b__law_shown .nil pass0 (pa_cons (pv 0) (pa_cons (pe_ix (r := rIxT K) ix_tup (pv 1) pe_int (fun _ _ => rfl)) (pa_cons (pe_ix (r := rIxT K) ix_tup (pv 2) pe_int (fun _ _ => rfl)) pa_nil))))) (pss_cons (ps_if (pt_cmpR op_isN (pv 4) pe_non (nomark _)) (pss_one (ps_ret pe_non)) pss_nil) (pss_one (ps_ret (pe_ix (r := rIxL K) ix_list (pe_lst (pa_cons pe_str (pa_cons pe_str pa_nil))) (pe_callTy call_int1 rfl T.z_int (by decide +kernel) (pa_cons (pe_cmpR op_eq (pv 4) pe_str (nomark _)) pa_nil)) (fun _ _ => rfl))))))) pss_nil) (pss_cons (ps_set (i := 5) hnd rfl (Or.inl rfl) (pe_ix (r := rIxT K) ix_tup (pv 1) pe_int (fun _ _ => rfl))) (pss_cons (ps_set (i := 6) hnd rfl (Or.inl rfl) (pe_lst (pa_cons pe_str (pa_cons pe_str pa_nil)))) (pss_cons (ps_if (PW.pt (pw_and (pt_cmpR op_eq (pe_callB call_len_seq rfl T.z_len PySem.boot_len (pa_cons (pv 2) pa_nil)) pe_int (nomark _)) (pw_and (pt_cmpR op_eq (pe_ix (r := rIxT K) ix_tup (pv 2) pe_int (fun _ _ => rfl)) pe_str (nomark _)) (pw_and (pt_val (pe_callB call_isi rfl T.z_isinstance (by decide +kernel) (pa_cons (pe_ix (r := rIxT K) ix_tup (pv 2) pe_int (fun _ _ => rfl)) (pa_cons (pe_bltn (v := .ty "tuple") rfl T.z_tuple (by decide +kernel) rfl) pa_nil)))) (pw_and1 (pt_cmpR op_eq (pe_callB call_len_seq rfl T.z_len PySem.boot_len (pa_cons (pe_ix (r := rIxT K) ix_tup (pv 2) pe_int (fun _ _ => rfl)) pa_nil)) (pe_callB call_len_seq rfl T.z_len PySem.boot_len (pa_cons (pv 5) pa_nil)) (nomark _))))))) (pss_cons (ps_for PassesOwn.never rfl (pi_range1 rfl T.z_range (pa_cons (pe_callB call_len_seq rfl T.z_len PySem.boot_len (pa_cons (pv 5) pa_nil)) pa_nil)) (pg_name (i := 7) hnd rfl (Or.inl rfl)) (pss_one (ps_if (pt_cmpR op_ne (pe_call G__law_shown (hr.mono (by first | decide | omega)) rfl T.m__law_shown T.F__law_shown.kp T.b__law_shown .nil pass0 (pa_cons (pv 0) (pa_cons (pe_ix (r := rIxT K) ix_tup (pv 5) (pv 7) (fun _ _ => rfl)) (pa_cons (pe_ix (r := rIxT K) ix_tup (pe_ix (r := rIxT K) ix_tup (pv 2) pe_int (fun _ _ => rfl)) (pv 7) (fun _ _ => rfl)) pa_nil)))) (pe_ix (r := rIxL K) ix_list (pv 6) (pe_callTy call_int1 rfl T.z_int (by decide +kernel) (pa_cons (pe_cmpR op_eq (pv 3) pe_str (nomark _)) pa_nil)) (fun _ _ => rfl)) (nomark _)) (pss_one (ps_ret pe_non)) pss_nil))) (pss_one (ps_ret (pe_ix (r := rIxL K) ix_list (pv 6) (pe_callTy call_int1 rfl T.z_int (by decide +kernel) (pa_cons (pe_cmpR op_eq (pv 3) pe_str (nomark _)) pa_nil)) (fun _ _ => rfl))))) pss_nil) (pss_cons (ps_if (PW.pt (pw_and (pt_cmpR op_eq (pe_callB call_len_seq rfl T.z_len PySem.boot_len (pa_cons (pv 2) pa_nil)) pe_int (nomark _)) (pw_and (pt_cmpR op_eq (pe_ix (r := rIxT K) ix_tup (pv 2) pe_int (fun _ _ => rfl)) pe_str (nomark _)) (pw_and1 (pt_chain op_le op_lt pe_int (pe_ix (r := rIxT K) ix_tup (pv 2) pe_int (fun _ _ => rfl)) (pe_callB call_len_seq rfl T.z_len PySem.boot_len (pa_cons (pv 5) pa_nil))))))) (pss_one (ps_if (pt_cmpR op_eq (pe_call G__law_shown (hr.mono (by first | decide | omega)) rfl T.m__law_shown T.F__law_shown.kp T.b__law_shown .nil pass0 (pa_cons (pv 0) (pa_cons (pe_ix (r := rIxT K) ix_tup (pv 5) (pe_ix (r := rIxT K) ix_tup (pv 2) pe_int (fun _ _ => rfl)) (fun _ _ => rfl)) (pa_cons (pe_ix (r := rIxT K) ix_tup (pv 2) pe_int (fun _ _ => rfl)) pa_nil)))) (pe_ix (r := rIxL K) ix_list (pv 6) (pe_callTy call_int1 rfl T.z_int (by decide +kernel) (pa_cons (pe_cmpR op_eq (pv 3) pe_str (nomark _)) pa_nil)) (fun _ _ => rfl)) (nomark _)) (pss_one (ps_ret (pe_ix (r := rIxL K) ix_list (pv 6) (pe_callTy call_int1 rfl T.z_int (by decide +kernel) (pa_cons (pe_cmpR op_eq (pv 3) pe_str (nomark _)) pa_nil)) (fun _ _ => rfl)))) pss_nil)) pss_nil) (pss_one (ps_ret pe_non))))))))))), ?_⟩
    cases m with
    | zero => exact nomatch (e : Empty)
    | succ m =>
    obtain ⟨ds, eds, kds, hto⟩ := told_use e
    have hds : Dp K H ve (.tuple ds) := by rw [← eds]; exact he
    have sh : SeqAt.shaped (.tuple ds) = true := by rw [← eds]; exact shaped_encE oke hm
    have isT : TyX K H ve (.type "tuple") := ty_at hds trivial
    have tag1 : ∀ z : Str, PyData.strOk z = true → SeqAt.shaped (.tuple [.str z]) = true := fun z o => by
      unfold SeqAt.shaped
      simp [PyData.canLay0, PyData.canLayAll0, PyData.depth, PyData.depthAll, o]
    rcases q with _ | ⟨ps, gap⟩ | q | ⟨o, qs⟩
    · obtain ⟨aq, us, rfl, haq, hus⟩ := dp_kind (show Dp K H vq (.tuple [.str "all"]) from hq)
      refine ⟨_, rfl, aq, _, 0, _, rfl, rfl, haq, atI_nat (j := 0) rfl, ?_⟩
      refine ⟨_, rfl, _, _, _, _, true, rfl, .ty _, isT, kit_ty (show kitB "tuple" "tuple" = some true by decide +kernel), _, rfl, iteF ?_⟩
      refine ⟨_, rfl, rfl, _, rfl, strF (by decide) ?_⟩
      refine ⟨_, rfl, rfl, _, rfl, strT ?_⟩
      refine ⟨(by show 2 ≤ sizeLine; decide), fun l hl => ?_⟩
      have sl := same_new (o := .lst [.str "yes", .non]) hl
      refine ⟨_, rfl, (by show 1 ≤ sizeLine; decide), fun p hp => ?_⟩
      have sp := same_new (o := .tup [.str "all"]) hp
      refine ⟨.tuple ds, .tuple [.str "all"], Dp.same (sl.trans sp) hds, .tup (SqT.of upd_same) (.cons (.str _) .nil), sh, tag1 "all" (by decide +kernel), .inr ⟨_, rfl, ?_⟩⟩
      have f := fin _ (sl.trans sp)
      rw [eqv_tag ds "all" kds, hto]
      have ea : resE ws (n + 1) (Qd.all : Qd (Qn n)) (m + 1) e = if tolE "all" 1 (e : Ed (En m)) = true then some true else none := all_tol (e : Ed (En m))
      rw [ea] at f
      cases ht : tolE "all" 1 (e : Ed (En m)) with
      | true =>
        rw [ht] at f
        exact ⟨l, _, 0, _, rfl, rfl, SqL.of (sp _ _ upd_same), atI_nat (j := 0) rfl, f⟩
      | false =>
        rw [ht] at f
        exact ⟨l, _, 1, _, rfl, rfl, SqL.of (sp _ _ upd_same), atI_nat (j := 1) rfl, f⟩
    · obtain ⟨aq, us, rfl, haq, hus⟩ := dp_kind (show Dp K H vq (encRow ps gap) from hq)
      obtain ⟨ok1, ok2, ok3⟩ : okR ps := ok
      refine ⟨_, rfl, aq, _, 0, _, rfl, rfl, haq, atI_nat (j := 0) rfl, ?_⟩
      refine ⟨_, rfl, _, _, _, _, true, rfl, .ty _, isT, kit_ty (show kitB "tuple" "tuple" = some true by decide +kernel), _, rfl, iteF ?_⟩
      refine ⟨_, rfl, rfl, _, rfl, strT ?_⟩
      refine ⟨_, rfl, (by show 1 ≤ sizeLine; decide), fun p hp => ?_⟩
      have sp := same_new (o := .tup [.str "nowhere"]) hp
      refine ⟨.tuple ds, .tuple [.str "nowhere"], Dp.same sp hds, .tup (SqT.of upd_same) (.cons (.str _) .nil), sh, tag1 "nowhere" (by decide +kernel), _, rfl, ?_⟩
      rw [eqv_tag ds "nowhere" kds, hto]
      cases e with
      | tag s1 =>
        by_cases c : s1 = "nowhere"
        · subst c
          refine iteT ?_
          refine ⟨_, rfl, _, rfl, vd, .ref aq, ws, ps, gap, rfl, Dp.same sp hd, Dp.same sp hq, ok1, ok2, hws, hw20, ok3, fun r H1 vs s1 hr0 h1 hv => ?_⟩
          have s2 := sp.trans s1
          refine ⟨r, vs, rfl, .inl (SqL.of h1), rfl, _, rfl, ?_⟩
          have f1 := fin H1 s2
          cases hw : waysL ws ps gap ps.length with
          | nil =>
            rw [hw] at hv
            obtain rfl := DpAll.nilI hv
            have e2 : resE ws (n + 1) (Qd.row ps gap : Qd (Qn n)) (m + 1) (Ed.tag "nowhere" : Ed (En m)) = some false := if_pos ⟨rfl, row_none ok1 hw⟩
            rw [e2] at f1
            exact iteT f1
          | cons u us =>
            rw [hw] at hv
            obtain ⟨v, vs, rfl, _, _⟩ := DpAll.consI hv
            have hb : rowB ws ps gap = true := row_some (u := u) ok1 (by rw [hw]; exact List.mem_cons_self)
            have e2 : resE ws (n + 1) (Qd.row ps gap : Qd (Qn n)) (m + 1) (Ed.tag "nowhere" : Ed (En m)) = none := if_neg fun h => by rw [hb] at h; exact nomatch h.2
            rw [e2] at f1
            rw [show decide (V.int (((v :: vs).length : Nat) : Int) = V.int 0) = false from decide_eq_false (fun z => by have := V.int.inj z; rw [List.length_cons] at this; omega)]
            refine iteF ?_
            refine told_and rfl (Dp.same s2 hds) kds (by decide) (fun h => ?_) (fun h => ?_)
            · rw [hto] at h; exact nomatch h
            · exact iteF f1
        · have e1 : tolE "nowhere" 1 (Ed.tag s1 : Ed (En m)) = false := by show (decide (1 = 1) && decide (s1 = "nowhere")) = false; rw [decide_eq_false c]; rfl
          have e2 : resE ws (n + 1) (Qd.row ps gap : Qd (Qn n)) (m + 1) (Ed.tag s1 : Ed (En m)) = none := if_neg fun h => c h.1
          have f1 := fin _ sp
          rw [e2] at f1
          rw [e1]
          refine iteF (iteF ?_)
          refine told_and rfl (Dp.same sp hds) kds (by decide) (fun h => ?_) (fun h => ?_)
          · rw [hto] at h; exact nomatch h
          · exact iteF f1
      | nil =>
        refine iteF (iteF ?_)
        refine told_and rfl (Dp.same sp hds) kds (by decide) (fun h => ?_) (fun h => ?_)
        · rw [hto] at h; exact nomatch h
        · exact iteF (fin _ sp)
      | one i e =>
        refine iteF (iteF ?_)
        refine told_and rfl (Dp.same sp hds) kds (by decide) (fun h => ?_) (fun h => ?_)
        · rw [hto] at h; exact nomatch h
        · exact iteF (fin _ sp)
      | neg e =>
        refine iteF (iteF ?_)
        refine told_and rfl (Dp.same sp hds) kds (by decide) (fun h => ?_) (fun h => ?_)
        · rw [hto] at h; exact nomatch h
        · exact iteF (fin _ sp)
      | each es =>
        refine iteF (iteF ?_)
        refine told_and rfl (Dp.same sp hds) kds (by decide) (fun h => ?_) (fun h => ?_)
        · rw [hto] at h; exact nomatch h
        · exact iteF (fin _ sp)
      | two s1 i =>
        refine iteF (iteF ?_)
        refine told_and rfl (Dp.same sp hds) kds (by decide) (fun h => ?_) (fun h => ?_)
        · obtain ⟨ae, ue, rfl, hae, hue⟩ := dp_kind (show Dp K H ve (.tuple [.str s1, .int i]) from he)
          obtain ⟨v1, ue2, rfl, hv1, hnil⟩ := DpAll.consI hue
          obtain rfl := DpAll.nilI hnil
          refine ⟨_, rfl, _, rfl, _, rfl, ae, _, 1, _, rfl, rfl, (TK.same sp).seq hae, atI_nat (j := 1) rfl, vd, .ref aq, v1, ws, ps, gap, false, rfl, Dp.same sp hd, Dp.same sp hq, ⟨ok1, ok2, ok3⟩, ok3, hws, hw20, .inr ⟨i, Dp.same sp hv1, rfl⟩, fun H1 s1 => ⟨_, rfl, ?_⟩⟩
          exact iteF (fin _ (sp.trans s1))
        · exact iteF (fin _ sp)
      | stands L =>
        refine iteF (iteF ?_)
        refine told_and rfl (Dp.same sp hds) kds (by decide) (fun h => ?_) (fun h => ?_)
        · obtain ⟨ae, ue, rfl, hae, hue⟩ := dp_kind (show Dp K H ve (.tuple [.str "stands", .tuple (L.map .int)]) from he)
          obtain ⟨v1, ue2, rfl, hv1, hnil⟩ := DpAll.consI hue
          obtain rfl := DpAll.nilI hnil
          refine ⟨_, rfl, _, rfl, _, rfl, ae, _, 1, _, rfl, rfl, (TK.same sp).seq hae, atI_nat (j := 1) rfl, vd, .ref aq, v1, ws, ps, gap, standB ws ps gap L, rfl, Dp.same sp hd, Dp.same sp hq, ⟨ok1, ok2, ok3⟩, ok3, hws, hw20, .inl ⟨L, Dp.same sp hv1, rfl⟩, fun H1 s1 => ⟨_, rfl, ?_⟩⟩
          have f1 := fin _ (sp.trans s1)
          cases hb : standB ws ps gap L with
          | true =>
            rw [show resE ws (n + 1) (Qd.row ps gap : Qd (Qn n)) (m + 1) (Ed.stands L : Ed (En m)) = some true from if_pos hb] at f1
            exact iteT f1
          | false =>
            rw [show resE ws (n + 1) (Qd.row ps gap : Qd (Qn n)) (m + 1) (Ed.stands L : Ed (En m)) = none from if_neg fun h => by rw [hb] at h; exact nomatch h] at f1
            exact iteF f1
        · rw [hto] at h; exact nomatch h
    · obtain ⟨aq, us, rfl, haq, hus⟩ := dp_kind (show Dp K H vq (.tuple [.str "not", encQ n q]) from hq)
      obtain ⟨vi, us2, rfl, hvi, hnilq⟩ := DpAll.consI hus
      refine ⟨_, rfl, aq, _, 0, _, rfl, rfl, haq, atI_nat (j := 0) rfl, ?_⟩
      refine ⟨_, rfl, _, _, _, _, true, rfl, .ty _, isT, kit_ty (show kitB "tuple" "tuple" = some true by decide +kernel), _, rfl, iteF ?_⟩
      refine ⟨_, rfl, rfl, _, rfl, strF (by decide) ?_⟩
      refine ⟨_, rfl, rfl, _, rfl, strF (by decide) ?_⟩
      refine ⟨_, rfl, rfl, _, rfl, strT ?_⟩
      refine told_or (n := 2) (z := "not") rfl hds kds (by decide) ?_
      rw [hto]
      cases e with
      | neg e =>
        refine iteF ?_
        obtain ⟨ae, ue, rfl, hae, hue⟩ := dp_kind (show Dp K H ve (.tuple [.str "not", encE m e]) from he)
        obtain ⟨v1, ue2, rfl, hv1, hnil⟩ := DpAll.consI hue
        refine ⟨_, rfl, _, rfl, aq, _, 1, _, rfl, rfl, haq, atI_nat (j := 1) rfl, _, rfl, ae, _, 1, _, rfl, rfl, hae, atI_nat (j := 1) rfl, vd, vi, v1, ws, q, m, e, rfl, hd, hvi, ok, hv1, oke, by omega, hws, hw20, fun H1 s1 => ?_⟩
        have f1 := fin H1 s1
        have er : resE ws (n + 1) (Qd.neg q : Qd (Qn n)) (m + 1) (Ed.neg e : Ed (En m)) = (resE ws n q m e).map (!·) := rfl
        rw [er] at f1
        cases hres : resE ws n q m e with
        | none =>
          rw [hres] at f1
          exact ⟨_, rfl, rfl, _, rfl, iteT f1⟩
        | some b =>
          refine ⟨_, rfl, rfl, _, rfl, iteF ?_⟩
          refine ⟨(by show 2 ≤ sizeLine; decide), fun l hl => ?_⟩
          have sl := same_new (o := .lst [.str "yes", .str "no"]) hl
          have f2 := fin _ (s1.trans sl)
          rw [er, hres] at f2
          refine ⟨_, rfl, rfl, .inr ⟨_, rfl, ?_⟩⟩
          cases b with
          | true => exact ⟨l, _, 1, _, rfl, rfl, SqL.of upd_same, atI_nat (j := 1) rfl, f2⟩
          | false => exact ⟨l, _, 0, _, rfl, rfl, SqL.of upd_same, atI_nat (j := 0) rfl, f2⟩
      | tag s1 => exact iteT (fin H (Same.refl H))
      | two s1 i =>
        rw [show tolE "not" 2 (Ed.two s1 i : Ed (En m)) = false from decide_eq_false (show s1 ≠ "not" ∧ s1 ≠ "each" ∧ s1 ≠ "one" ∧ PyData.strOk s1 = true from oke).1]
        exact iteT (fin H (Same.refl H))
      | stands L => exact iteT (fin H (Same.refl H))
      | nil => exact iteT (fin H (Same.refl H))
      | one i e => exact iteT (fin H (Same.refl H))
      | each es => exact iteT (fin H (Same.refl H))
    · obtain ⟨aq, ap, xs, rfl, haq, hap, hl, part, hxs⟩ := dp_bin2 hq ok
      obtain ⟨hql, okqs⟩ := (show qs.length ≤ 100 ∧ ∀ q ∈ qs, okQ n q from ok)
      have ko := kind_no o
      refine ⟨_, rfl, aq, _, 0, _, rfl, rfl, haq, atI_nat (j := 0) rfl, ?_⟩
      refine ⟨_, rfl, _, _, _, _, true, rfl, .ty _, isT, kit_ty (show kitB "tuple" "tuple" = some true by decide +kernel), _, rfl, iteF ?_⟩
      refine ⟨_, rfl, rfl, _, rfl, strF (by cases o <;> decide) ?_⟩
      refine ⟨_, rfl, rfl, _, rfl, strF (by cases o <;> decide) ?_⟩
      refine ⟨_, rfl, rfl, _, rfl, strF (by cases o <;> decide) ?_⟩
      refine ⟨_, rfl, aq, _, 1, _, rfl, rfl, haq, atI_nat (j := 1) rfl, ?_⟩
      refine ⟨(by show 2 ≤ sizeLine; decide), fun l hl0 => ?_⟩
      have sl := same_new (o := .lst [.str "no", .str "yes"]) hl0
      have hL : upd H l (.lst [.str "no", .str "yes"]) l = some (.lst [.str "no", .str "yes"]) := upd_same
      have atA : atI [V.str "no", V.str "yes"] (if decide (V.str (if o = true then "or" else "and") = V.str "and") = true then 1 else 0) = some (V.str (yn (!o))) := by cases o <;> decide
      have atO : atI [V.str "no", V.str "yes"] (if decide (V.str (if o = true then "or" else "and") = V.str "or") = true then 1 else 0) = some (V.str (yn o)) := by cases o <;> decide
      refine told_and rfl (Dp.same sl hds) kds (by decide) (fun h => ?_) (fun h => ?_)
      · rw [hto] at h
        cases e with
        | tag s1 => exact nomatch h
        | nil => exact nomatch h
        | two s1 i => 
          rw [show tolE "each" 2 (Ed.two s1 i : Ed (En m)) = false from decide_eq_false (show s1 ≠ "not" ∧ s1 ≠ "each" ∧ s1 ≠ "one" ∧ PyData.strOk s1 = true from oke).2.1] at h
          exact nomatch h
        | stands L => exact nomatch h
        | one i e => exact nomatch h
        | neg e => exact nomatch h
        | each es =>
          obtain ⟨ae, ue, rfl, hae, hue⟩ := dp_kind (show Dp K H ve (.tuple [.str "each", .tuple (es.map (encE m))]) from he)
          obtain ⟨v1, ue2, rfl, hv1, hue2⟩ := DpAll.consI hue
          obtain rfl := DpAll.nilI hue2
          have isE : TyX K (upd H l (.lst [.str "no", .str "yes"])) v1 (.type "tuple") := ty_at (Dp.same sl hv1) trivial
          obtain ⟨a1, ys, rfl, ha1, hys⟩ := Dp.tupI hv1
          have hyl : ys.length = es.length := by rw [DpAll.len hys, List.length_map]
          refine ⟨_, rfl, ae, _, 1, _, rfl, rfl, (TK.same sl).seq hae, atI_nat (j := 1) rfl, _, _, _, _, true, rfl, .ty _, isE, kit_ty (show kitB "tuple" "tuple" = some true by decide +kernel), _, rfl, iteT ?_⟩
          refine ⟨_, rfl, ae, _, 1, _, rfl, rfl, (TK.same sl).seq hae, atI_nat (j := 1) rfl, a1, ys, rfl, .inr ((TK.same sl).seq ha1), _, rfl, ap, xs, rfl, .inr ((TK.same sl).seq hap), rfl, _, rfl, ?_⟩
          have er : resE ws (n + 1) (Qd.bin o qs : Qd (Qn n)) (m + 1) (Ed.each es : Ed (En m)) = if (decide (es.length = qs.length) && ((qs.zip es).map fun p => decide (resE ws n p.1 m p.2 = some (!o))).all id) = true then some (!o) else none := rfl
          by_cases c1 : es.length = qs.length
          case neg =>
            rw [decide_eq_false (show ¬ V.int ((ys.length : Nat) : Int) = V.int ((xs.length : Nat) : Int) from fun h => c1 (by have := V.int.inj h; omega))]
            refine iteF ?_
            refine told_and rfl (Dp.same sl hds) kds (by decide) (fun h => ?_) (fun h => ?_)
            · rw [hto] at h; exact nomatch h
            · have f1 := fin _ sl
              rw [er, decide_eq_false c1] at f1
              exact iteF f1
          rw [decide_eq_true (show V.int ((ys.length : Nat) : Int) = V.int ((xs.length : Nat) : Int) by rw [hyl, hl, c1])]
          rw [decide_eq_true c1, Bool.true_and] at er
          refine iteT ?_
          refine ⟨_, rfl, ap, xs, rfl, .inr ((TK.same sl).seq hap), _, rfl, (by omega), (by omega), ?_⟩
          have en : ((xs.length : Nat) : Int).toNat = xs.length := by omega
          rw [en]
          refine for_range (n := xs.length) (fun i σ H' => (Same H H' ∧ H' l = some (.lst [.str "no", .str "yes"])) ∧ (∃ c4 c7, σ = [some vd, some (.ref aq), some (.ref ae), some (.str (if o = true then "or" else "and")), c4, some (.ref ap), some (.ref l), c7]) ∧ ∀ j y z, j < i → qs[j]? = some y → es[j]? = some z → resE ws n y m z = some (!o))
            ⟨⟨sl, hL⟩, ⟨_, _, rfl⟩, fun j y z hj => absurd hj (Nat.not_lt_zero j)⟩ ?_ ?_
          · rintro i σ H3 hi ⟨⟨s3, l3⟩, ⟨c4, c7, rfl⟩, all⟩
            have hx : xs[i]? = some xs[i] := List.getElem?_eq_getElem hi
            obtain ⟨q, hy, dy, oky⟩ := part i _ hx
            have hx0 : atI xs (0 + (i : Int)) = some xs[i] := by rw [Int.zero_add]; exact atI_nat hx
            have hi2 : i < es.length := by omega
            obtain ⟨y1, hy1, dy1⟩ := DpAll.get hys (i := i) (d := encE m es[i]) (by rw [List.getElem?_map, List.getElem?_eq_getElem hi2]; rfl)
            have hy0 : atI ys (0 + (i : Int)) = some y1 := by rw [Int.zero_add]; exact atI_nat hy1
            refine ⟨_, rfl, _, rfl, _, rfl, ap, _, _, _, rfl, rfl, (TK.same s3).seq hap, hx0, _, rfl, ae, _, 1, _, rfl, rfl, (TK.same s3).seq hae, atI_nat (j := 1) rfl, _, rfl, a1, _, _, _, rfl, rfl, (TK.same s3).seq ha1, hy0, vd, xs[i], y1, ws, q, m, es[i], rfl, Dp.same s3 hd, Dp.same s3 dy, oky, Dp.same s3 dy1, oke _ (List.getElem_mem hi2), by omega, hws, hw20, fun H5 s5 => ?_⟩
            have s05 := s3.trans s5
            refine ⟨_, rfl, _, rfl, rfl, .inr ⟨_, rfl, l, _, _, _, rfl, rfl, SqL.of (s5 _ _ l3), atA, yn_scal _ _, _, rfl, ?_⟩⟩
            rw [yn_eq]
            by_cases e : resE ws n q m es[i] = some (!o)
            · rw [decide_eq_true e]
              refine iteF ⟨⟨s05, s5 _ _ l3⟩, ⟨_, _, rfl⟩, fun j y z hj hz1 hz2 => ?_⟩
              by_cases ej : j = i
              · subst ej
                obtain rfl : y = q := Option.some.inj (hz1.symm.trans hy)
                obtain rfl : z = es[j] := Option.some.inj (hz2.symm.trans (List.getElem?_eq_getElem hi2))
                exact e
              · exact all j y z (by omega) hz1 hz2
            · rw [decide_eq_false e]
              have f1 := fin _ s05
              rw [er, if_neg (show ¬ ((qs.zip es).map fun p => decide (resE ws n p.1 m p.2 = some (!o))).all id = true from fun h => e (of_decide_eq_true (p := resE ws n q m es[i] = some (!o)) (List.all_eq_true.mp h _ (List.mem_map.mpr ⟨(q, es[i]), List.mem_iff_getElem?.mpr ⟨i, by rw [List.getElem?_zip_eq_some]; exact ⟨hy, List.getElem?_eq_getElem hi2⟩⟩, rfl⟩))))] at f1
              exact iteT f1
          · rintro σ H3 ⟨⟨s3, l3⟩, ⟨c4, c7, rfl⟩, all⟩
            have f1 := fin _ s3
            rw [er, if_pos (List.all_eq_true.mpr fun b hb => by
              obtain ⟨p, hp, rfl⟩ := List.mem_map.mp hb
              obtain ⟨i, hi⟩ := List.mem_iff_getElem?.mp hp
              rw [List.getElem?_zip_eq_some] at hi
              exact decide_eq_true (all i _ _ (by have := (List.getElem?_eq_some_iff.mp hi.1).1; omega) hi.1 hi.2))] at f1
            exact ⟨_, rfl, _, rfl, rfl, .inr ⟨_, rfl, l, _, _, _, rfl, rfl, SqL.of l3, atA, f1⟩⟩
      · refine iteF ?_
        refine told_and rfl (Dp.same sl hds) kds (by decide) (fun h1 => ?_) (fun h1 => ?_)
        · rw [hto] at h1
          cases e with
          | tag s1 => exact nomatch h1
          | nil => exact nomatch h1
          | two s1 i => exact nomatch h1
          | stands L => exact nomatch h1
          | neg e => exact nomatch h1
          | each es => exact nomatch h1
          | one i e =>
            obtain ⟨ae, ue, rfl, hae, hue⟩ := dp_kind (show Dp K H ve (.tuple [.str "one", .int i, encE m e]) from he)
            obtain ⟨v1, ue2, rfl, hv1, hue2⟩ := DpAll.consI hue
            obtain ⟨v2, ue3, rfl, hv2, hnil2⟩ := DpAll.consI hue2
            obtain rfl := DpAll.nilI hnil2
            obtain rfl := Dp.intI hv1
            refine ⟨_, rfl, ae, _, 1, _, rfl, rfl, (TK.same sl).seq hae, atI_nat (j := 1) rfl, ?_⟩
            have er : resE ws (n + 1) (Qd.bin o qs : Qd (Qn n)) (m + 1) (Ed.one i e : Ed (En m)) = if 0 ≤ i then (match qs[i.toNat]? with
              | some q => if resE ws n q m e = some o then some o else none
              | none => none) else none := rfl
            refine ⟨_, _, rfl, rfl, _, rfl, ?_⟩
            by_cases c0 : 0 ≤ i
            case neg =>
              rw [decide_eq_false c0]
              have f1 := fin _ sl
              rw [er, if_neg c0] at f1
              exact iteF ⟨_, rfl, iteF f1⟩
            rw [decide_eq_true c0]
            refine iteT ⟨_, rfl, ap, xs, rfl, .inr ((TK.same sl).seq hap), _, _, rfl, rfl, _, rfl, ?_⟩
            obtain ⟨j, rfl⟩ := Int.eq_ofNat_of_zero_le c0
            by_cases c : ((j : Nat) : Int) < (xs.length : Int)
            case neg =>
              rw [decide_eq_false c]
              have f1 := fin _ sl
              rw [er, if_pos c0, List.getElem?_eq_none (by omega)] at f1
              exact iteF f1
            rw [decide_eq_true c]
            have hj : j < xs.length := by omega
            obtain ⟨q, hy, dy, oky⟩ := part j _ (List.getElem?_eq_getElem hj)
            rw [if_pos c0, Int.toNat_natCast, hy] at er
            refine iteT ⟨_, rfl, _, rfl, _, rfl, ae, _, 1, _, rfl, rfl, (TK.same sl).seq hae, atI_nat (j := 1) rfl, ap, _, _, _, rfl, rfl, (TK.same sl).seq hap, atI_nat (List.getElem?_eq_getElem hj), _, rfl, ae, _, 2, _, rfl, rfl, (TK.same sl).seq hae, atI_nat (j := 2) rfl, vd, xs[j], v2, ws, q, m, e, rfl, Dp.same sl hd, Dp.same sl dy, oky, Dp.same sl hv2, oke, by omega, hws, hw20, fun H5 s5 => ?_⟩
            have s05 := sl.trans s5
            have f1 := fin _ s05
            rw [er] at f1
            dsimp only at f1
            refine ⟨_, rfl, _, rfl, rfl, .inr ⟨_, rfl, l, _, _, _, rfl, rfl, SqL.of (s5 _ _ hL), atO, yn_scal _ _, _, rfl, ?_⟩⟩
            rw [yn_eq]
            by_cases c2 : resE ws n q m e = some o
            · rw [decide_eq_true c2]
              rw [if_pos c2] at f1
              exact iteT ⟨_, rfl, _, rfl, rfl, .inr ⟨_, rfl, l, _, _, _, rfl, rfl, SqL.of (s5 _ _ hL), atO, f1⟩⟩
            · rw [decide_eq_false c2]
              rw [if_neg c2] at f1
              exact iteF f1
        · have f1 := fin _ sl
          rw [hto] at h h1
          have e0 : resE ws (n + 1) (Qd.bin o qs : Qd (Qn n)) (m + 1) e = none := by
            cases e with
            | one i e => exact nomatch h1
            | each es => exact nomatch h
            | _ => rfl
          rw [e0] at f1
          exact iteF f1
end
section
variable {P : Program} {w : World} {K : PySem.W.Frag} {mg : Str → Option Value} {base : Heap} {A : Nat → Addr} {D : Nat → FuncData}
theorem ok_law (T : Txt K mg A D) (DO : DOpp K w mg) {P1 P2 P3 P4 : Addr} (TFm : TbF base mg (D 1) P1) (TFh : TbF base mg (D 2) P2) (TFs : TbF base mg (D 3) P3) (TFr : TbF base mg (D 15) P4) : FnOk P w K mg base CX0 30 (A 33) (D 33) ["script"] (ySpLawT K [P1, P2, P3, P4]) := by
  refine T.F_law.ok (k := 29) sc_law (fun vs H Q E h => ?_) (fun cdv A' outer s H vs Q E hr h => ?_)
  · obtain ⟨_, _, a, ns, rfl, _⟩ := h; rfl
  obtain ⟨hnd0, hT0, a, ns, rfl, hS, hn, fin⟩ := h
  have hT : TabsG H [(P1, some lamQ), (P2, none), (P3, none), (P4, none)] := TabsG.start hnd0 hT0
  have hnd := sc_law.nd
  have m4 : (P4, (none : Option Str)) ∈ [(P1, some lamQ), (P2, none), (P3, none), (P4, none)] := .tail _ (.tail _ (.tail _ (.head _)))
  have G__law_draw := ok_draw (P := P) (w := w) (base := base) T
  have G__law_digits := ok_digits (P := P) (w := w) (base := base) T
  have G__law_same := ok_same (P := P) (w := w) (base := base) T 3
  have G__law_document := ok_ldocument (P := P) (w := w) (base := base) T
  have G__law_question := fn_any (m := 4) (k := 7) (ok_lquestion (P := P) (w := w) (base := base) T) (fun n hn => by omega)
  have G__law_spoilt := fn_any (m := 6) (k := 8) (ok_spoilt (P := P) (w := w) (base := base) T) (fun n hn => by omega)
  have G__law_shown := fn_any (m := 4) (k := 7) (ok_lshown (P := P) (w := w) (base := base) T) (fun n hn => by omega)
  have GM := ok_matches (P := P) (w := w) (base := base) (Ps := [(P1, some lamQ), (P2, none), (P3, none), (P4, none)]) T TFs (.tail _ (.tail _ (.head _))) TFh (.tail _ (.head _)) TFm (.head _)
  have GR := ok_rising (P := P) (w := w) (base := base) (Ps := [(P1, some lamQ), (P2, none), (P3, none), (P4, none)]) T TFr m4
  have GCR := ok_check_row T (GM 1) (ok_standing T GR)
  have G_evidence_for := fn_any (m := 4) (k := 28) (ok_evid T GM) (fun n hn => by omega)
  have G_check_evidence := fn_any (m := 4) (k := 28) (ok_check T DO GCR) (fun n hn => by omega)
  refine ⟨_, (pss_cons (ps_set (i := 1) hnd rfl (Or.inl rfl) (pe_lst (pa_cons (pe_call G__law_digits (hr.mono (by first | decide | omega)) rfl T.m__law_digits T.F__law_digits.kp T.b__law_digits .nil pass0 (pa_cons (pv 0) (pa_cons pe_int (pa_cons pe_int pa_nil)))) (pa_cons pe_int pa_nil)))) (pss_cons (ps_set (i := 2) hnd rfl (Or.inl rfl) (pe_call G__law_question (hr.mono (by first | decide | omega)) rfl T.m__law_question T.F__law_question.kp T.b__law_question .nil pass0 (pa_cons (pv 1) (pa_cons (pe_op op_add pe_int (pe_call G__law_draw (hr.mono (by first | decide | omega)) rfl T.m__law_draw T.F__law_draw.kp T.b__law_draw .nil pass0 (pa_cons (pv 1) (pa_cons pe_int pa_nil)))) (pa_cons pe_bl pa_nil))))) (pss_cons (ps_set (i := 3) hnd rfl (Or.inl rfl) (pe_call G__law_document (hr.mono (by first | decide | omega)) rfl T.m__law_document T.F__law_document.kp T.b__law_document .nil pass0 (pa_cons (pv 1) (pa_cons pe_int pa_nil)))) (pss_cons (ps_set (i := 4) hnd rfl (Or.inl rfl) (pe_call G_evidence_for (hr.mono (by first | decide | omega)) rfl T.m_evidence_for T.F_evidence_for.kp T.b_evidence_for .nil pass0 (pa_cons (pv 3) (pa_cons (pv 2) pa_nil)))) (pss_cons (ps_for PassesOwn.never rfl (pi_range1 rfl T.z_range (pa_cons (pe_op op_add pe_int (pe_call G__law_draw (hr.mono (by first | decide | omega)) rfl T.m__law_draw T.F__law_draw.kp T.b__law_draw .nil pass0 (pa_cons (pv 1) (pa_cons pe_int pa_nil)))) pa_nil)) (pg_name (i := 5) hnd rfl (Or.inl rfl)) (pss_one (ps_set (i := 4) hnd rfl (Or.inl rfl) (pe_call G__law_spoilt (hr.mono (by first | decide | omega)) rfl T.m__law_spoilt T.F__law_spoilt.kp T.b__law_spoilt .nil pass0 (pa_cons (pv 1) (pa_cons (pv 4) pa_nil)))))) (pss_one (ps_ret (pe_call G__law_same (hr.mono (by first | decide | omega)) rfl T.m__law_same T.F__law_same.kp T.b__law_same .nil pass0 (pa_cons (pe_call G_check_evidence (hr.mono (by first | decide | omega)) rfl T.m_check_evidence T.F_check_evidence.kp T.b_check_evidence .nil pass0 (pa_cons (pv 3) (pa_cons (pv 2) (pa_cons (pv 4) pa_nil)))) (pa_cons (pe_call G__law_shown (hr.mono (by first | decide | omega)) rfl T.m__law_shown T.F__law_shown.kp T.b__law_shown .nil pass0 (pa_cons (pv 3) (pa_cons (pv 2) (pa_cons (pv 4) pa_nil)))) pa_nil)))))))))), ?_⟩
  refine ⟨_, rfl, a, ns, rfl, hS, fun p ds H1 s1 hp0 hp1 hl => ⟨(by show 2 ≤ sizeLine; decide), fun b hb => ?_⟩⟩
  have B1 := box_new hp1 hb
  have T1 : TabsG (upd H1 b (.lst [.ref p, .int 0])) [(P1, some lamQ), (P2, none), (P3, none), (P4, none)] := hT.same (s1.trans (same_new hb))
  refine ⟨_, rfl, _, rfl, b, p, 3, rfl, B1, (by decide), fun r1 H2 h10 h11 B2 k2 => ⟨_, _, rfl, rfl, ?_⟩⟩
  have T2 := TabsG.box T1 B1 k2
  obtain ⟨e, he⟩ := Int.eq_ofNat_of_zero_le (show 0 ≤ 1 + r1 by omega)
  have ev : [V.ref b, V.int (1 + r1), V.bl false] = [V.ref b, V.int (e : Int), V.bl false] := by rw [he]
  refine ⟨e + 1, by omega, b, p, ev, B2, fun vq H3 q ok dq B3 k3 => ?_⟩
  have T3 := TabsG.box T2 B2 k3
  refine ⟨_, rfl, b, p, 10, rfl, B3, (by decide), fun qd ws H5 hwl hw20 dd B5 k5 => ?_⟩
  have T5 := TabsG.box T3 B3 k5
  have dq5 := Dp.keep (TK.box B3 k5) dq (imm_encQ _ q)
  refine ⟨_, rfl, _, rfl, e + 1, by omega, .ref qd, vq, ws, q, rfl, dd, dq5, ok, T5, by omega, fun v1 H6 k6 de1 => ?_⟩
  have T6 := k6.1
  have t6 := k6.tk T5
  have B6 := k6.box T5 B5
  have dd6 := Dp.keep t6 dd (imm_encD ws)
  have dq6 := Dp.keep t6 dq5 (imm_encQ _ q)
  have o1 := okE_evF ws (e + 1) q ok
  refine ⟨_, rfl, b, p, 2, rfl, B6, (by decide), fun r2 H7 h20 h21 B7 k7 => ?_⟩
  have T7 := TabsG.box T6 B6 k7
  have t7 := TK.box B6 k7
  have dd7 := Dp.keep t7 dd6 (imm_encD ws)
  have dq7 := Dp.keep t7 dq6 (imm_encQ _ q)
  have de7 := Dp.keep t7 de1 (imm_encE _ _)
  refine ⟨_, _, rfl, rfl, _, rfl, (by omega), (by omega), ?_⟩
  refine for_range (n := (1 + r2).toNat) (fun i σ H' => (∃ (c5 : Option V) (vv : V) (m : Nat) (e' : En m), σ = [some (.ref a), some (.ref b), some vq, some (.ref qd), some vv, c5] ∧ Dp K H' vv (encE m e') ∧ okE m e' ∧ m ≤ e + 1 + 2 * i) ∧ BoxAt H' b p ∧ TabsG H' [(P1, some lamQ), (P2, none), (P3, none), (P4, none)] ∧ Dp K H' (.ref qd) (encD ws) ∧ Dp K H' vq (encQ (e + 1) q))
    ⟨⟨_, _, _, _, rfl, de7, o1, by omega⟩, B7, T7, dd7, dq7⟩ ?_ ?_
  · rintro i σ H8 hi ⟨⟨c5, vv, m, e', rfl, de8, o8, hm⟩, B8, T8, dd8, dq8⟩
    refine ⟨_, rfl, _, rfl, m, by omega, b, p, vv, e', rfl, B8, de8, o8, fun vs H9 e9 o9 de9 B9 k9 => ?_⟩
    have t9 := TK.box B8 k9
    exact ⟨⟨_, _, _, _, rfl, de9, o9, by omega⟩, B9, TabsG.box T8 B8 k9, Dp.keep t9 dd8 (imm_encD ws), Dp.keep t9 dq8 (imm_encQ _ q)⟩
  · rintro σ H8 ⟨⟨c5, vv, m, e', rfl, de8, o8, hm⟩, B8, T8, dd8, dq8⟩
    refine ⟨_, rfl, _, rfl, _, rfl, e + 1, by omega, .ref qd, vq, vv, ws, q, m, e', rfl, dd8, dq8, ok, de8, o8, T8, by omega, fun H9 k9 => ?_⟩
    have t9 := k9.tk T8
    refine ⟨_, rfl, _, rfl, _, rfl, e + 1, by omega, .ref qd, vq, vv, ws, q, m, e', rfl, Dp.keep t9 dd8 (imm_encD ws), Dp.keep t9 dq8 (imm_encQ _ q), ok, Dp.keep t9 de8 (imm_encE _ e'), o8, by omega, by omega, hw20, fun H10 s10 => ?_⟩
    cases hr2 : resE ws (e + 1) q m e' with
    | none => exact ⟨_, _, .none, rfl, .non, .non, True.intro, fin _⟩
    | some c => exact ⟨_, _, .str (yn c), rfl, .str _, .str _, True.intro, fin _⟩
end

theorem all_mk {l : PySem.W.OpenLaw} {w : World} {K : PySem.W.Frag} {h : Heap} {mg : Str → Option Value} {fa f0 f1 f2 f3 f4 f5 f6 f7 f8 f9 f10 f11 f12 f13 f14 f15 f16 f17 f18 f19 f20 f21 f22 f23 f24 f25 f26 f27 f28 f29 f30 f31 f32 f33 : Addr} (X : K.In h) (G : h.Ns mainGlobals mg) (hfa : mg "law" = some (.ref fa))
    {od0 od1 od2 od3 od4 od5 od6 od7 od8 od9 od10 od11 od12 od13 od14 od15 od16 od17 od18 od19 od20 od21 od22 od23 od24 od25 od26 od27 od28 od29 od30 od31 od32 od33 an0 an1 an2 an3 an4 an5 an6 an7 an8 an9 an10 an11 an12 an13 an14 an15 an16 an17 an18 an19 an20 an21 an22 an23 an24 an25 an26 an27 an28 an29 an30 an31 an32 an33 : Option Addr} {sl0 sl1 sl2 sl3 sl4 sl5 sl6 sl7 sl8 sl9 sl10 sl11 sl12 sl13 sl14 sl15 sl16 sl17 sl18 sl19 sl20 sl21 sl22 sl23 sl24 sl25 sl26 sl27 sl28 sl29 sl30 sl31 sl32 sl33 : Array (Option Value)} {oc0 oc1 oc2 oc3 oc4 oc5 oc6 oc7 oc8 oc9 oc10 oc11 oc12 oc13 oc14 oc15 oc16 oc17 oc18 oc19 oc20 oc21 oc22 oc23 oc24 oc25 oc26 oc27 oc28 oc29 oc30 oc31 oc32 oc33 kV0 kV1 kV2 kV3 kV4 kV5 kV6 kV7 kV8 kV9 kV10 kV11 kV12 kV13 kV14 kV15 kV16 kV17 kV18 kV19 kV20 kV21 kV22 kV23 kV24 kV25 kV26 kV27 kV28 kV29 kV30 kV31 kV32 kV33 dc0 dc1 dc2 dc3 dc4 dc5 dc6 dc7 dc8 dc9 dc10 dc11 dc12 dc13 dc14 dc15 dc16 dc17 dc18 dc19 dc20 dc21 dc22 dc23 dc24 dc25 dc26 dc27 dc28 dc29 dc30 dc31 dc32 dc33 pm0 pm1 pm2 pm3 pm4 pm5 pm6 pm7 pm8 pm9 pm10 pm11 pm12 pm13 pm14 pm15 pm16 pm17 pm18 pm19 pm20 pm21 pm22 pm23 pm24 pm25 pm26 pm27 pm28 pm29 pm30 pm31 pm32 pm33 cd0 cd1 cd2 cd3 cd4 cd5 cd6 cd7 cd8 cd9 cd10 cd11 cd12 cd13 cd14 cd15 cd16 cd17 cd18 cd19 cd20 cd21 cd22 cd23 cd24 cd25 cd26 cd27 cd28 cd29 cd30 cd31 cd32 cd33 ct0 ct1 ct2 ct3 ct4 ct5 ct6 ct7 ct8 ct9 ct10 ct11 ct12 ct13 ct14 ct15 ct16 ct17 ct18 ct19 ct20 ct21 ct22 ct23 ct24 ct25 ct26 ct27 ct28 ct29 ct30 ct31 ct32 ct33 : Value}
    (a0 : PySem.W.nsIn K mainGlobals "fits" = some (some (.ref f0))) (l0 : K.lookup f0 = some ⟨oc0, od0, .func (PySem.W.fnOf "fits" "fits" (defArgs s_fits) (defBody s_fits) (defScope s_fits) .none kV0 dc0 pm0 an0 cd0 ct0), sl0⟩) (c0 : PySem.W.codeIn K cd0 "fits" = true) (k0 : PySem.W.keepIn K (.ref f0) = true)
    (a1 : PySem.W.nsIn K mainGlobals "matches" = some (some (.ref f1))) (l1 : K.lookup f1 = some ⟨oc1, od1, .func (PySem.W.fnOf "matches" "matches" (defArgs s_matches) (defBody s_matches) (defScope s_matches) .none kV1 dc1 pm1 an1 cd1 ct1), sl1⟩) (c1 : PySem.W.codeIn K cd1 "matches" = true) (k1 : PySem.W.keepIn K (.ref f1) = true)
    (a2 : PySem.W.nsIn K mainGlobals "holds" = some (some (.ref f2))) (l2 : K.lookup f2 = some ⟨oc2, od2, .func (PySem.W.fnOf "holds" "holds" (defArgs s_holds) (defBody s_holds) (defScope s_holds) .none kV2 dc2 pm2 an2 cd2 ct2), sl2⟩) (c2 : PySem.W.codeIn K cd2 "holds" = true) (k2 : PySem.W.keepIn K (.ref f2) = true)
    (a3 : PySem.W.nsIn K mainGlobals "has_standing" = some (some (.ref f3))) (l3 : K.lookup f3 = some ⟨oc3, od3, .func (PySem.W.fnOf "has_standing" "has_standing" (defArgs s_has_standing) (defBody s_has_standing) (defScope s_has_standing) .none kV3 dc3 pm3 an3 cd3 ct3), sl3⟩) (c3 : PySem.W.codeIn K cd3 "has_standing" = true) (k3 : PySem.W.keepIn K (.ref f3) = true)
    (a4 : PySem.W.nsIn K mainGlobals "longer_by_one" = some (some (.ref f4))) (l4 : K.lookup f4 = some ⟨oc4, od4, .func (PySem.W.fnOf "longer_by_one" "longer_by_one" (defArgs s_longer_by_one) (defBody s_longer_by_one) (defScope s_longer_by_one) .none kV4 dc4 pm4 an4 cd4 ct4), sl4⟩) (c4 : PySem.W.codeIn K cd4 "longer_by_one" = true) (k4 : PySem.W.keepIn K (.ref f4) = true)
    (a5 : PySem.W.nsIn K mainGlobals "begins_standing" = some (some (.ref f5))) (l5 : K.lookup f5 = some ⟨oc5, od5, .func (PySem.W.fnOf "begins_standing" "begins_standing" (defArgs s_begins_standing) (defBody s_begins_standing) (defScope s_begins_standing) .none kV5 dc5 pm5 an5 cd5 ct5), sl5⟩) (c5 : PySem.W.codeIn K cd5 "begins_standing" = true) (k5 : PySem.W.keepIn K (.ref f5) = true)
    (a6 : PySem.W.nsIn K mainGlobals "end_behind" = some (some (.ref f6))) (l6 : K.lookup f6 = some ⟨oc6, od6, .func (PySem.W.fnOf "end_behind" "end_behind" (defArgs s_end_behind) (defBody s_end_behind) (defScope s_end_behind) .none kV6 dc6 pm6 an6 cd6 ct6), sl6⟩) (c6 : PySem.W.codeIn K cd6 "end_behind" = true) (k6 : PySem.W.keepIn K (.ref f6) = true)
    (a7 : PySem.W.nsIn K mainGlobals "is_number" = some (some (.ref f7))) (l7 : K.lookup f7 = some ⟨oc7, od7, .func (PySem.W.fnOf "is_number" "is_number" (defArgs s_is_number) (defBody s_is_number) (defScope s_is_number) .none kV7 dc7 pm7 an7 cd7 ct7), sl7⟩) (c7 : PySem.W.codeIn K cd7 "is_number" = true) (k7 : PySem.W.keepIn K (.ref f7) = true)
    (a8 : PySem.W.nsIn K mainGlobals "evidence_for" = some (some (.ref f8))) (l8 : K.lookup f8 = some ⟨oc8, od8, .func (PySem.W.fnOf "evidence_for" "evidence_for" (defArgs s_evidence_for) (defBody s_evidence_for) (defScope s_evidence_for) .none kV8 dc8 pm8 an8 cd8 ct8), sl8⟩) (c8 : PySem.W.codeIn K cd8 "evidence_for" = true) (k8 : PySem.W.keepIn K (.ref f8) = true)
    (a9 : PySem.W.nsIn K mainGlobals "evidence_for_row" = some (some (.ref f9))) (l9 : K.lookup f9 = some ⟨oc9, od9, .func (PySem.W.fnOf "evidence_for_row" "evidence_for_row" (defArgs s_evidence_for_row) (defBody s_evidence_for_row) (defScope s_evidence_for_row) .none kV9 dc9 pm9 an9 cd9 ct9), sl9⟩) (c9 : PySem.W.codeIn K cd9 "evidence_for_row" = true) (k9 : PySem.W.keepIn K (.ref f9) = true)
    (a10 : PySem.W.nsIn K mainGlobals "evidence_for_parts" = some (some (.ref f10))) (l10 : K.lookup f10 = some ⟨oc10, od10, .func (PySem.W.fnOf "evidence_for_parts" "evidence_for_parts" (defArgs s_evidence_for_parts) (defBody s_evidence_for_parts) (defScope s_evidence_for_parts) .none kV10 dc10 pm10 an10 cd10 ct10), sl10⟩) (c10 : PySem.W.codeIn K cd10 "evidence_for_parts" = true) (k10 : PySem.W.keepIn K (.ref f10) = true)
    (a11 : PySem.W.nsIn K mainGlobals "check_evidence" = some (some (.ref f11))) (l11 : K.lookup f11 = some ⟨oc11, od11, .func (PySem.W.fnOf "check_evidence" "check_evidence" (defArgs s_check_evidence) (defBody s_check_evidence) (defScope s_check_evidence) .none kV11 dc11 pm11 an11 cd11 ct11), sl11⟩) (c11 : PySem.W.codeIn K cd11 "check_evidence" = true) (k11 : PySem.W.keepIn K (.ref f11) = true)
    (a12 : PySem.W.nsIn K mainGlobals "is_told" = some (some (.ref f12))) (l12 : K.lookup f12 = some ⟨oc12, od12, .func (PySem.W.fnOf "is_told" "is_told" (defArgs s_is_told) (defBody s_is_told) (defScope s_is_told) .none kV12 dc12 pm12 an12 cd12 ct12), sl12⟩) (c12 : PySem.W.codeIn K cd12 "is_told" = true) (k12 : PySem.W.keepIn K (.ref f12) = true)
    (a13 : PySem.W.nsIn K mainGlobals "check_row" = some (some (.ref f13))) (l13 : K.lookup f13 = some ⟨oc13, od13, .func (PySem.W.fnOf "check_row" "check_row" (defArgs s_check_row) (defBody s_check_row) (defScope s_check_row) .none kV13 dc13 pm13 an13 cd13 ct13), sl13⟩) (c13 : PySem.W.codeIn K cd13 "check_row" = true) (k13 : PySem.W.keepIn K (.ref f13) = true)
    (a14 : PySem.W.nsIn K mainGlobals "is_standing" = some (some (.ref f14))) (l14 : K.lookup f14 = some ⟨oc14, od14, .func (PySem.W.fnOf "is_standing" "is_standing" (defArgs s_is_standing) (defBody s_is_standing) (defScope s_is_standing) .none kV14 dc14 pm14 an14 cd14 ct14), sl14⟩) (c14 : PySem.W.codeIn K cd14 "is_standing" = true) (k14 : PySem.W.keepIn K (.ref f14) = true)
    (a15 : PySem.W.nsIn K mainGlobals "is_rising" = some (some (.ref f15))) (l15 : K.lookup f15 = some ⟨oc15, od15, .func (PySem.W.fnOf "is_rising" "is_rising" (defArgs s_is_rising) (defBody s_is_rising) (defScope s_is_rising) .none kV15 dc15 pm15 an15 cd15 ct15), sl15⟩) (c15 : PySem.W.codeIn K cd15 "is_rising" = true) (k15 : PySem.W.keepIn K (.ref f15) = true)
    (a16 : PySem.W.nsIn K mainGlobals "check_not" = some (some (.ref f16))) (l16 : K.lookup f16 = some ⟨oc16, od16, .func (PySem.W.fnOf "check_not" "check_not" (defArgs s_check_not) (defBody s_check_not) (defScope s_check_not) .none kV16 dc16 pm16 an16 cd16 ct16), sl16⟩) (c16 : PySem.W.codeIn K cd16 "check_not" = true) (k16 : PySem.W.keepIn K (.ref f16) = true)
    (a17 : PySem.W.nsIn K mainGlobals "check_parts" = some (some (.ref f17))) (l17 : K.lookup f17 = some ⟨oc17, od17, .func (PySem.W.fnOf "check_parts" "check_parts" (defArgs s_check_parts) (defBody s_check_parts) (defScope s_check_parts) .none kV17 dc17 pm17 an17 cd17 ct17), sl17⟩) (c17 : PySem.W.codeIn K cd17 "check_parts" = true) (k17 : PySem.W.keepIn K (.ref f17) = true)
    (a18 : PySem.W.nsIn K mainGlobals "is_index" = some (some (.ref f18))) (l18 : K.lookup f18 = some ⟨oc18, od18, .func (PySem.W.fnOf "is_index" "is_index" (defArgs s_is_index) (defBody s_is_index) (defScope s_is_index) .none kV18 dc18 pm18 an18 cd18 ct18), sl18⟩) (c18 : PySem.W.codeIn K cd18 "is_index" = true) (k18 : PySem.W.keepIn K (.ref f18) = true)
    (a19 : PySem.W.nsIn K mainGlobals "is_each" = some (some (.ref f19))) (l19 : K.lookup f19 = some ⟨oc19, od19, .func (PySem.W.fnOf "is_each" "is_each" (defArgs s_is_each) (defBody s_is_each) (defScope s_is_each) .none kV19 dc19 pm19 an19 cd19 ct19), sl19⟩) (c19 : PySem.W.codeIn K cd19 "is_each" = true) (k19 : PySem.W.keepIn K (.ref f19) = true)
    (a20 : PySem.W.nsIn K mainGlobals "_law_cell" = some (some (.ref f20))) (l20 : K.lookup f20 = some ⟨oc20, od20, .func (PySem.W.fnOf "_law_cell" "_law_cell" (defArgs s__law_cell) (defBody s__law_cell) (defScope s__law_cell) .none kV20 dc20 pm20 an20 cd20 ct20), sl20⟩) (c20 : PySem.W.codeIn K cd20 "_law_cell" = true) (k20 : PySem.W.keepIn K (.ref f20) = true)
    (a21 : PySem.W.nsIn K mainGlobals "_law_digits" = some (some (.ref f21))) (l21 : K.lookup f21 = some ⟨oc21, od21, .func (PySem.W.fnOf "_law_digits" "_law_digits" (defArgs s__law_digits) (defBody s__law_digits) (defScope s__law_digits) .none kV21 dc21 pm21 an21 cd21 ct21), sl21⟩) (c21 : PySem.W.codeIn K cd21 "_law_digits" = true) (k21 : PySem.W.keepIn K (.ref f21) = true)
    (a22 : PySem.W.nsIn K mainGlobals "_law_draw" = some (some (.ref f22))) (l22 : K.lookup f22 = some ⟨oc22, od22, .func (PySem.W.fnOf "_law_draw" "_law_draw" (defArgs s__law_draw) (defBody s__law_draw) (defScope s__law_draw) .none kV22 dc22 pm22 an22 cd22 ct22), sl22⟩) (c22 : PySem.W.codeIn K cd22 "_law_draw" = true) (k22 : PySem.W.keepIn K (.ref f22) = true)
    (a23 : PySem.W.nsIn K mainGlobals "_law_same" = some (some (.ref f23))) (l23 : K.lookup f23 = some ⟨oc23, od23, .func (PySem.W.fnOf "_law_same" "_law_same" (defArgs s__law_same) (defBody s__law_same) (defScope s__law_same) .none kV23 dc23 pm23 an23 cd23 ct23), sl23⟩) (c23 : PySem.W.codeIn K cd23 "_law_same" = true) (k23 : PySem.W.keepIn K (.ref f23) = true)
    (a24 : PySem.W.nsIn K mainGlobals "_law_word" = some (some (.ref f24))) (l24 : K.lookup f24 = some ⟨oc24, od24, .func (PySem.W.fnOf "_law_word" "_law_word" (defArgs s__law_word) (defBody s__law_word) (defScope s__law_word) .none kV24 dc24 pm24 an24 cd24 ct24), sl24⟩) (c24 : PySem.W.codeIn K cd24 "_law_word" = true) (k24 : PySem.W.keepIn K (.ref f24) = true)
    (a25 : PySem.W.nsIn K mainGlobals "_law_pattern" = some (some (.ref f25))) (l25 : K.lookup f25 = some ⟨oc25, od25, .func (PySem.W.fnOf "_law_pattern" "_law_pattern" (defArgs s__law_pattern) (defBody s__law_pattern) (defScope s__law_pattern) .none kV25 dc25 pm25 an25 cd25 ct25), sl25⟩) (c25 : PySem.W.codeIn K cd25 "_law_pattern" = true) (k25 : PySem.W.keepIn K (.ref f25) = true)
    (a26 : PySem.W.nsIn K mainGlobals "_law_question" = some (some (.ref f26))) (l26 : K.lookup f26 = some ⟨oc26, od26, .func (PySem.W.fnOf "_law_question" "_law_question" (defArgs s__law_question) (defBody s__law_question) (defScope s__law_question) .none kV26 dc26 pm26 an26 cd26 ct26), sl26⟩) (c26 : PySem.W.codeIn K cd26 "_law_question" = true) (k26 : PySem.W.keepIn K (.ref f26) = true)
    (a27 : PySem.W.nsIn K mainGlobals "_law_document" = some (some (.ref f27))) (l27 : K.lookup f27 = some ⟨oc27, od27, .func (PySem.W.fnOf "_law_document" "_law_document" (defArgs s__law_document) (defBody s__law_document) (defScope s__law_document) .none kV27 dc27 pm27 an27 cd27 ct27), sl27⟩) (c27 : PySem.W.codeIn K cd27 "_law_document" = true) (k27 : PySem.W.keepIn K (.ref f27) = true)
    (a28 : PySem.W.nsIn K mainGlobals "_law_fits" = some (some (.ref f28))) (l28 : K.lookup f28 = some ⟨oc28, od28, .func (PySem.W.fnOf "_law_fits" "_law_fits" (defArgs s__law_fits) (defBody s__law_fits) (defScope s__law_fits) .none kV28 dc28 pm28 an28 cd28 ct28), sl28⟩) (c28 : PySem.W.codeIn K cd28 "_law_fits" = true) (k28 : PySem.W.keepIn K (.ref f28) = true)
    (a29 : PySem.W.nsIn K mainGlobals "_law_standings" = some (some (.ref f29))) (l29 : K.lookup f29 = some ⟨oc29, od29, .func (PySem.W.fnOf "_law_standings" "_law_standings" (defArgs s__law_standings) (defBody s__law_standings) (defScope s__law_standings) .none kV29 dc29 pm29 an29 cd29 ct29), sl29⟩) (c29 : PySem.W.codeIn K cd29 "_law_standings" = true) (k29 : PySem.W.keepIn K (.ref f29) = true)
    (a30 : PySem.W.nsIn K mainGlobals "_law_spoilt" = some (some (.ref f30))) (l30 : K.lookup f30 = some ⟨oc30, od30, .func (PySem.W.fnOf "_law_spoilt" "_law_spoilt" (defArgs s__law_spoilt) (defBody s__law_spoilt) (defScope s__law_spoilt) .none kV30 dc30 pm30 an30 cd30 ct30), sl30⟩) (c30 : PySem.W.codeIn K cd30 "_law_spoilt" = true) (k30 : PySem.W.keepIn K (.ref f30) = true)
    (a31 : PySem.W.nsIn K mainGlobals "_law_is_standing" = some (some (.ref f31))) (l31 : K.lookup f31 = some ⟨oc31, od31, .func (PySem.W.fnOf "_law_is_standing" "_law_is_standing" (defArgs s__law_is_standing) (defBody s__law_is_standing) (defScope s__law_is_standing) .none kV31 dc31 pm31 an31 cd31 ct31), sl31⟩) (c31 : PySem.W.codeIn K cd31 "_law_is_standing" = true) (k31 : PySem.W.keepIn K (.ref f31) = true)
    (a32 : PySem.W.nsIn K mainGlobals "_law_shown" = some (some (.ref f32))) (l32 : K.lookup f32 = some ⟨oc32, od32, .func (PySem.W.fnOf "_law_shown" "_law_shown" (defArgs s__law_shown) (defBody s__law_shown) (defScope s__law_shown) .none kV32 dc32 pm32 an32 cd32 ct32), sl32⟩) (c32 : PySem.W.codeIn K cd32 "_law_shown" = true) (k32 : PySem.W.keepIn K (.ref f32) = true)
    (a33 : PySem.W.nsIn K mainGlobals "law" = some (some (.ref f33))) (l33 : K.lookup f33 = some ⟨oc33, od33, .func (PySem.W.fnOf "law" "law" (defArgs s_law) (defBody s_law) (defScope s_law) .none kV33 dc33 pm33 an33 cd33 ct33), sl33⟩) (c33 : PySem.W.codeIn K cd33 "law" = true) (k33 : PySem.W.keepIn K (.ref f33) = true)
    {dk0 : Addr} {de0 : Array DictEntry} {dn0 : Nat} (da0 : PySem.W.nsIn K mainGlobals "OPPOSITES" = some (some (.ref dk0))) (dl0 : K.lookup dk0 = some ⟨.type "dict", none, .dict de0 dn0, #[]⟩) (dt0 : PySem.W.KeysLit w.params de0.toList) (dw0 : (dk0 == sysModules) = false) (dv0_0 : ∃ t, PySem.W.nsIn K dk0 "yes" = some (some (.str "no" t))) (dv0_1 : ∃ t, PySem.W.nsIn K dk0 "no" = some (some (.str "yes" t)))
    (z0 : PySem.W.nsIn K mainGlobals "all" = some none)
    (z1 : PySem.W.nsIn K mainGlobals "any" = some none)
    (z2 : PySem.W.nsIn K mainGlobals "bool" = some none)
    (z3 : PySem.W.nsIn K mainGlobals "enumerate" = some none)
    (z4 : PySem.W.nsIn K mainGlobals "int" = some none)
    (z5 : PySem.W.nsIn K mainGlobals "isinstance" = some none)
    (z6 : PySem.W.nsIn K mainGlobals "len" = some none)
    (z7 : PySem.W.nsIn K mainGlobals "list" = some none)
    (z8 : PySem.W.nsIn K mainGlobals "min" = some none)
    (z9 : PySem.W.nsIn K mainGlobals "range" = some none)
    (z10 : PySem.W.nsIn K mainGlobals "sorted" = some none)
    (z11 : PySem.W.nsIn K mainGlobals "str" = some none)
    (z12 : PySem.W.nsIn K mainGlobals "tuple" = some none)
    (z13 : PySem.W.nsIn K mainGlobals "zip" = some none)
    {cG0 pG0 : Addr} (hG0 : cd1 = .ref cG0)
    {cG1 pG1 : Addr} (hG1 : cd2 = .ref cG1)
    {cG2 pG2 : Addr} (hG2 : cd3 = .ref cG2)
    {cG3 pG3 : Addr} (hG3 : cd15 = .ref cG3)
    : ∃ fd : FuncData, (∀ (s : Shared) (v : Value), BindsTo s fd ⟨[v], []⟩ [("script", v)]) ∧ ∀ base : Heap, K.In base → base.Ns mainGlobals mg → (∀ p ∈ [(cG0, pG0), (cG1, pG1), (cG2, pG2), (cG3, pG3)], LamX.TabB base mg p.1 p.2) → FnOk l.prog w K mg base CX0 30 fa fd ["script"] (ySpLawT K ([(cG0, pG0), (cG1, pG1), (cG2, pG2), (cG3, pG3)].map (·.2))) := by
  have e := hfa.symm.trans (PySem.W.mg_of X G a33)
  cases e
  have F0 := fun_mk (st := s_fits) l0 c0 k0
  have F1 := fun_mk (st := s_matches) l1 c1 k1
  have F2 := fun_mk (st := s_holds) l2 c2 k2
  have F3 := fun_mk (st := s_has_standing) l3 c3 k3
  have F4 := fun_mk (st := s_longer_by_one) l4 c4 k4
  have F5 := fun_mk (st := s_begins_standing) l5 c5 k5
  have F6 := fun_mk (st := s_end_behind) l6 c6 k6
  have F7 := fun_mk (st := s_is_number) l7 c7 k7
  have F8 := fun_mk (st := s_evidence_for) l8 c8 k8
  have F9 := fun_mk (st := s_evidence_for_row) l9 c9 k9
  have F10 := fun_mk (st := s_evidence_for_parts) l10 c10 k10
  have F11 := fun_mk (st := s_check_evidence) l11 c11 k11
  have F12 := fun_mk (st := s_is_told) l12 c12 k12
  have F13 := fun_mk (st := s_check_row) l13 c13 k13
  have F14 := fun_mk (st := s_is_standing) l14 c14 k14
  have F15 := fun_mk (st := s_is_rising) l15 c15 k15
  have F16 := fun_mk (st := s_check_not) l16 c16 k16
  have F17 := fun_mk (st := s_check_parts) l17 c17 k17
  have F18 := fun_mk (st := s_is_index) l18 c18 k18
  have F19 := fun_mk (st := s_is_each) l19 c19 k19
  have F20 := fun_mk (st := s__law_cell) l20 c20 k20
  have F21 := fun_mk (st := s__law_digits) l21 c21 k21
  have F22 := fun_mk (st := s__law_draw) l22 c22 k22
  have F23 := fun_mk (st := s__law_same) l23 c23 k23
  have F24 := fun_mk (st := s__law_word) l24 c24 k24
  have F25 := fun_mk (st := s__law_pattern) l25 c25 k25
  have F26 := fun_mk (st := s__law_question) l26 c26 k26
  have F27 := fun_mk (st := s__law_document) l27 c27 k27
  have F28 := fun_mk (st := s__law_fits) l28 c28 k28
  have F29 := fun_mk (st := s__law_standings) l29 c29 k29
  have F30 := fun_mk (st := s__law_spoilt) l30 c30 k30
  have F31 := fun_mk (st := s__law_is_standing) l31 c31 k31
  have F32 := fun_mk (st := s__law_shown) l32 c32 k32
  have F33 := fun_mk (st := s_law) l33 c33 k33
  have b0 := F0.binds (ps := ["word", "pattern"]) fun _ _ _ _ _ _ us hl => match us, hl with | [_, _], _ => rfl
  have b1 := F1.binds (ps := ["document", "question"]) fun _ _ _ _ _ _ us hl => match us, hl with | [_, _], _ => rfl
  have b2 := F2.binds (ps := ["question", "is_met"]) fun _ _ _ _ _ _ us hl => match us, hl with | [_, _], _ => rfl
  have b3 := F3.binds (ps := ["document", "row"]) fun _ _ _ _ _ _ us hl => match us, hl with | [_, _], _ => rfl
  have b4 := F4.binds (ps := ["document", "row", "places"]) fun _ _ _ _ _ _ us hl => match us, hl with | [_, _, _], _ => rfl
  have b5 := F5.binds (ps := ["document", "row", "places"]) fun _ _ _ _ _ _ us hl => match us, hl with | [_, _, _], _ => rfl
  have b6 := F6.binds (ps := ["document", "row", "first"]) fun _ _ _ _ _ _ us hl => match us, hl with | [_, _, _], _ => rfl
  have b7 := F7.binds (ps := ["value"]) fun _ _ _ _ _ _ us hl => match us, hl with | [_], _ => rfl
  have b8 := F8.binds (ps := ["document", "question"]) fun _ _ _ _ _ _ us hl => match us, hl with | [_, _], _ => rfl
  have b9 := F9.binds (ps := ["document", "row"]) fun _ _ _ _ _ _ us hl => match us, hl with | [_, _], _ => rfl
  have b10 := F10.binds (ps := ["document", "question"]) fun _ _ _ _ _ _ us hl => match us, hl with | [_, _], _ => rfl
  have b11 := F11.binds (ps := ["document", "question", "evidence"]) fun _ _ _ _ _ _ us hl => match us, hl with | [_, _, _], _ => rfl
  have b12 := F12.binds (ps := ["evidence", "word", "length"]) fun _ _ _ _ _ _ us hl => match us, hl with | [_, _, _], _ => rfl
  have b13 := F13.binds (ps := ["document", "row", "evidence"]) fun _ _ _ _ _ _ us hl => match us, hl with | [_, _, _], _ => rfl
  have b14 := F14.binds (ps := ["document", "row", "places"]) fun _ _ _ _ _ _ us hl => match us, hl with | [_, _, _], _ => rfl
  have b15 := F15.binds (ps := ["places"]) fun _ _ _ _ _ _ us hl => match us, hl with | [_], _ => rfl
  have b16 := F16.binds (ps := ["document", "question", "evidence"]) fun _ _ _ _ _ _ us hl => match us, hl with | [_, _, _], _ => rfl
  have b17 := F17.binds (ps := ["document", "question", "evidence"]) fun _ _ _ _ _ _ us hl => match us, hl with | [_, _, _], _ => rfl
  have b18 := F18.binds (ps := ["value", "parts"]) fun _ _ _ _ _ _ us hl => match us, hl with | [_, _], _ => rfl
  have b19 := F19.binds (ps := ["document", "parts", "evidences", "shown"]) fun _ _ _ _ _ _ us hl => match us, hl with | [_, _, _, _], _ => rfl
  have b20 := F20.binds (ps := ["script", "k"]) fun _ _ _ _ _ _ us hl => match us, hl with | [_, _], _ => rfl
  have b21 := F21.binds (ps := ["script", "first", "last"]) fun _ _ _ _ _ _ us hl => match us, hl with | [_, _, _], _ => rfl
  have b22 := F22.binds (ps := ["box", "many"]) fun _ _ _ _ _ _ us hl => match us, hl with | [_, _], _ => rfl
  have b23 := F23.binds (ps := ["actual", "due"]) fun _ _ _ _ _ _ us hl => match us, hl with | [_, _], _ => rfl
  have b24 := F24.binds (ps := ["box"]) fun _ _ _ _ _ _ us hl => match us, hl with | [_], _ => rfl
  have b25 := F25.binds (ps := ["box"]) fun _ _ _ _ _ _ us hl => match us, hl with | [_], _ => rfl
  have b26 := F26.binds (ps := ["box", "depth", "simple"]) fun _ _ _ _ _ _ us hl => match us, hl with | [_, _, _], _ => rfl
  have b27 := F27.binds (ps := ["box", "most"]) fun _ _ _ _ _ _ us hl => match us, hl with | [_, _], _ => rfl
  have b28 := F28.binds (ps := ["word", "pattern"]) fun _ _ _ _ _ _ us hl => match us, hl with | [_, _], _ => rfl
  have b29 := F29.binds (ps := ["document", "row"]) fun _ _ _ _ _ _ us hl => match us, hl with | [_, _], _ => rfl
  have b30 := F30.binds (ps := ["box", "evidence"]) fun _ _ _ _ _ _ us hl => match us, hl with | [_, _], _ => rfl
  have b31 := F31.binds (ps := ["document", "row", "places"]) fun _ _ _ _ _ _ us hl => match us, hl with | [_, _, _], _ => rfl
  have b32 := F32.binds (ps := ["document", "question", "evidence"]) fun _ _ _ _ _ _ us hl => match us, hl with | [_, _, _], _ => rfl
  have b33 := F33.binds (ps := ["script"]) fun _ _ _ _ _ _ us hl => match us, hl with | [_], _ => rfl
  let AA : Nat → Addr := fun i => match i with | 0 => f0 | 1 => f1 | 2 => f2 | 3 => f3 | 4 => f4 | 5 => f5 | 6 => f6 | 7 => f7 | 8 => f8 | 9 => f9 | 10 => f10 | 11 => f11 | 12 => f12 | 13 => f13 | 14 => f14 | 15 => f15 | 16 => f16 | 17 => f17 | 18 => f18 | 19 => f19 | 20 => f20 | 21 => f21 | 22 => f22 | 23 => f23 | 24 => f24 | 25 => f25 | 26 => f26 | 27 => f27 | 28 => f28 | 29 => f29 | 30 => f30 | 31 => f31 | 32 => f32 | 33 => fa | _ => fa
  let DD : Nat → FuncData := fun i => match i with | 0 => PySem.W.fnOf "fits" "fits" (defArgs s_fits) (defBody s_fits) (defScope s_fits) .none kV0 dc0 pm0 an0 cd0 ct0 | 1 => PySem.W.fnOf "matches" "matches" (defArgs s_matches) (defBody s_matches) (defScope s_matches) .none kV1 dc1 pm1 an1 cd1 ct1 | 2 => PySem.W.fnOf "holds" "holds" (defArgs s_holds) (defBody s_holds) (defScope s_holds) .none kV2 dc2 pm2 an2 cd2 ct2 | 3 => PySem.W.fnOf "has_standing" "has_standing" (defArgs s_has_standing) (defBody s_has_standing) (defScope s_has_standing) .none kV3 dc3 pm3 an3 cd3 ct3 | 4 => PySem.W.fnOf "longer_by_one" "longer_by_one" (defArgs s_longer_by_one) (defBody s_longer_by_one) (defScope s_longer_by_one) .none kV4 dc4 pm4 an4 cd4 ct4 | 5 => PySem.W.fnOf "begins_standing" "begins_standing" (defArgs s_begins_standing) (defBody s_begins_standing) (defScope s_begins_standing) .none kV5 dc5 pm5 an5 cd5 ct5 | 6 => PySem.W.fnOf "end_behind" "end_behind" (defArgs s_end_behind) (defBody s_end_behind) (defScope s_end_behind) .none kV6 dc6 pm6 an6 cd6 ct6 | 7 => PySem.W.fnOf "is_number" "is_number" (defArgs s_is_number) (defBody s_is_number) (defScope s_is_number) .none kV7 dc7 pm7 an7 cd7 ct7 | 8 => PySem.W.fnOf "evidence_for" "evidence_for" (defArgs s_evidence_for) (defBody s_evidence_for) (defScope s_evidence_for) .none kV8 dc8 pm8 an8 cd8 ct8 | 9 => PySem.W.fnOf "evidence_for_row" "evidence_for_row" (defArgs s_evidence_for_row) (defBody s_evidence_for_row) (defScope s_evidence_for_row) .none kV9 dc9 pm9 an9 cd9 ct9 | 10 => PySem.W.fnOf "evidence_for_parts" "evidence_for_parts" (defArgs s_evidence_for_parts) (defBody s_evidence_for_parts) (defScope s_evidence_for_parts) .none kV10 dc10 pm10 an10 cd10 ct10 | 11 => PySem.W.fnOf "check_evidence" "check_evidence" (defArgs s_check_evidence) (defBody s_check_evidence) (defScope s_check_evidence) .none kV11 dc11 pm11 an11 cd11 ct11 | 12 => PySem.W.fnOf "is_told" "is_told" (defArgs s_is_told) (defBody s_is_told) (defScope s_is_told) .none kV12 dc12 pm12 an12 cd12 ct12 | 13 => PySem.W.fnOf "check_row" "check_row" (defArgs s_check_row) (defBody s_check_row) (defScope s_check_row) .none kV13 dc13 pm13 an13 cd13 ct13 | 14 => PySem.W.fnOf "is_standing" "is_standing" (defArgs s_is_standing) (defBody s_is_standing) (defScope s_is_standing) .none kV14 dc14 pm14 an14 cd14 ct14 | 15 => PySem.W.fnOf "is_rising" "is_rising" (defArgs s_is_rising) (defBody s_is_rising) (defScope s_is_rising) .none kV15 dc15 pm15 an15 cd15 ct15 | 16 => PySem.W.fnOf "check_not" "check_not" (defArgs s_check_not) (defBody s_check_not) (defScope s_check_not) .none kV16 dc16 pm16 an16 cd16 ct16 | 17 => PySem.W.fnOf "check_parts" "check_parts" (defArgs s_check_parts) (defBody s_check_parts) (defScope s_check_parts) .none kV17 dc17 pm17 an17 cd17 ct17 | 18 => PySem.W.fnOf "is_index" "is_index" (defArgs s_is_index) (defBody s_is_index) (defScope s_is_index) .none kV18 dc18 pm18 an18 cd18 ct18 | 19 => PySem.W.fnOf "is_each" "is_each" (defArgs s_is_each) (defBody s_is_each) (defScope s_is_each) .none kV19 dc19 pm19 an19 cd19 ct19 | 20 => PySem.W.fnOf "_law_cell" "_law_cell" (defArgs s__law_cell) (defBody s__law_cell) (defScope s__law_cell) .none kV20 dc20 pm20 an20 cd20 ct20 | 21 => PySem.W.fnOf "_law_digits" "_law_digits" (defArgs s__law_digits) (defBody s__law_digits) (defScope s__law_digits) .none kV21 dc21 pm21 an21 cd21 ct21 | 22 => PySem.W.fnOf "_law_draw" "_law_draw" (defArgs s__law_draw) (defBody s__law_draw) (defScope s__law_draw) .none kV22 dc22 pm22 an22 cd22 ct22 | 23 => PySem.W.fnOf "_law_same" "_law_same" (defArgs s__law_same) (defBody s__law_same) (defScope s__law_same) .none kV23 dc23 pm23 an23 cd23 ct23 | 24 => PySem.W.fnOf "_law_word" "_law_word" (defArgs s__law_word) (defBody s__law_word) (defScope s__law_word) .none kV24 dc24 pm24 an24 cd24 ct24 | 25 => PySem.W.fnOf "_law_pattern" "_law_pattern" (defArgs s__law_pattern) (defBody s__law_pattern) (defScope s__law_pattern) .none kV25 dc25 pm25 an25 cd25 ct25 | 26 => PySem.W.fnOf "_law_question" "_law_question" (defArgs s__law_question) (defBody s__law_question) (defScope s__law_question) .none kV26 dc26 pm26 an26 cd26 ct26 | 27 => PySem.W.fnOf "_law_document" "_law_document" (defArgs s__law_document) (defBody s__law_document) (defScope s__law_document) .none kV27 dc27 pm27 an27 cd27 ct27 | 28 => PySem.W.fnOf "_law_fits" "_law_fits" (defArgs s__law_fits) (defBody s__law_fits) (defScope s__law_fits) .none kV28 dc28 pm28 an28 cd28 ct28 | 29 => PySem.W.fnOf "_law_standings" "_law_standings" (defArgs s__law_standings) (defBody s__law_standings) (defScope s__law_standings) .none kV29 dc29 pm29 an29 cd29 ct29 | 30 => PySem.W.fnOf "_law_spoilt" "_law_spoilt" (defArgs s__law_spoilt) (defBody s__law_spoilt) (defScope s__law_spoilt) .none kV30 dc30 pm30 an30 cd30 ct30 | 31 => PySem.W.fnOf "_law_is_standing" "_law_is_standing" (defArgs s__law_is_standing) (defBody s__law_is_standing) (defScope s__law_is_standing) .none kV31 dc31 pm31 an31 cd31 ct31 | 32 => PySem.W.fnOf "_law_shown" "_law_shown" (defArgs s__law_shown) (defBody s__law_shown) (defScope s__law_shown) .none kV32 dc32 pm32 an32 cd32 ct32 | 33 => PySem.W.fnOf "law" "law" (defArgs s_law) (defBody s_law) (defScope s_law) .none kV33 dc33 pm33 an33 cd33 ct33 | _ => PySem.W.fnOf "law" "law" (defArgs s_law) (defBody s_law) (defScope s_law) .none kV33 dc33 pm33 an33 cd33 ct33
  have T : Txt K mg AA DD := { F_fits := F0, b_fits := b0, m_fits := PySem.W.mg_of X G a0, F_matches := F1, b_matches := b1, m_matches := PySem.W.mg_of X G a1, F_holds := F2, b_holds := b2, m_holds := PySem.W.mg_of X G a2, F_has_standing := F3, b_has_standing := b3, m_has_standing := PySem.W.mg_of X G a3, F_longer_by_one := F4, b_longer_by_one := b4, m_longer_by_one := PySem.W.mg_of X G a4, F_begins_standing := F5, b_begins_standing := b5, m_begins_standing := PySem.W.mg_of X G a5, F_end_behind := F6, b_end_behind := b6, m_end_behind := PySem.W.mg_of X G a6, F_is_number := F7, b_is_number := b7, m_is_number := PySem.W.mg_of X G a7, F_evidence_for := F8, b_evidence_for := b8, m_evidence_for := PySem.W.mg_of X G a8, F_evidence_for_row := F9, b_evidence_for_row := b9, m_evidence_for_row := PySem.W.mg_of X G a9, F_evidence_for_parts := F10, b_evidence_for_parts := b10, m_evidence_for_parts := PySem.W.mg_of X G a10, F_check_evidence := F11, b_check_evidence := b11, m_check_evidence := PySem.W.mg_of X G a11, F_is_told := F12, b_is_told := b12, m_is_told := PySem.W.mg_of X G a12, F_check_row := F13, b_check_row := b13, m_check_row := PySem.W.mg_of X G a13, F_is_standing := F14, b_is_standing := b14, m_is_standing := PySem.W.mg_of X G a14, F_is_rising := F15, b_is_rising := b15, m_is_rising := PySem.W.mg_of X G a15, F_check_not := F16, b_check_not := b16, m_check_not := PySem.W.mg_of X G a16, F_check_parts := F17, b_check_parts := b17, m_check_parts := PySem.W.mg_of X G a17, F_is_index := F18, b_is_index := b18, m_is_index := PySem.W.mg_of X G a18, F_is_each := F19, b_is_each := b19, m_is_each := PySem.W.mg_of X G a19, F__law_cell := F20, b__law_cell := b20, m__law_cell := PySem.W.mg_of X G a20, F__law_digits := F21, b__law_digits := b21, m__law_digits := PySem.W.mg_of X G a21, F__law_draw := F22, b__law_draw := b22, m__law_draw := PySem.W.mg_of X G a22, F__law_same := F23, b__law_same := b23, m__law_same := PySem.W.mg_of X G a23, F__law_word := F24, b__law_word := b24, m__law_word := PySem.W.mg_of X G a24, F__law_pattern := F25, b__law_pattern := b25, m__law_pattern := PySem.W.mg_of X G a25, F__law_question := F26, b__law_question := b26, m__law_question := PySem.W.mg_of X G a26, F__law_document := F27, b__law_document := b27, m__law_document := PySem.W.mg_of X G a27, F__law_fits := F28, b__law_fits := b28, m__law_fits := PySem.W.mg_of X G a28, F__law_standings := F29, b__law_standings := b29, m__law_standings := PySem.W.mg_of X G a29, F__law_spoilt := F30, b__law_spoilt := b30, m__law_spoilt := PySem.W.mg_of X G a30, F__law_is_standing := F31, b__law_is_standing := b31, m__law_is_standing := PySem.W.mg_of X G a31, F__law_shown := F32, b__law_shown := b32, m__law_shown := PySem.W.mg_of X G a32, F_law := F33, b_law := b33, m_law := PySem.W.mg_of X G a33, z_all := PySem.W.mg_none_of X G z0, z_any := PySem.W.mg_none_of X G z1, z_bool := PySem.W.mg_none_of X G z2, z_enumerate := PySem.W.mg_none_of X G z3, z_int := PySem.W.mg_none_of X G z4, z_isinstance := PySem.W.mg_none_of X G z5, z_len := PySem.W.mg_none_of X G z6, z_list := PySem.W.mg_none_of X G z7, z_min := PySem.W.mg_none_of X G z8, z_range := PySem.W.mg_none_of X G z9, z_sorted := PySem.W.mg_none_of X G z10, z_str := PySem.W.mg_none_of X G z11, z_tuple := PySem.W.mg_none_of X G z12, z_zip := PySem.W.mg_none_of X G z13 }
  exact ⟨DD 33, fun s v => .of_eq rfl, fun base _ _ TB => ok_law (A := AA) (D := DD) T ⟨dk0, de0, dn0, PySem.W.mg_of X G da0, dl0, dt0, dw0, dv0_0, dv0_1⟩ ⟨cG0, hG0, TB (cG0, pG0) (.head _)⟩ ⟨cG1, hG1, TB (cG1, pG1) (.tail _ (.head _))⟩ ⟨cG2, hG2, TB (cG2, pG2) (.tail _ (.tail _ (.head _)))⟩ ⟨cG3, hG3, TB (cG3, pG3) (.tail _ (.tail _ (.tail _ (.head _))))⟩⟩
theorem walk {l : PySem.W.OpenLaw} {q : Program} {loose : List Str} {XP : (Str → Option Value) → Heap → Prop} {YP : World → Heap → Prop} {d : DefRec} {K : Params → PySem.W.Frag} (cs : List (Addr × Addr)) (hnd : (cs.map (·.2)).Nodup) (hn : l.most = some 63) (hdf : d.params.defaults = [])
    (hY : ∀ (w : World) (h : Heap), YP w h → (K w.params).In h) (hT : ∀ (w : World) (h : Heap), YP w h → ∀ p ∈ cs, h.get? p.2 = some { cls := .none, data := .fields #[] }) (nT : ∀ w : World, ∀ p ∈ cs, (K w.params).lookup p.2 = none) (cT : ∀ w : World, ∀ p ∈ cs, PySem.W.codeHdIn (K w.params) p.1 p.2 = true)
    (F : ∀ (w : World) (mg : Str → Option Value) (fa : Addr) (h : Heap), (K w.params).In h → h.Ns mainGlobals mg → mg d.name = some (.ref fa) →
      ∃ fd : FuncData, (∀ (s : Shared) (u : Value), BindsTo s fd ⟨[u], []⟩ [("script", u)]) ∧ ∀ base : Heap, (K w.params).In base → base.Ns mainGlobals mg → (∀ p ∈ cs, LamX.TabB base mg p.1 p.2) → FnOk l.prog w (K w.params) mg base CX0 30 fa fd ["script"] (ySpLawT (K w.params) (cs.map (·.2)))) :
    PySem.W.WalkO q loose XP YP l.row.toRowW d [] (fun f vs => PySem.call f vs) := by
  refine LamX.walk_ofTs (n := 63) (k := 30) (x := "script") (CX := fun _ => CX0) hn (by decide) hdf ⟨rfl, by decide, by decide⟩ hY (fun w mg fa h Y KX G hm => ?_) fun _ _ _ _ _ z => z
  obtain ⟨fd, hb, hF⟩ := F w mg fa h KX G hm
  exact ⟨fd, cs, ySpLawT (K w.params) (cs.map (·.2)), hT w h Y, nT w, fun p hp => PySem.W.codeHd_of_K KX (cT w p hp), hb, fun H a ns hl _ hH hS => ⟨hnd, fun P hP => by obtain ⟨p, hp, e⟩ := List.mem_map.mp hP; rw [← e]; exact hH p hp, a, ns, rfl, hS, hl, fun _ => rfl⟩, hF⟩
end Z
open PySem PySem.W PyProof.Rows
set_option maxRecDepth 100000 in
set_option maxHeartbeats 0 in
theorem PySem.Challenge.cw_timeshelf_k12_evidence_is_checked_holds : PySem.Challenge.rw_timeshelf_k12_evidence_is_checked.Holds := by
  w_on; o_law; k_head; (case hw => w_witness2)
  k_fill
  refine Z.walk (l := PySem.Challenge.rw_timeshelf_k12_evidence_is_checked) [(27, 23), (34, 30), (41, 37), (118, 116)] (by decide) rfl rfl (fun w h Y => PySem.W.km_in_of Y) (fun w h Y p hp => PySem.W.km_tabs_of Y _ (List.mem_map_of_mem (f := Prod.snd) hp)) (fun w => (Z.fa_cons ?nT0 (Z.fa_cons ?nT1 (Z.fa_cons ?nT2 (Z.fa_cons ?nT3 Z.fa_nil))))) (fun w => (Z.fa_cons ?cT0 (Z.fa_cons ?cT1 (Z.fa_cons ?cT2 (Z.fa_cons ?cT3 Z.fa_nil))))) ?F
  (case nT0 => first | k_is | rfl | kernel_rfl)
  (case nT1 => first | k_is | rfl | kernel_rfl)
  (case nT2 => first | k_is | rfl | kernel_rfl)
  (case nT3 => first | k_is | rfl | kernel_rfl)
  (case cT0 => first | k_is | rfl | kernel_rfl)
  (case cT1 => first | k_is | rfl | kernel_rfl)
  (case cT2 => first | k_is | rfl | kernel_rfl)
  (case cT3 => first | k_is | rfl | kernel_rfl)
  case F =>
    intro w mg fa h KX G hmg
    refine' Z.all_mk (cG0 := 27) (pG0 := 23) (cG1 := 34) (pG1 := 30) (cG2 := 41) (pG2 := 37) (cG3 := 118) (pG3 := 116) KX G hmg ?a0 ?l0 ?c0 ?k0 ?a1 ?l1 ?c1 ?k1 ?a2 ?l2 ?c2 ?k2 ?a3 ?l3 ?c3 ?k3 ?a4 ?l4 ?c4 ?k4 ?a5 ?l5 ?c5 ?k5 ?a6 ?l6 ?c6 ?k6 ?a7 ?l7 ?c7 ?k7 ?a8 ?l8 ?c8 ?k8 ?a9 ?l9 ?c9 ?k9 ?a10 ?l10 ?c10 ?k10 ?a11 ?l11 ?c11 ?k11 ?a12 ?l12 ?c12 ?k12 ?a13 ?l13 ?c13 ?k13 ?a14 ?l14 ?c14 ?k14 ?a15 ?l15 ?c15 ?k15 ?a16 ?l16 ?c16 ?k16 ?a17 ?l17 ?c17 ?k17 ?a18 ?l18 ?c18 ?k18 ?a19 ?l19 ?c19 ?k19 ?a20 ?l20 ?c20 ?k20 ?a21 ?l21 ?c21 ?k21 ?a22 ?l22 ?c22 ?k22 ?a23 ?l23 ?c23 ?k23 ?a24 ?l24 ?c24 ?k24 ?a25 ?l25 ?c25 ?k25 ?a26 ?l26 ?c26 ?k26 ?a27 ?l27 ?c27 ?k27 ?a28 ?l28 ?c28 ?k28 ?a29 ?l29 ?c29 ?k29 ?a30 ?l30 ?c30 ?k30 ?a31 ?l31 ?c31 ?k31 ?a32 ?l32 ?c32 ?k32 ?a33 ?l33 ?c33 ?k33 ?da0 ?dl0 ?dt0 ?dw0 ?dv0_0 ?dv0_1 ?z0 ?z1 ?z2 ?z3 ?z4 ?z5 ?z6 ?z7 ?z8 ?z9 ?z10 ?z11 ?z12 ?z13 ?hG0 ?hG1 ?hG2 ?hG3
    (case a0 => first | k_is | rfl | decide +kernel)
    (case l0 => first | k_is | rfl | decide +kernel)
    (case c0 => first | k_is | rfl | decide +kernel)
    (case k0 => first | k_is | rfl | decide +kernel)
    (case a1 => first | k_is | rfl | decide +kernel)
    (case l1 => first | k_is | rfl | decide +kernel)
    (case c1 => first | k_is | rfl | decide +kernel)
    (case k1 => first | k_is | rfl | decide +kernel)
    (case a2 => first | k_is | rfl | decide +kernel)
    (case l2 => first | k_is | rfl | decide +kernel)
    (case c2 => first | k_is | rfl | decide +kernel)
    (case k2 => first | k_is | rfl | decide +kernel)
    (case a3 => first | k_is | rfl | decide +kernel)
    (case l3 => first | k_is | rfl | decide +kernel)
    (case c3 => first | k_is | rfl | decide +kernel)
    (case k3 => first | k_is | rfl | decide +kernel)
    (case a4 => first | k_is | rfl | decide +kernel)
    (case l4 => first | k_is | rfl | decide +kernel)
    (case c4 => first | k_is | rfl | decide +kernel)
    (case k4 => first | k_is | rfl | decide +kernel)
    (case a5 => first | k_is | rfl | decide +kernel)
    (case l5 => first | k_is | rfl | decide +kernel)
    (case c5 => first | k_is | rfl | decide +kernel)
    (case k5 => first | k_is | rfl | decide +kernel)
    (case a6 => first | k_is | rfl | decide +kernel)
    (case l6 => first | k_is | rfl | decide +kernel)
    (case c6 => first | k_is | rfl | decide +kernel)
    (case k6 => first | k_is | rfl | decide +kernel)
    (case a7 => first | k_is | rfl | decide +kernel)
    (case l7 => first | k_is | rfl | decide +kernel)
    (case c7 => first | k_is | rfl | decide +kernel)
    (case k7 => first | k_is | rfl | decide +kernel)
    (case a8 => first | k_is | rfl | decide +kernel)
    (case l8 => first | k_is | rfl | decide +kernel)
    (case c8 => first | k_is | rfl | decide +kernel)
    (case k8 => first | k_is | rfl | decide +kernel)
    (case a9 => first | k_is | rfl | decide +kernel)
    (case l9 => first | k_is | rfl | decide +kernel)
    (case c9 => first | k_is | rfl | decide +kernel)
    (case k9 => first | k_is | rfl | decide +kernel)
    (case a10 => first | k_is | rfl | decide +kernel)
    (case l10 => first | k_is | rfl | decide +kernel)
    (case c10 => first | k_is | rfl | decide +kernel)
    (case k10 => first | k_is | rfl | decide +kernel)
    (case a11 => first | k_is | rfl | decide +kernel)
    (case l11 => first | k_is | rfl | decide +kernel)
    (case c11 => first | k_is | rfl | decide +kernel)
    (case k11 => first | k_is | rfl | decide +kernel)
    (case a12 => first | k_is | rfl | decide +kernel)
    (case l12 => first | k_is | rfl | decide +kernel)
    (case c12 => first | k_is | rfl | decide +kernel)
    (case k12 => first | k_is | rfl | decide +kernel)
    (case a13 => first | k_is | rfl | decide +kernel)
    (case l13 => first | k_is | rfl | decide +kernel)
    (case c13 => first | k_is | rfl | decide +kernel)
    (case k13 => first | k_is | rfl | decide +kernel)
    (case a14 => first | k_is | rfl | decide +kernel)
    (case l14 => first | k_is | rfl | decide +kernel)
    (case c14 => first | k_is | rfl | decide +kernel)
    (case k14 => first | k_is | rfl | decide +kernel)
    (case a15 => first | k_is | rfl | decide +kernel)
    (case l15 => first | k_is | rfl | decide +kernel)
    (case c15 => first | k_is | rfl | decide +kernel)
    (case k15 => first | k_is | rfl | decide +kernel)
    (case a16 => first | k_is | rfl | decide +kernel)
    (case l16 => first | k_is | rfl | decide +kernel)
    (case c16 => first | k_is | rfl | decide +kernel)
    (case k16 => first | k_is | rfl | decide +kernel)
    (case a17 => first | k_is | rfl | decide +kernel)
    (case l17 => first | k_is | rfl | decide +kernel)
    (case c17 => first | k_is | rfl | decide +kernel)
    (case k17 => first | k_is | rfl | decide +kernel)
    (case a18 => first | k_is | rfl | decide +kernel)
    (case l18 => first | k_is | rfl | decide +kernel)
    (case c18 => first | k_is | rfl | decide +kernel)
    (case k18 => first | k_is | rfl | decide +kernel)
    (case a19 => first | k_is | rfl | decide +kernel)
    (case l19 => first | k_is | rfl | decide +kernel)
    (case c19 => first | k_is | rfl | decide +kernel)
    (case k19 => first | k_is | rfl | decide +kernel)
    (case a20 => first | k_is | rfl | decide +kernel)
    (case l20 => first | k_is | rfl | decide +kernel)
    (case c20 => first | k_is | rfl | decide +kernel)
    (case k20 => first | k_is | rfl | decide +kernel)
    (case a21 => first | k_is | rfl | decide +kernel)
    (case l21 => first | k_is | rfl | decide +kernel)
    (case c21 => first | k_is | rfl | decide +kernel)
    (case k21 => first | k_is | rfl | decide +kernel)
    (case a22 => first | k_is | rfl | decide +kernel)
    (case l22 => first | k_is | rfl | decide +kernel)
    (case c22 => first | k_is | rfl | decide +kernel)
    (case k22 => first | k_is | rfl | decide +kernel)
    (case a23 => first | k_is | rfl | decide +kernel)
    (case l23 => first | k_is | rfl | decide +kernel)
    (case c23 => first | k_is | rfl | decide +kernel)
    (case k23 => first | k_is | rfl | decide +kernel)
    (case a24 => first | k_is | rfl | decide +kernel)
    (case l24 => first | k_is | rfl | decide +kernel)
    (case c24 => first | k_is | rfl | decide +kernel)
    (case k24 => first | k_is | rfl | decide +kernel)
    (case a25 => first | k_is | rfl | decide +kernel)
    (case l25 => first | k_is | rfl | decide +kernel)
    (case c25 => first | k_is | rfl | decide +kernel)
    (case k25 => first | k_is | rfl | decide +kernel)
    (case a26 => first | k_is | rfl | decide +kernel)
    (case l26 => first | k_is | rfl | decide +kernel)
    (case c26 => first | k_is | rfl | decide +kernel)
    (case k26 => first | k_is | rfl | decide +kernel)
    (case a27 => first | k_is | rfl | decide +kernel)
    (case l27 => first | k_is | rfl | decide +kernel)
    (case c27 => first | k_is | rfl | decide +kernel)
    (case k27 => first | k_is | rfl | decide +kernel)
    (case a28 => first | k_is | rfl | decide +kernel)
    (case l28 => first | k_is | rfl | decide +kernel)
    (case c28 => first | k_is | rfl | decide +kernel)
    (case k28 => first | k_is | rfl | decide +kernel)
    (case a29 => first | k_is | rfl | decide +kernel)
    (case l29 => first | k_is | rfl | decide +kernel)
    (case c29 => first | k_is | rfl | decide +kernel)
    (case k29 => first | k_is | rfl | decide +kernel)
    (case a30 => first | k_is | rfl | decide +kernel)
    (case l30 => first | k_is | rfl | decide +kernel)
    (case c30 => first | k_is | rfl | decide +kernel)
    (case k30 => first | k_is | rfl | decide +kernel)
    (case a31 => first | k_is | rfl | decide +kernel)
    (case l31 => first | k_is | rfl | decide +kernel)
    (case c31 => first | k_is | rfl | decide +kernel)
    (case k31 => first | k_is | rfl | decide +kernel)
    (case a32 => first | k_is | rfl | decide +kernel)
    (case l32 => first | k_is | rfl | decide +kernel)
    (case c32 => first | k_is | rfl | decide +kernel)
    (case k32 => first | k_is | rfl | decide +kernel)
    (case a33 => first | k_is | rfl | decide +kernel)
    (case l33 => first | k_is | rfl | decide +kernel)
    (case c33 => first | k_is | rfl | decide +kernel)
    (case k33 => first | k_is | rfl | decide +kernel)
    (case da0 => first | k_is | rfl | decide +kernel)
    (case dl0 => first | k_is | rfl | decide +kernel)
    (case dt0 => repeat (first | exact True.intro | refine ⟨⟨_, _, rfl, rfl⟩, ?_⟩))
    (case dw0 => first | k_is | rfl | decide +kernel)
    (case dv0_0 => first | exact ⟨_, by k_is⟩ | exact ⟨_, rfl⟩)
    (case dv0_1 => first | exact ⟨_, by k_is⟩ | exact ⟨_, rfl⟩)
    (case z0 => first | k_is | rfl | decide +kernel)
    (case z1 => first | k_is | rfl | decide +kernel)
    (case z2 => first | k_is | rfl | decide +kernel)
    (case z3 => first | k_is | rfl | decide +kernel)
    (case z4 => first | k_is | rfl | decide +kernel)
    (case z5 => first | k_is | rfl | decide +kernel)
    (case z6 => first | k_is | rfl | decide +kernel)
    (case z7 => first | k_is | rfl | decide +kernel)
    (case z8 => first | k_is | rfl | decide +kernel)
    (case z9 => first | k_is | rfl | decide +kernel)
    (case z10 => first | k_is | rfl | decide +kernel)
    (case z11 => first | k_is | rfl | decide +kernel)
    (case z12 => first | k_is | rfl | decide +kernel)
    (case z13 => first | k_is | rfl | decide +kernel)
    (case hG0 => first | rfl | k_is)
    (case hG1 => first | rfl | k_is)
    (case hG2 => first | rfl | k_is)
    (case hG3 => first | rfl | k_is)
