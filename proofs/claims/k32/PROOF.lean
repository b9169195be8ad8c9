import PyProof.Rows.All
import Wide.All
import OpenK.AllK
import Wide.FinOn
import HandS.Lambda
import HandS.ForExc
import KE.SortData
import KE.KNestM
import HandS.ExcInit
import HandS.ExcField
import HandS.AnyAll
import HandS.GenList
import HandS.EndTab
import HandS.Nested
import HandS.Comp
import HandS.Iter
import HandS.Text
import HandS.IsInst
import HandS.Walk
import HandS.TupAny
import HandS.TupMul
import PySem.Challenge.RW_timeshelf_k32_what_needs_all
set_option Elab.async false
set_option linter.all false
set_option maxRecDepth 100000
set_option maxHeartbeats 2000000
local macro_rules
  | `(tactic| o_head (kmHook $k9 $a9 $e9 $t9)) => `(tactic| o_head (PySem.W.kmHook $k9 $a9 $e9 [23, 30, 37]))
namespace Z
open PySem L2
def top (i : Nat) : Stmt := PySem.Challenge.pw_timeshelf_k32_what_needs_all.main.body.getD i (.Pass ⟨0, 0, 0, 0⟩)
abbrev s_fits : Stmt := top 1
abbrev N_fits : List Str := ["word", "pattern", "kind", "told"]
theorem sc_fits : FnScope ["word", "pattern", "kind", "told"] ["word", "pattern"] (defScope s_fits) := ⟨rfl, rfl, rfl, by decide +kernel, rfl, by decide +kernel, by decide +kernel⟩
abbrev s_matches : Stmt := top 2
abbrev N_matches : List Str := ["document", "question"]
theorem sc_matches : FnScope ["document", "question"] ["document", "question"] (defScope s_matches) := ⟨rfl, rfl, rfl, by decide +kernel, rfl, by decide +kernel, by decide +kernel⟩
abbrev s_holds : Stmt := top 3
abbrev N_holds : List Str := ["question", "is_met", "part", "kind"]
theorem sc_holds : FnScope ["question", "is_met", "part", "kind"] ["question", "is_met"] (defScope s_holds) := ⟨rfl, rfl, rfl, by decide +kernel, rfl, by decide +kernel, by decide +kernel⟩
abbrev s_has_standing : Stmt := top 4
abbrev N_has_standing : List Str := ["document", "row", "place"]
theorem sc_has_standing : FnScope ["document", "row", "place"] ["document", "row"] (defScope s_has_standing) := ⟨rfl, rfl, rfl, by decide +kernel, rfl, by decide +kernel, by decide +kernel⟩
abbrev s_begins_standing : Stmt := top 5
abbrev N_begins_standing : List Str := ["document", "row", "places", "waiting", "behind", "taken", "word"]
theorem sc_begins_standing : FnScope ["document", "row", "places", "waiting", "behind", "taken", "word"] ["document", "row", "places"] (defScope s_begins_standing) := ⟨rfl, rfl, rfl, by decide +kernel, rfl, by decide +kernel, by decide +kernel⟩
abbrev s_end_behind : Stmt := top 6
abbrev N_end_behind : List Str := ["document", "row", "first", "_", "patterns", "gap"]
theorem sc_end_behind : FnScope ["document", "row", "first", "_", "patterns", "gap"] ["document", "row", "first"] (defScope s_end_behind) := ⟨rfl, rfl, rfl, by decide +kernel, rfl, by decide +kernel, by decide +kernel⟩
abbrev s_needs_all : Stmt := top 8
abbrev N_needs_all : List Str := ["question"]
theorem sc_needs_all : FnScope ["question"] ["question"] (defScope s_needs_all) := ⟨rfl, rfl, rfl, by decide +kernel, rfl, by decide +kernel, by decide +kernel⟩
abbrev s__law_cell : Stmt := top 10
abbrev N__law_cell : List Str := ["script", "k"]
theorem sc__law_cell : FnScope ["script", "k"] ["script", "k"] (defScope s__law_cell) := ⟨rfl, rfl, rfl, by decide +kernel, rfl, by decide +kernel, by decide +kernel⟩
abbrev s__law_digits : Stmt := top 11
abbrev N__law_digits : List Str := ["cell", "k", "most", "digits", "turn", "seed"]
theorem sc__law_digits : FnScope ["cell", "k", "most", "digits", "turn", "seed"] ["cell", "k", "most"] (defScope s__law_digits) := ⟨rfl, rfl, rfl, by decide +kernel, rfl, by decide +kernel, by decide +kernel⟩
abbrev s__law_padded : Stmt := top 12
abbrev N__law_padded : List Str := ["cell", "k", "d", "turn"]
theorem sc__law_padded : FnScope ["cell", "k", "d", "turn"] ["cell", "k"] (defScope s__law_padded) := ⟨rfl, rfl, rfl, by decide +kernel, rfl, by decide +kernel, by decide +kernel⟩
abbrev s__law_pattern : Stmt := top 13
abbrev N__law_pattern : List Str := ["digit", "words"]
theorem sc__law_pattern : FnScope ["digit", "words"] ["digit"] (defScope s__law_pattern) := ⟨rfl, rfl, rfl, by decide +kernel, rfl, by decide +kernel, by decide +kernel⟩
abbrev s__law_row : Stmt := top 14
abbrev N__law_row : List Str := ["d", "j", "patterns"]
theorem sc__law_row : FnScope ["d", "j", "patterns"] ["d"] (defScope s__law_row) := ⟨rfl, rfl, rfl, by decide +kernel, rfl, by decide +kernel, by decide +kernel⟩
abbrev s__law_question : Stmt := top 15
abbrev N__law_question : List Str := ["script", "k", "d", "one", "other", "kind"]
theorem sc__law_question : FnScope ["script", "k", "d", "one", "other", "kind"] ["script", "k"] (defScope s__law_question) := ⟨rfl, rfl, rfl, by decide +kernel, rfl, by decide +kernel, by decide +kernel⟩
abbrev s__law_empty : Stmt := top 16
abbrev N__law_empty : List Str := ["question", "part", "told"]
theorem sc__law_empty : FnScope ["question", "part", "told"] ["question"] (defScope s__law_empty) := ⟨rfl, rfl, rfl, by decide +kernel, rfl, by decide +kernel, by decide +kernel⟩
abbrev s_law : Stmt := top 17
abbrev N_law : List Str := ["script", "k", "question"]
theorem sc_law : FnScope ["script", "k", "question"] ["script"] (defScope s_law) := ⟨rfl, rfl, rfl, by decide +kernel, rfl, by decide +kernel, by decide +kernel⟩
structure Txt (K : PySem.W.Frag) (mg : Str → Option Value) (A : Nat → Addr) (D : Nat → FuncData) : Prop where
  F_fits : Fun K "fits" "fits" s_fits (A 0) (D 0)
  b_fits : Binds K (D 0) ["word", "pattern"] []
  m_fits : mg "fits" = some (.ref (A 0))
  F_matches : Fun K "matches" "matches" s_matches (A 1) (D 1)
  b_matches : Binds K (D 1) ["document", "question"] []
  m_matches : mg "matches" = some (.ref (A 1))
  F_holds : Fun K "holds" "holds" s_holds (A 2) (D 2)
  b_holds : Binds K (D 2) ["question", "is_met"] []
  m_holds : mg "holds" = some (.ref (A 2))
  F_has_standing : Fun K "has_standing" "has_standing" s_has_standing (A 3) (D 3)
  b_has_standing : Binds K (D 3) ["document", "row"] []
  m_has_standing : mg "has_standing" = some (.ref (A 3))
  F_begins_standing : Fun K "begins_standing" "begins_standing" s_begins_standing (A 4) (D 4)
  b_begins_standing : Binds K (D 4) ["document", "row", "places"] []
  m_begins_standing : mg "begins_standing" = some (.ref (A 4))
  F_end_behind : Fun K "end_behind" "end_behind" s_end_behind (A 5) (D 5)
  b_end_behind : Binds K (D 5) ["document", "row", "first"] []
  m_end_behind : mg "end_behind" = some (.ref (A 5))
  F_needs_all : Fun K "needs_all" "needs_all" s_needs_all (A 6) (D 6)
  b_needs_all : Binds K (D 6) ["question"] []
  m_needs_all : mg "needs_all" = some (.ref (A 6))
  F__law_cell : Fun K "_law_cell" "_law_cell" s__law_cell (A 7) (D 7)
  b__law_cell : Binds K (D 7) ["script", "k"] []
  m__law_cell : mg "_law_cell" = some (.ref (A 7))
  F__law_digits : Fun K "_law_digits" "_law_digits" s__law_digits (A 8) (D 8)
  b__law_digits : Binds K (D 8) ["cell", "k", "most"] []
  m__law_digits : mg "_law_digits" = some (.ref (A 8))
  F__law_padded : Fun K "_law_padded" "_law_padded" s__law_padded (A 9) (D 9)
  b__law_padded : Binds K (D 9) ["cell", "k"] []
  m__law_padded : mg "_law_padded" = some (.ref (A 9))
  F__law_pattern : Fun K "_law_pattern" "_law_pattern" s__law_pattern (A 10) (D 10)
  b__law_pattern : Binds K (D 10) ["digit"] []
  m__law_pattern : mg "_law_pattern" = some (.ref (A 10))
  F__law_row : Fun K "_law_row" "_law_row" s__law_row (A 11) (D 11)
  b__law_row : Binds K (D 11) ["d"] []
  m__law_row : mg "_law_row" = some (.ref (A 11))
  F__law_question : Fun K "_law_question" "_law_question" s__law_question (A 12) (D 12)
  b__law_question : Binds K (D 12) ["script", "k"] []
  m__law_question : mg "_law_question" = some (.ref (A 12))
  F__law_empty : Fun K "_law_empty" "_law_empty" s__law_empty (A 13) (D 13)
  b__law_empty : Binds K (D 13) ["question"] []
  m__law_empty : mg "_law_empty" = some (.ref (A 13))
  F_law : Fun K "law" "law" s_law (A 14) (D 14)
  b_law : Binds K (D 14) ["script"] []
  m_law : mg "law" = some (.ref (A 14))
  z_all : mg "all" = none
  z_any : mg "any" = none
  z_int : mg "int" = none
  z_len : mg "len" = none
  z_min : mg "min" = none
  z_range : mg "range" = none
  z_tuple : mg "tuple" = none

/-! ### what all laws share: cells, digits, draws -/
theorem same_upd {H H' : Hp} {p : Addr} {o : HO} (h : Same H H') (hp : H p = none) : Same H (upd H' p o) := fun b u q => by
  rw [upd_ne (ne_of_none q hp)]; exact h b u q
theorem same_new {H : Hp} {p : Addr} {o : HO} (h : H p = none) : Same H (upd H p o) := same_upd (Same.refl H) h
def yCell (K : PySem.W.Frag) : Sp := fun vs H Q _ => ∃ (l : Addr) (ns : List Int) (k : Nat), vs = [.ref l, .int (k : Int)] ∧ SqL K H l (ns.map V.int) ∧ ∀ z : Int, Q (.int z) H
theorem at_ints {ns : List Int} {k : Nat} (h : k < ns.length) : atI (ns.map V.int) (k : Int) = some (.int (ns.getD k 0)) := by
  apply atI_nat
  rw [List.getElem?_map, List.getElem?_eq_getElem h, List.getD_eq_getElem?_getD, List.getElem?_eq_getElem h]
  rfl
section
variable {P : Program} {w : World} {K : PySem.W.Frag} {mg : Str → Option Value} {base : Heap} {A : Nat → Addr} {D : Nat → FuncData}
theorem ok_cell (T : Txt K mg A D) : FnOk P w K mg base CX0 1 (A 7) (D 7) ["script", "k"] (yCell K) := by
  refine T.F__law_cell.ok sc__law_cell (fun vs H Q E h => ?_) (fun cdv A' outer s H vs Q E hr h => ?_)
  · obtain ⟨l, ns, k, rfl, _⟩ := h; rfl
  obtain ⟨l, ns, k, rfl, hS, q⟩ := h
  refine ⟨_, (pss_cons (ps_if (pt_cmpR op_lt (pv 1) (pe_callB call_len_seq rfl T.z_len PySem.boot_len (pa_cons (pv 0) pa_nil)) (nomark _)) (pss_one (ps_ret (pe_ix (r := rIxL K) ix_list (pv 0) (pv 1) (fun _ _ => rfl)))) pss_nil) (pss_one (ps_ret pe_int))), ?_⟩
  refine ⟨_, rfl, _, rfl, l, _, rfl, .inl hS, _, _, rfl, rfl, _, rfl, ?_⟩
  refine ite2 (fun c => ?_) (fun c => ?_)
  · have c' : (k : Int) < (((ns.map V.int).length : Nat) : Int) := of_decide_eq_true c
    rw [List.length_map] at c'
    exact ⟨_, rfl, _, rfl, l, _, _, _, rfl, rfl, hS, at_ints (by omega), q _⟩
  · exact q 0
def yDigits (K : PySem.W.Frag) : Sp := fun vs H Q _ => ∃ (l : Addr) (ns : List Int), vs = [.ref l, .int 0, .int 63] ∧ SqL K H l (ns.map V.int) ∧
  ∀ (p : Addr) (ds : List Int) (H' : Hp), Same H H' → H p = none → H' p = some (.lst (ds.map V.int)) → ds.length ≤ 3780 → Q (.ref p) H'
theorem len_lt {n : Nat} (h : n ≤ 1000000) : n < sizeLine := Nat.lt_of_le_of_lt h (by decide)
theorem app_map {ds : List Int} {z : Int} : ds.map V.int ++ [V.int z] = (ds ++ [z]).map V.int := by rw [List.map_append]; rfl
end


/-- all but the object at b stand as before -/
def Kp (b : Addr) (H H' : Hp) : Prop := ∀ c o, H c = some o → c ≠ b → H' c = some o
theorem Kp.refl (b : Addr) (H : Hp) : Kp b H H := fun _ _ h _ => h
theorem Kp.trans {b : Addr} {H H1 H2 : Hp} (a : Kp b H H1) (c : Kp b H1 H2) : Kp b H H2 := fun x o h n => c x o (a x o h n) n
theorem Kp.upd {b : Addr} {H H' : Hp} {o : HO} (a : Kp b H H') : Kp b H (upd H' b o) := fun x u h n => by rw [upd_ne n]; exact a x u h n
theorem Kp.of {b : Addr} {H H' : Hp} (a : Same H H') : Kp b H H' := fun x o h _ => a x o h
/-- the box of draws: its digits at p, the place -/
def BoxAt (H : Hp) (b p : Addr) : Prop := ∃ (ns : List Int) (n : Nat), H b = some (.lst [.ref p, .int (n : Int)]) ∧ H p = some (.lst (ns.map V.int))
theorem BoxAt.keep {H H' : Hp} {b p : Addr} (h : BoxAt H b p) (k : Same H H') : BoxAt H' b p := by
  obtain ⟨ns, n, h1, h2⟩ := h
  exact ⟨ns, n, k _ _ h1, k _ _ h2⟩
theorem BoxAt.ne {H : Hp} {b p d : Addr} (h : BoxAt H b p) (hd : H d = none) : d ≠ b ∧ d ≠ p := by
  obtain ⟨ns, n, h1, h2⟩ := h
  exact ⟨fun e => (by rw [e, h1] at hd; cases hd), fun e => (by rw [e, h2] at hd; cases hd)⟩
theorem BoxAt.updO {H : Hp} {b p d : Addr} {o : HO} (h : BoxAt H b p) (n1 : d ≠ b) (n2 : d ≠ p) : BoxAt (upd H d o) b p := by
  obtain ⟨ns, n, h1, h2⟩ := h
  exact ⟨ns, n, by rw [upd_ne n1.symm]; exact h1, by rw [upd_ne n2.symm]; exact h2⟩
/-- tuples stand as before -/
def TK (H H' : Hp) : Prop := ∀ c u, (∃ xs, u = .tup xs) → Rd H c u → Rd H' c u
theorem TK.refl (H : Hp) : TK H H := fun _ _ _ h => h
theorem TK.trans {H H1 H2 : Hp} (a : TK H H1) (b : TK H1 H2) : TK H H2 := fun c u h r => b c u h (a c u h r)
theorem TK.same {H H' : Hp} (a : Same H H') : TK H H' := fun c u _ r => by
  rcases r with r | ⟨o, r⟩
  · exact .inl (a _ _ r)
  · exact .inr ⟨o, a _ _ r⟩
theorem TK.kp {b : Addr} {H H' : Hp} {xs : List V} (a : Kp b H H') (h : H b = some (.lst xs)) : TK H H' := fun c u ⟨ys, e⟩ r => by
  subst e
  have hn : c ≠ b := fun z => by subst z; rcases r with r | ⟨o, r⟩ <;> (rw [h] at r; cases r)
  rcases r with r | ⟨o, r⟩
  · exact .inl (a _ _ r hn)
  · exact .inr ⟨o, a _ _ r hn⟩
theorem TK.box {b p : Addr} {H H' : Hp} (h : BoxAt H b p) (a : Kp b H H') : TK H H' := by
  obtain ⟨ns, n, h1, h2⟩ := h
  exact TK.kp a h1
theorem TK.updL {H H' : Hp} {b : Addr} {xs ys : List V} (a : TK H H') (h : H' b = some (.lst xs)) : TK H (upd H' b (.lst ys)) :=
  a.trans (TK.kp (Kp.upd (Kp.refl b H')) h)
theorem TK.new {H H' : Hp} {b : Addr} {o : HO} (a : TK H H') (h : H' b = none) : TK H (upd H' b o) := a.trans (TK.same (same_new h))
theorem TK.seq {K : PySem.W.Frag} {H H' : Hp} (k : TK H H') {a : Addr} {xs : List V} (h : SqT K H a xs) : SqT K H' a xs := by
  rcases h with h | h
  · exact .inl (k _ _ ⟨_, rfl⟩ h)
  · exact .inr h
/-- data without lists -/
inductive Imm : PyData → Prop
  | non : Imm .none
  | bl (b : Bool) : Imm (.bool b)
  | int (i : Int) : Imm (.int i)
  | str (x : Str) : Imm (.str x)
  | tup {ds : List PyData} : (∀ d ∈ ds, Imm d) → Imm (.tuple ds)
mutual
theorem Dp.keep {K : PySem.W.Frag} {H H' : Hp} (k : TK H H') : ∀ {v : V} {d : PyData}, Dp K H v d → Imm d → Dp K H' v d
  | _, _, .non, _ => .non
  | _, _, .bl b, _ => .bl b
  | _, _, .int i, _ => .int i
  | _, _, .str x, _ => .str x
  | _, _, .lst h a, i => nomatch i
  | _, _, .tup h a, i => .tup (k.seq h) (DpAll.keep k a (match i with | .tup j => j))
theorem DpAll.keep {K : PySem.W.Frag} {H H' : Hp} (k : TK H H') : ∀ {vs : List V} {ds : List PyData}, DpAll K H vs ds → (∀ d ∈ ds, Imm d) → DpAll K H' vs ds
  | _, _, .nil, _ => .nil
  | _, _, .cons a b, i => .cons (Dp.keep k a (i _ List.mem_cons_self)) (DpAll.keep k b fun d hd => i d (List.mem_cons_of_mem _ hd))
end
mutual
theorem Dp.same {K : PySem.W.Frag} {H H' : Hp} (k : Same H H') : ∀ {v : V} {d : PyData}, Dp K H v d → Dp K H' v d
  | _, _, .non => .non
  | _, _, .bl b => .bl b
  | _, _, .int i => .int i
  | _, _, .str x => .str x
  | _, _, .lst h a => .lst (k.seq h) (DpAll.same k a)
  | _, _, .tup h a => .tup ((TK.same k).seq h) (DpAll.same k a)
theorem DpAll.same {K : PySem.W.Frag} {H H' : Hp} (k : Same H H') : ∀ {vs : List V} {ds : List PyData}, DpAll K H vs ds → DpAll K H' vs ds
  | _, _, .nil => .nil
  | _, _, .cons a b => .cons (Dp.same k a) (DpAll.same k b)
end
theorem DpAll.len {K : PySem.W.Frag} {H : Hp} : ∀ {vs : List V} {ds : List PyData}, DpAll K H vs ds → vs.length = ds.length
  | _, _, .nil => rfl
  | _, _, .cons a b => by rw [List.length_cons, List.length_cons, DpAll.len b]
theorem DpAll.get {K : PySem.W.Frag} {H : Hp} : ∀ {vs : List V} {ds : List PyData}, DpAll K H vs ds → ∀ {i : Nat} {d : PyData}, ds[i]? = some d → ∃ v, vs[i]? = some v ∧ Dp K H v d
  | _, _, .nil, i, d, h => by simp at h
  | _, _, .cons a b, 0, d, h => by
    have e := Option.some.inj h
    subst e
    exact ⟨_, rfl, a⟩
  | _, _, .cons a b, i + 1, d, h => DpAll.get b (i := i) (by simpa using h)
theorem DpAll.app {K : PySem.W.Frag} {H : Hp} : ∀ {vs ws : List V} {ds es : List PyData}, DpAll K H vs ds → DpAll K H ws es → DpAll K H (vs ++ ws) (ds ++ es)
  | _, _, _, _, .nil, h => h
  | _, _, _, _, .cons a b, h => .cons a (DpAll.app b h)
theorem DpAll.ints {K : PySem.W.Frag} {H : Hp} : ∀ (ns : List Int), DpAll K H (ns.map V.int) (ns.map PyData.int)
  | [] => .nil
  | n :: r => .cons (.int n) (DpAll.ints r)
theorem DpAll.strs {K : PySem.W.Frag} {H : Hp} : ∀ (ns : List Str), DpAll K H (ns.map V.str) (ns.map PyData.str)
  | [] => .nil
  | n :: r => .cons (.str n) (DpAll.strs r)
/-- depth below n, lists not too long -/
def Fits : Nat → PyData → Prop
  | 0, _ => False
  | n + 1, .list xs => xs.length < 2 ^ 60 ∧ ∀ x ∈ xs, Fits n x
  | n + 1, .tuple xs => xs.length < 2 ^ 60 ∧ ∀ x ∈ xs, Fits n x
  | _ + 1, .dict _ => False
  | _ + 1, _ => True
theorem ty_l {K : PySem.W.Frag} {H : Hp} {a : Addr} {xs : List V} (h : SqL K H a xs) : TyX K H (.ref a) (.type "list") := by
  rcases h with (h | ⟨o, h⟩) | ⟨o, its, n, h1, h2, _⟩
  · exact .base (.lst h)
  · exact .base (.frz h)
  · exact .kList h1 h2
theorem ty_t {K : PySem.W.Frag} {H : Hp} {a : Addr} {xs : List V} (h : SqT K H a xs) : TyX K H (.ref a) (.type "tuple") := by
  rcases h with (h | ⟨o, h⟩) | ⟨o, its, n, h1, h2, _⟩
  · exact .base (.tup h)
  · exact .fTuple h
  · exact .kTuple h1 h2
/-- the two are the same data: True -/
def ySame (K : PySem.W.Frag) (n : Nat) : Sp := fun vs H Q _ => ∃ (x y : V) (d : PyData), vs = [x, y] ∧ Dp K H x d ∧ Dp K H y d ∧ Fits n d ∧ Q (.bl true) H
def yDraw (K : PySem.W.Frag) : Sp := fun vs H Q _ => ∃ (b p : Addr) (m : Int), vs = [.ref b, .int m] ∧ BoxAt H b p ∧ 0 < m ∧
  ∀ (r : Int) (H' : Hp), 0 ≤ r → r < m → BoxAt H' b p → Kp b H H' → Q (.int r) H'
section
variable {P : Program} {w : World} {K : PySem.W.Frag} {mg : Str → Option Value} {base : Heap} {A : Nat → Addr} {D : Nat → FuncData}
end


theorem take_succ_map {α β : Type} {f : α → β} {l : List α} {i : Nat} {x : α} (h : l[i]? = some x) : (l.take i).map f ++ [f x] = (l.take (i + 1)).map f := by
  rw [List.take_add_one, h, List.map_append]; rfl
theorem take_all {α : Type} {l : List α} {n : Nat} (h : l.length ≤ n) : l.take n = l := List.take_of_length_le h


/-! ### a list of immutable data that grows -/
def LAt (K : PySem.W.Frag) (H : Hp) (d : Addr) (ds : List PyData) : Prop := ∃ vs, H d = some (.lst vs) ∧ DpAll K H vs ds ∧ ∀ x ∈ ds, Imm x
theorem LAt.tk {K : PySem.W.Frag} {H H' : Hp} {d : Addr} {ds : List PyData} (h : LAt K H d ds) (k : TK H H') (e : ∀ o, H d = some o → H' d = some o) : LAt K H' d ds := by
  obtain ⟨vs, h1, h2, h3⟩ := h
  exact ⟨vs, e _ h1, DpAll.keep k h2 h3, h3⟩
theorem LAt.same {K : PySem.W.Frag} {H H' : Hp} {d : Addr} {ds : List PyData} (h : LAt K H d ds) (k : Same H H') : LAt K H' d ds := h.tk (TK.same k) fun o => k _ o
theorem LAt.kp {K : PySem.W.Frag} {H H' : Hp} {b p d : Addr} {ds : List PyData} (h : LAt K H d ds) (B : BoxAt H b p) (k : Kp b H H') (n : d ≠ b) : LAt K H' d ds := h.tk (TK.box B k) fun o e => k _ o e n
theorem LAt.push {K : PySem.W.Frag} {H : Hp} {d : Addr} {ds : List PyData} {vs : List V} {v : V} {x : PyData} (h1 : H d = some (.lst vs)) (h2 : DpAll K H vs ds) (h3 : ∀ x ∈ ds, Imm x) (hv : Dp K H v x) (hx : Imm x) : LAt K (upd H d (.lst (vs ++ [v]))) d (ds ++ [x]) := by
  have k : TK H (upd H d (.lst (vs ++ [v]))) := TK.updL (TK.refl H) h1
  have h4 : ∀ y ∈ ds ++ [x], Imm y := fun y hy => by
    rcases List.mem_append.mp hy with hy | hy
    · exact h3 y hy
    · rw [List.mem_singleton.mp hy]; exact hx
  exact ⟨_, upd_same, DpAll.keep k (DpAll.app h2 (.cons hv .nil)) h4, h4⟩
theorem LAt.nil {K : PySem.W.Frag} {H : Hp} {d : Addr} (h : H d = some (.lst [])) : LAt K H d [] := ⟨[], h, .nil, fun x hx => nomatch hx⟩


def encT (t : Str × Str) : PyData := .tuple [.str t.1, .str t.2]
theorem imm_encT (t : Str × Str) : Imm (encT t) := .tup fun d hd => by
  rcases List.mem_cons.mp hd with rfl | hd
  · exact .str _
  · rw [List.mem_singleton.mp hd]; exact .str _


/-! ### data of questions and documents -/
theorem slA_use {K : PySem.W.Frag} {H : Hp} {Q : VK} {a : Addr} {xs : List V} {lo hi : Option Int} (hx : SqT K H a xs) (h : ∀ p H', Same H H' → SqT K H' p (cutV xs lo hi) → Q (.ref p) H') : rSlA K (.ref a) lo hi H Q := by
  refine ⟨a, xs, rfl, hx, fun hw => ?_, fun _ p hp => h p _ (same_new hp) (SqT.of upd_same)⟩
  have e : cutV xs lo hi = xs := by
    unfold cutV
    rw [hw.1, hw.2, List.drop_zero, Nat.sub_zero, List.take_length]
  exact h a H (Same.refl H) (by rw [e]; exact hx)
theorem catA_use {K : PySem.W.Frag} {H : Hp} {Q : VK} {a b : Addr} {xs ys : List V} (ha : SqT K H a xs) (hb : SqT K H b ys) (hz : xs.length + ys.length ≤ sizeLine) (h : ∀ p H', Same H H' → SqT K H' p (xs ++ ys) → Q (.ref p) H') : rCatA K (.ref a) (.ref b) H Q := by
  refine ⟨a, b, xs, ys, rfl, rfl, ha, hb, hz, fun e => h b H (Same.refl H) (by rw [e]; exact hb), fun _ e => h a H (Same.refl H) (by rw [e, List.append_nil]; exact ha), fun _ _ p hp => h p _ (same_new hp) (SqT.of upd_same)⟩
theorem sIx_n (n d k : Nat) : HT.sIx n d (some (k : Int)) = min k n := HT.sIx_nat n d k
theorem cutV_from (xs : List V) (k : Nat) : cutV xs (some (k : Int)) none = xs.drop k := by
  unfold cutV
  rw [sIx_n, HT.sIx_none]
  by_cases h : k ≤ xs.length
  · rw [Nat.min_eq_left h]
    exact List.take_of_length_le (by rw [List.length_drop]; omega)
  · rw [List.drop_eq_nil_of_le (by omega), List.drop_eq_nil_of_le (by omega), List.take_nil]
theorem cutV_mid (xs : List V) (a b : Nat) : cutV xs (some (a : Int)) (some (b : Int)) = (xs.drop a).take (b - a) := by
  unfold cutV
  rw [sIx_n, sIx_n]
  by_cases h : a ≤ xs.length
  · rw [Nat.min_eq_left h]
    exact List.take_eq_take_iff.mpr (by rw [List.length_drop]; omega)
  · rw [List.drop_eq_nil_of_le (by omega), List.drop_eq_nil_of_le (by omega), List.take_nil, List.take_nil]
abbrev Pat := Str × Str
def encPs (ps : List Pat) : PyData := .tuple (ps.map encT)
def encRow (ps : List Pat) (gap : Nat) : PyData := .tuple [.str "row", encPs ps, .int (gap : Int)]
def encD (ws : List Str) : PyData := .tuple (ws.map .str)
def encW (pl : List Nat) : PyData := .tuple (pl.map fun (n : Nat) => .int (n : Int))
theorem imm_ts (ps : List Pat) : ∀ d ∈ ps.map encT, Imm d := fun d hd => by
  obtain ⟨p, _, rfl⟩ := List.mem_map.mp hd; exact imm_encT p
theorem imm_encW (pl : List Nat) : Imm (encW pl) := .tup fun d hd => by
  obtain ⟨n, _, rfl⟩ := List.mem_map.mp hd; exact .int _
theorem imm_encD (ws : List Str) : Imm (encD ws) := .tup fun d hd => by
  obtain ⟨n, _, rfl⟩ := List.mem_map.mp hd; exact .str _
theorem imm_encPs (ps : List Pat) : Imm (encPs ps) := .tup (imm_ts ps)
theorem imm_encRow (ps : List Pat) (gap : Nat) : Imm (encRow ps gap) := .tup fun d hd => by
  rcases List.mem_cons.mp hd with rfl | hd
  · exact .str _
  · rcases List.mem_cons.mp hd with rfl | hd
    · exact imm_encPs ps
    · rw [List.mem_singleton.mp hd]; exact .int _
theorem Dp.tupI {K : PySem.W.Frag} {H : Hp} {v : V} {ds : List PyData} (h : Dp K H v (.tuple ds)) : ∃ a xs, v = .ref a ∧ SqT K H a xs ∧ DpAll K H xs ds := by
  cases h with
  | tup h1 h2 => exact ⟨_, _, rfl, h1, h2⟩
theorem Dp.strI {K : PySem.W.Frag} {H : Hp} {v : V} {z : Str} (h : Dp K H v (.str z)) : v = .str z := by cases h; rfl
theorem Dp.intI {K : PySem.W.Frag} {H : Hp} {v : V} {z : Int} (h : Dp K H v (.int z)) : v = .int z := by cases h; rfl
theorem DpAll.consI {K : PySem.W.Frag} {H : Hp} {vs : List V} {d : PyData} {ds : List PyData} (h : DpAll K H vs (d :: ds)) : ∃ v r, vs = v :: r ∧ Dp K H v d ∧ DpAll K H r ds := by
  cases h with
  | cons a b => exact ⟨_, _, rfl, a, b⟩
theorem DpAll.nilI {K : PySem.W.Frag} {H : Hp} {vs : List V} (h : DpAll K H vs []) : vs = [] := by cases h; rfl
theorem DpAll.strsI {K : PySem.W.Frag} {H : Hp} : ∀ {vs : List V} {ss : List Str}, DpAll K H vs (ss.map PyData.str) → vs = ss.map V.str
  | _, [], h => DpAll.nilI h
  | _, s :: r, h => by
    obtain ⟨v, t, rfl, h1, h2⟩ := DpAll.consI h
    rw [Dp.strI h1, DpAll.strsI h2]; rfl
theorem DpAll.natsI {K : PySem.W.Frag} {H : Hp} : ∀ {vs : List V} {ss : List Nat}, DpAll K H vs (ss.map fun (n : Nat) => PyData.int (n : Int)) → vs = ss.map fun (n : Nat) => V.int (n : Int)
  | _, [], h => DpAll.nilI h
  | _, s :: r, h => by
    obtain ⟨v, t, rfl, h1, h2⟩ := DpAll.consI h
    rw [Dp.intI h1, DpAll.natsI h2]; rfl
theorem DpAll.nats {K : PySem.W.Frag} {H : Hp} : ∀ (ss : List Nat), DpAll K H (ss.map fun (n : Nat) => V.int (n : Int)) (ss.map fun (n : Nat) => PyData.int (n : Int))
  | [] => .nil
  | n :: r => .cons (.int _) (DpAll.nats r)
theorem dp_encT {K : PySem.W.Frag} {H : Hp} {v : V} {p : Pat} (h : Dp K H v (encT p)) : ∃ q, v = .ref q ∧ SqT K H q [.str p.1, .str p.2] := by
  obtain ⟨a, xs, rfl, h1, h2⟩ := Dp.tupI h
  obtain ⟨x, r, rfl, h3, h4⟩ := DpAll.consI h2
  obtain ⟨y, r2, rfl, h5, h6⟩ := DpAll.consI h4
  rw [Dp.strI h3, Dp.strI h5, DpAll.nilI h6] at h1
  exact ⟨a, rfl, h1⟩
theorem dp_encD {K : PySem.W.Frag} {H : Hp} {v : V} {ws : List Str} (h : Dp K H v (encD ws)) : ∃ q, v = .ref q ∧ SqT K H q (ws.map V.str) := by
  obtain ⟨a, xs, rfl, h1, h2⟩ := Dp.tupI h
  rw [DpAll.strsI h2] at h1
  exact ⟨a, rfl, h1⟩
theorem dp_encW {K : PySem.W.Frag} {H : Hp} {v : V} {pl : List Nat} (h : Dp K H v (encW pl)) : ∃ q, v = .ref q ∧ SqT K H q (pl.map fun (n : Nat) => V.int (n : Int)) := by
  obtain ⟨a, xs, rfl, h1, h2⟩ := Dp.tupI h
  rw [DpAll.natsI h2] at h1
  exact ⟨a, rfl, h1⟩
theorem mk_encW {K : PySem.W.Frag} {H : Hp} {q : Addr} {pl : List Nat} (h : SqT K H q (pl.map fun (n : Nat) => V.int (n : Int))) : Dp K H (.ref q) (encW pl) := .tup h (DpAll.nats pl)
theorem dp_encRow {K : PySem.W.Frag} {H : Hp} {v : V} {ps : List Pat} {gap : Nat} (h : Dp K H v (encRow ps gap)) : ∃ q pa pxs, v = .ref q ∧ SqT K H q [.str "row", .ref pa, .int (gap : Int)] ∧ SqT K H pa pxs ∧ DpAll K H pxs (ps.map encT) := by
  obtain ⟨a, xs, rfl, h1, h2⟩ := Dp.tupI h
  obtain ⟨x, r, rfl, h3, h4⟩ := DpAll.consI h2
  obtain ⟨y, r2, rfl, h5, h6⟩ := DpAll.consI h4
  obtain ⟨z, r3, rfl, h7, h8⟩ := DpAll.consI h6
  obtain ⟨pa, pxs, rfl, h9, h10⟩ := Dp.tupI h5
  rw [Dp.strI h3, Dp.intI h7, DpAll.nilI h8] at h1
  exact ⟨a, pa, pxs, rfl, h1, h9, h10⟩
def fitsB (w : Str) (p : Pat) : Bool := if p.1 = "start" then Txt.startswith w p.2 else decide (w = p.2)
/-- how many of the patterns are taken, one behind the other -/
def tstep (ps : List Pat) (t : Nat) (w : Str) : Nat := if t < ps.length ∧ fitsB w (ps.getD t ("", "")) = true then t + 1 else t
def taken (ps : List Pat) (ws : List Str) : Nat := ws.foldl (tstep ps) 0
def endB (L n gap f : Nat) : Nat := min (f + n + gap) L
def beginsB (ws : List Str) (ps : List Pat) (gap : Nat) (pl : List Nat) : Bool :=
  fitsB (ws.getD (pl.getLastD 0) "") (ps.getD (pl.length - 1) ("", "")) && decide (taken (ps.drop (pl.length - 1)) ((ws.drop (pl.getLastD 0)).take (endB ws.length ps.length gap (pl.headD 0) - pl.getLastD 0)) = (ps.drop (pl.length - 1)).length)
def yFits (K : PySem.W.Frag) : Sp := fun vs H Q _ => ∃ (w : Str) (v : V) (p : Pat), vs = [.str w, v] ∧ Dp K H v (encT p) ∧ Q (.bl (fitsB w p)) H
def yEndB (K : PySem.W.Frag) : Sp := fun vs H Q _ => ∃ (vd vr : V) (ws : List Str) (ps : List Pat) (gap f : Nat), vs = [vd, vr, .int (f : Int)] ∧ Dp K H vd (encD ws) ∧ Dp K H vr (encRow ps gap) ∧ Q (.int ((endB ws.length ps.length gap f : Nat) : Int)) H
def yBegins (K : PySem.W.Frag) : Sp := fun vs H Q _ => ∃ (vd vr vp : V) (ws : List Str) (ps : List Pat) (gap : Nat) (pl : List Nat), vs = [vd, vr, vp] ∧ Dp K H vd (encD ws) ∧ Dp K H vr (encRow ps gap) ∧ Dp K H vp (encW pl) ∧
  pl ≠ [] ∧ pl.length ≤ ps.length ∧ pl.getLastD 0 < endB ws.length ps.length gap (pl.headD 0) ∧ ∀ H', Same H H' → Q (.bl (beginsB ws ps gap pl)) H'


section
variable {P : Program} {w : World} {K : PySem.W.Frag} {mg : Str → Option Value} {base : Heap} {A : Nat → Addr} {D : Nat → FuncData}
theorem ok_fits (T : Txt K mg A D) : FnOk P w K mg base CX0 1 (A 0) (D 0) ["word", "pattern"] (yFits K) := by
  refine T.F_fits.ok sc_fits (fun vs H Q E h => ?_) (fun cdv A' outer s H vs Q E hr h => ?_)
  · obtain ⟨w, v, p, rfl, _⟩ := h; rfl
  obtain ⟨w, v, p, rfl, hd, q⟩ := h
  have hnd := sc_fits.nd
  obtain ⟨a, rfl, ha⟩ := dp_encT hd
  refine ⟨_, (pss_cons (ps_asg (pv 1) (pg_tup rfl (pgs_cons (pg_name (i := 2) hnd rfl (Or.inl rfl)) (pgs_cons (pg_name (i := 3) hnd rfl (Or.inl rfl)) pgs_nil)))) (pss_cons (ps_if (pt_cmpR op_eq (pv 2) pe_str (nomark _)) (pss_one (ps_ret (pe_m1 PySem.F.slot_str_startswith PySem.F.type_str_startswith mt_startswith (pv 0) (pv 3)))) pss_nil) (pss_one (ps_ret (pe_cmpR op_eq (pv 0) (pv 3) (nomark _)))))), ?_⟩
  refine ⟨_, rfl, a, _, rfl, ha, rfl, _, _, rfl, _, _, rfl, rfl, ?_⟩
  refine ⟨_, rfl, rfl, _, rfl, ?_⟩
  refine ite2 (fun c => ?_) (fun c => ?_)
  · have c' : p.1 = "start" := by
      have := of_decide_eq_true c
      injection this
    refine ⟨_, rfl, ⟨_, rfl⟩, _, rfl, _, _, rfl, rfl, ?_⟩
    unfold fitsB at q
    rw [if_pos c'] at q
    exact q
  · have c' : ¬ p.1 = "start" := fun e => c (decide_eq_true (congrArg V.str e))
    refine ⟨_, rfl, _, rfl, rfl, ?_⟩
    unfold fitsB at q
    rw [if_neg c'] at q
    by_cases e : w = p.2
    · rw [decide_eq_true e] at q
      rw [decide_eq_true (congrArg V.str e)]
      exact q
    · rw [decide_eq_false e] at q
      rw [decide_eq_false (fun h => e (V.str.inj h))]
      exact q
theorem ok_end_behind (T : Txt K mg A D) : FnOk P w K mg base CX0 1 (A 5) (D 5) ["document", "row", "first"] (yEndB K) := by
  refine T.F_end_behind.ok sc_end_behind (fun vs H Q E h => ?_) (fun cdv A' outer s H vs Q E hr h => ?_)
  · obtain ⟨vd, vr, ws, ps, gap, f, rfl, _⟩ := h; rfl
  obtain ⟨vd, vr, ws, ps, gap, f, rfl, hd, hrw, q⟩ := h
  have hnd := sc_end_behind.nd
  obtain ⟨ad, rfl, had⟩ := dp_encD hd
  obtain ⟨ar, pa, pxs, rfl, har, hpa, hpx⟩ := dp_encRow hrw
  refine ⟨_, (pss_cons (ps_asg (pv 1) (pg_tup rfl (pgs_cons (pg_name (i := 3) hnd rfl (Or.inl rfl)) (pgs_cons (pg_name (i := 4) hnd rfl (Or.inl rfl)) (pgs_cons (pg_name (i := 5) hnd rfl (Or.inl rfl)) pgs_nil))))) (pss_one (ps_ret (pe_callB (call_min2 rfl) rfl T.z_min (by decide +kernel) (pa_cons (pe_op op_add (pe_op op_add (pv 2) (pe_callB call_len_seq rfl T.z_len PySem.boot_len (pa_cons (pv 4) pa_nil))) (pv 5)) (pa_cons (pe_callB call_len_seq rfl T.z_len PySem.boot_len (pa_cons (pv 0) pa_nil)) pa_nil)))))), ?_⟩
  refine ⟨_, rfl, ar, _, rfl, har, rfl, _, _, rfl, _, _, rfl, _, _, rfl, rfl, ?_⟩
  refine ⟨_, rfl, _, rfl, pa, _, rfl, .inr hpa, _, _, rfl, rfl, _, rfl, _, _, rfl, rfl, _, rfl, ad, _, rfl, .inr had, _, _, rfl, ?_⟩
  have hl : pxs.length = ps.length := by rw [DpAll.len hpx, List.length_map]
  have e : (if ((ws.map V.str).length : Int) < (f : Int) + (pxs.length : Int) + (gap : Int) then ((ws.map V.str).length : Int) else (f : Int) + (pxs.length : Int) + (gap : Int)) = ((endB ws.length ps.length gap f : Nat) : Int) := by
    unfold endB
    rw [List.length_map, hl]
    split <;> omega
  rw [← e] at q
  exact q
theorem ok_begins_standing (T : Txt K mg A D) : FnOk P w K mg base CX0 2 (A 4) (D 4) ["document", "row", "places"] (yBegins K) := by
  refine T.F_begins_standing.ok sc_begins_standing (fun vs H Q E h => ?_) (fun cdv A' outer s H vs Q E hr h => ?_)
  · obtain ⟨vd, vr, vp, ws, ps, gap, pl, rfl, _⟩ := h; rfl
  obtain ⟨vd, vr, vp, ws, ps, gap, pl, rfl, hd, hrw, hp, hne, hk, hlast, q⟩ := h
  have hnd := sc_begins_standing.nd
  have G_fits := ok_fits (P := P) (w := w) (base := base) T
  have G_end_behind := ok_end_behind (P := P) (w := w) (base := base) T
  refine ⟨_, (pss_cons (ps_set (i := 3) hnd rfl (Or.inl rfl) (pe_slice (r := rSlA K) sl_tupA (pe_ix (r := rIxT K) ix_tup (pv 1) pe_int (fun _ _ => rfl)) (po_some (pe_op op_sub (pe_callB call_len_seq rfl T.z_len PySem.boot_len (pa_cons (pv 2) pa_nil)) pe_int)) po_none)) (pss_cons (ps_set (i := 4) hnd rfl (Or.inl rfl) (pe_slice (r := rSlA K) sl_tupA (pv 0) (po_some (pe_ix (r := rIxT K) ix_tup (pv 2) (pe_un un_neg pe_int) (fun _ _ => rfl))) (po_some (pe_call G_end_behind (hr.mono (by first | decide | omega)) rfl T.m_end_behind T.F_end_behind.kp T.b_end_behind .nil pass0 (pa_cons (pv 0) (pa_cons (pv 1) (pa_cons (pe_ix (r := rIxT K) ix_tup (pv 2) pe_int (fun _ _ => rfl)) pa_nil))))))) (pss_cons (ps_if (pt_not (pt_val (pe_call G_fits (hr.mono (by first | decide | omega)) rfl T.m_fits T.F_fits.kp T.b_fits .nil pass0 (pa_cons (pe_ix (r := rIxT K) ix_tup (pv 4) pe_int (fun _ _ => rfl)) (pa_cons (pe_ix (r := rIxT K) ix_tup (pv 3) pe_int (fun _ _ => rfl)) pa_nil))))) (pss_one (ps_ret pe_bl)) pss_nil) (pss_cons (ps_set (i := 5) hnd rfl (Or.inl rfl) pe_int) (pss_cons (ps_for PassesOwn.never rfl (pi_tup (pv 4)) (pg_name (i := 6) hnd rfl (Or.inl rfl)) (pss_one (ps_if (PW.pt (pw_and (pt_cmpR op_lt (pv 5) (pe_callB call_len_seq rfl T.z_len PySem.boot_len (pa_cons (pv 3) pa_nil)) (nomark _)) (pw_and1 (pt_val (pe_call G_fits (hr.mono (by first | decide | omega)) rfl T.m_fits T.F_fits.kp T.b_fits .nil pass0 (pa_cons (pv 6) (pa_cons (pe_ix (r := rIxT K) ix_tup (pv 3) (pv 5) (fun _ _ => rfl)) pa_nil))))))) (pss_one (ps_aug (i := 5) hnd rfl (Or.inl rfl) pe_int ip_add)) pss_nil))) (pss_one (ps_ret (pe_cmpR op_eq (pv 5) (pe_callB call_len_seq rfl T.z_len PySem.boot_len (pa_cons (pv 3) pa_nil)) (nomark _))))))))), ?_⟩
  obtain ⟨ad, rfl, had⟩ := dp_encD hd
  obtain ⟨ar, pa, pxs, rfl, har, hpa, hpx⟩ := dp_encRow hrw
  obtain ⟨ap, rfl, hap⟩ := dp_encW hp
  have hpl : 0 < pl.length := List.length_pos_iff.mpr hne
  have hln : (pl.map fun (n : Nat) => V.int (n : Int)).length = pl.length := List.length_map _
  have hpxl : pxs.length = ps.length := by rw [DpAll.len hpx, List.length_map]
  have hend : endB ws.length ps.length gap (pl.headD 0) ≤ ws.length := Nat.min_le_right _ _
  have atl : atI (pl.map fun (n : Nat) => V.int (n : Int)) (-1) = some (.int ((pl.getLastD 0 : Nat) : Int)) := by
    obtain ⟨u, x, rfl⟩ : ∃ u x, pl = u ++ [x] := ⟨pl.dropLast, pl.getLast hne, (List.dropLast_concat_getLast hne).symm⟩
    rw [List.map_append, List.getLastD_concat]
    exact atI_last _ _
  have at0 : atI (pl.map fun (n : Nat) => V.int (n : Int)) 0 = some (.int ((pl.headD 0 : Nat) : Int)) := by
    cases pl with
    | nil => exact absurd rfl hne
    | cons x u => exact atI_nat (j := 0) rfl
  refine ⟨_, rfl, ar, _, 1, _, rfl, rfl, har, rfl, _, rfl, ap, _, rfl, .inr hap, _, _, rfl, rfl, _, rfl, ?_⟩
  dsimp only [tNoPart]
  refine slA_use hpa fun pw H1 s1 hw => ?_
  have ewt : cutV pxs (some (((pl.map fun (n : Nat) => V.int (n : Int)).length : Int) - 1)) none = pxs.drop (pl.length - 1) := by
    rw [hln, show ((pl.length : Int) - 1) = ((pl.length - 1 : Nat) : Int) by omega]
    exact cutV_from pxs _
  rw [ewt] at hw
  have hap1 := (TK.same s1).seq hap
  refine ⟨_, rfl, _, rfl, _, rfl, ap, _, -1, _, rfl, rfl, hap1, atl, _, rfl, _, rfl, _, rfl, _, rfl, ap, _, 0, _, rfl, rfl, hap1, at0, .ref ad, .ref ar, ws, ps, gap, pl.headD 0, rfl, Dp.same s1 hd, Dp.same s1 hrw, _, rfl, ?_⟩
  refine slA_use ((TK.same s1).seq had) fun pb H2 s2 hb => ?_
  rw [cutV_mid] at hb
  have s12 := s1.trans s2
  have hw2 := (TK.same s2).seq hw
  have hpx2 := DpAll.same s12 hpx
  have lastw : pl.getLastD 0 < ws.length := by omega
  have hk0 : pl.length - 1 < ps.length := by omega
  have gb : ((ws.map V.str).drop (pl.getLastD 0)).take (endB ws.length ps.length gap (pl.headD 0) - pl.getLastD 0) = ((ws.drop (pl.getLastD 0)).take (endB ws.length ps.length gap (pl.headD 0) - pl.getLastD 0)).map V.str := by
    rw [List.map_take, List.map_drop]
  rw [gb] at hb
  have b0 : (((ws.drop (pl.getLastD 0)).take (endB ws.length ps.length gap (pl.headD 0) - pl.getLastD 0)).map V.str)[0]? = some (.str (ws.getD (pl.getLastD 0) "")) := by
    rw [List.getElem?_map, List.getElem?_take_of_lt (by omega), List.getElem?_drop, Nat.add_zero, List.getElem?_eq_getElem lastw, List.getD_eq_getElem?_getD, List.getElem?_eq_getElem lastw]
    rfl
  obtain ⟨v0, hv0, dv0⟩ := DpAll.get hpx2 (i := pl.length - 1) (d := encT (ps.getD (pl.length - 1) ("", ""))) (by
    rw [List.getElem?_map, List.getElem?_eq_getElem hk0, List.getD_eq_getElem?_getD, List.getElem?_eq_getElem hk0]; rfl)
  have w0 : (pxs.drop (pl.length - 1))[0]? = some v0 := by rw [List.getElem?_drop, Nat.add_zero]; exact hv0
  refine ⟨_, rfl, pb, _, 0, _, rfl, rfl, hb, atI_nat (j := 0) b0, _, rfl, pw, _, 0, _, rfl, rfl, hw2, atI_nat (j := 0) w0, _, _, _, rfl, dv0, _, rfl, ?_⟩
  have fin : ∀ r, r = beginsB ws ps gap pl → Q (.bl r) H2 := fun r hr => by rw [hr]; exact q H2 s12
  cases hf : fitsB (ws.getD (pl.getLastD 0) "") (ps.getD (pl.length - 1) ("", "")) with
  | false =>
    refine iteT ?_
    refine fin false ?_
    unfold beginsB
    rw [hf]; rfl
  | true =>
    refine iteF ?_
    refine ⟨_, rfl, pb, rfl, ⟨_, hb⟩, ?_⟩
    have hwl : (pxs.drop (pl.length - 1)).length = (ps.drop (pl.length - 1)).length := by rw [List.length_drop, List.length_drop, hpxl]
    refine for_tup (xs := ((ws.drop (pl.getLastD 0)).take (endB ws.length ps.length gap (pl.headD 0) - pl.getLastD 0)).map V.str) (fun i σ H' => H' = H2 ∧ ∃ (t : Nat) (c6 : Option V), σ = [some (.ref ad), some (.ref ar), some (.ref ap), some (.ref pw), some (.ref pb), some (.int (t : Int)), c6] ∧ t = taken (ps.drop (pl.length - 1)) (((ws.drop (pl.getLastD 0)).take (endB ws.length ps.length gap (pl.headD 0) - pl.getLastD 0)).take i) ∧ t ≤ (ps.drop (pl.length - 1)).length)
      ⟨rfl, 0, _, rfl, rfl, Nat.zero_le _⟩ (fun i σ H' _ h => by rw [h.1]; exact hb) ?_ ?_
    · rintro i x σ H' hi ⟨rfl, t, c6, rfl, ht, htl⟩
      rw [List.getElem?_map] at hi
      obtain ⟨u, hu, rfl⟩ := Option.map_eq_some_iff.mp hi
      have step : taken (ps.drop (pl.length - 1)) (((ws.drop (pl.getLastD 0)).take (endB ws.length ps.length gap (pl.headD 0) - pl.getLastD 0)).take (i + 1)) = tstep (ps.drop (pl.length - 1)) t u := by
        rw [List.take_add_one, hu, ht]
        unfold taken
        rw [List.foldl_append]; rfl
      refine ⟨_, rfl, _, rfl, pw, _, rfl, .inr hw2, _, _, rfl, rfl, _, rfl, ?_⟩
      refine ite2 (fun c1 => ?_) (fun c1 => ?_)
      · have c1' : t < (ps.drop (pl.length - 1)).length := by
          have : (t : Int) < ((pxs.drop (pl.length - 1)).length : Int) := of_decide_eq_true c1
          omega
        obtain ⟨vt, hvt, dvt⟩ := DpAll.get hpx2 (i := pl.length - 1 + t) (d := encT ((ps.drop (pl.length - 1)).getD t ("", ""))) (by
          rw [List.length_drop] at c1'
          have hh : pl.length - 1 + t < ps.length := by omega
          rw [List.getElem?_map, List.getElem?_eq_getElem hh, List.getD_eq_getElem?_getD, List.getElem?_drop, List.getElem?_eq_getElem hh]; rfl)
        have wt : (pxs.drop (pl.length - 1))[t]? = some vt := by rw [List.getElem?_drop]; exact hvt
        refine ⟨_, rfl, _, rfl, _, rfl, pw, _, _, _, rfl, rfl, hw2, atI_nat wt, _, _, _, rfl, dvt, _, rfl, ?_⟩
        cases hft : fitsB u ((ps.drop (pl.length - 1)).getD t ("", "")) with
        | true =>
          refine iteT ?_
          have e : tstep (ps.drop (pl.length - 1)) t u = t + 1 := if_pos ⟨c1', hft⟩
          refine ⟨_, rfl, _, _, rfl, rfl, rfl, t + 1, some (.str u), ?_, by rw [step, e], by omega⟩
          rw [show ((t + 1 : Nat) : Int) = (t : Int) + 1 by omega]; rfl
        | false =>
          refine iteF ?_
          have e : tstep (ps.drop (pl.length - 1)) t u = t := if_neg fun h => by rw [hft] at h; exact absurd h.2 Bool.false_ne_true
          exact ⟨rfl, t, some (.str u), rfl, by rw [step, e], htl⟩
      · have c1' : ¬ t < (ps.drop (pl.length - 1)).length := fun h => c1 (decide_eq_true (show (t : Int) < ((pxs.drop (pl.length - 1)).length : Int) by omega))
        refine iteF ?_
        have e : tstep (ps.drop (pl.length - 1)) t u = t := if_neg fun h => c1' h.1
        exact ⟨rfl, t, some (.str u), rfl, by rw [step, e], htl⟩
    · rintro σ H' ⟨rfl, t, c6, rfl, ht, htl⟩
      rw [List.length_map, List.take_length] at ht
      refine ⟨_, rfl, _, rfl, pw, _, rfl, .inr hw2, rfl, ?_⟩
      refine fin _ ?_
      unfold beginsB
      rw [hf, Bool.true_and, ← ht, ← hwl]
      by_cases e : t = (pxs.drop (pl.length - 1)).length
      · rw [decide_eq_true e, decide_eq_true (congrArg V.int (by omega))]
      · rw [decide_eq_false e, decide_eq_false (fun h => e (by have := V.int.inj h; omega))]
end


open TL
theorem atI_mem {α : Type} {l : List α} {r : Int} (h0 : 0 ≤ r) (h1 : r < (l.length : Int)) : ∃ c, atI l r = some c ∧ c ∈ l := by
  obtain ⟨n, rfl⟩ := Int.eq_ofNat_of_zero_le h0
  have hn : n < l.length := by omega
  exact ⟨l[n], atI_nat (List.getElem?_eq_getElem hn), List.getElem_mem hn⟩
theorem tl_sgn (c : Nat) : tl (⟨#[c]⟩ : Str) = [c] := rfl


def ySpLaw (K : PySem.W.Frag) : Sp := fun vs H Q _ => ∃ (a : Addr) (ns : List Int), vs = [.ref a] ∧ SqL K H a (ns.map V.int) ∧ ns.length ≤ 63 ∧ ∀ H', Q (.bl true) H'
theorem box_new {H1 : Hp} {p bx : Addr} {ds : List Int} (hp : H1 p = some (.lst (ds.map V.int))) (hb : H1 bx = none) : BoxAt (upd H1 bx (.lst [.ref p, .int 0])) bx p :=
  ⟨ds, 0, upd_same, by rw [upd_ne (ne_of_none hp hb)]; exact hp⟩
theorem pick2 {a b : V} {r : Int} (h0 : 0 ≤ r) (h1 : r < 2) : atI [a, b] r = some (if r = 0 then a else b) := by
  by_cases e : r = 0
  · subst e; rfl
  · have e1 : r = 1 := by omega
    subst e1; rfl
theorem pick2i {x y r : Int} (h0 : 0 ≤ r) (h1 : r < 2) : atI [V.int x, V.int y] r = some (V.int (if r = 0 then x else y)) := by
  rw [pick2 h0 h1]; split <;> rfl
theorem pick2s {x y : Str} {r : Int} (h0 : 0 ≤ r) (h1 : r < 2) : atI [V.str x, V.str y] r = some (V.str (if r = 0 then x else y)) := by
  rw [pick2 h0 h1]; split <;> rfl
theorem atI_map {α β : Type} {f : α → β} {l : List α} {r : Int} {x : α} (h0 : 0 ≤ r) (h : atI l r = some x) : atI (l.map f) r = some (f x) := by
  obtain ⟨n, rfl⟩ := Int.eq_ofNat_of_zero_le h0
  by_cases hn : n < l.length
  · have e : atI l (n : Int) = some l[n] := atI_nat (List.getElem?_eq_getElem hn)
    have e2 : l[n] = x := Option.some.inj (e.symm.trans h)
    exact atI_nat (by rw [List.getElem?_map, List.getElem?_eq_getElem hn, e2]; rfl)
  · unfold atI ixN at h
    rw [if_pos h0, if_neg (by omega)] at h
    cases h


/-! ### a statement, what holds behind it, then the rest -/
def tCut (t u : TS) : TS := fun D σ H => ∃ Mid : St → Hp → Prop, t { D with nx := Mid } σ H ∧ ∀ σ' H', Mid σ' H' → u D σ' H'
theorem pss_cut {X : Cx} {st : Stmt} {rest : List Stmt} {t u : TS} (h1 : PS X st t) (h2 : PSs X rest u) : PSs X (st :: rest) (tCut t u) := by
  refine ⟨fun pins s σ H D I h => ?_⟩
  obtain ⟨Mid, hm, hu⟩ := h
  refine PySem.wpAny_execs_cons (thn (h1.run pins s σ H { D with nx := Mid } I hm) fun f s1 q => ?_)
  cases f with
  | next =>
    obtain ⟨σ', H', I', q⟩ := q
    exact h2.run pins s1 σ' H' D I' (hu σ' H' q)
  | ret v => exact q
  | brk => exact q
  | cont => exact q


def extL (ws : List Str) (ps : List Pat) (gap : Nat) (pl : List Nat) : List (List Nat) :=
  (List.range ((if pl = [] then ws.length else endB ws.length ps.length gap (pl.headD 0)) - (if pl = [] then 0 else pl.getLastD 0 + 1))).map fun j => pl ++ [(if pl = [] then 0 else pl.getLastD 0 + 1) + j]
def extB (ws : List Str) (ps : List Pat) (gap : Nat) (pl : List Nat) : List (List Nat) := (extL ws ps gap pl).filter (beginsB ws ps gap)
theorem head_app {pl : List Nat} {x d : Nat} (h : pl ≠ []) : (pl ++ [x]).headD d = pl.headD d := by
  cases pl with
  | nil => exact absurd rfl h
  | cons a r => rfl
def begunL (ws : List Str) (ps : List Pat) (gap : Nat) : Nat → List (List Nat)
  | 0 => [[]]
  | k + 1 => (begunL ws ps gap k).flatMap (extB ws ps gap)
def Over (ws : List Str) (ps : List Pat) (gap : Nat) : Prop := ∃ k, k ≤ ps.length ∧ 500 < (begunL ws ps gap k).length
theorem mem_extB {ws : List Str} {ps : List Pat} {gap : Nat} {pl v : List Nat} (h : v ∈ extB ws ps gap pl) : ∃ j, v = pl ++ [j] ∧ j < ws.length := by
  have h1 := (List.mem_filter.mp h).1
  unfold extL at h1
  obtain ⟨j, hj, rfl⟩ := List.mem_map.mp h1
  refine ⟨_, rfl, ?_⟩
  have := List.mem_range.mp hj
  have h2 : (if pl = [] then ws.length else endB ws.length ps.length gap (pl.headD 0)) ≤ ws.length := by
    split
    · exact Nat.le_refl _
    · exact Nat.min_le_right _ _
  omega
theorem mem_begunL {ws : List Str} {ps : List Pat} {gap : Nat} : ∀ {k : Nat} {v : List Nat}, v ∈ begunL ws ps gap k → v.length = k ∧ v.getLastD 0 ≤ ws.length
  | 0, v, h => by
    rw [List.mem_singleton.mp h]
    exact ⟨rfl, Nat.zero_le _⟩
  | k + 1, v, h => by
    obtain ⟨u, hu, hv⟩ := List.mem_flatMap.mp h
    obtain ⟨j, rfl, hj⟩ := mem_extB hv
    have := mem_begunL hu
    refine ⟨by rw [List.length_append, List.length_singleton, this.1], ?_⟩
    rw [List.getLastD_concat]; omega
theorem extB_len (ws : List Str) (ps : List Pat) (gap : Nat) (pl : List Nat) : (extB ws ps gap pl).length ≤ ws.length := by
  have h1 := List.length_filter_le (beginsB ws ps gap) (extL ws ps gap pl)
  have h2 : (extL ws ps gap pl).length ≤ ws.length := by
    unfold extL
    rw [List.length_map, List.length_range]
    have h3 : (if pl = [] then ws.length else endB ws.length ps.length gap (pl.headD 0)) ≤ ws.length := by
      split
      · exact Nat.le_refl _
      · exact Nat.min_le_right _ _
    omega
  exact Nat.le_trans h1 h2
theorem flatMap_len {α β : Type} {f : α → List β} {n : Nat} (h : ∀ a, (f a).length ≤ n) : ∀ l : List α, (l.flatMap f).length ≤ l.length * n
  | [] => Nat.zero_le _
  | a :: r => by
    have h1 := h a
    have h2 := flatMap_len h r
    rw [List.flatMap_cons, List.length_append, List.length_cons, Nat.add_mul, Nat.one_mul]
    omega


/-! ### any, all of a generator expression whose element may call -/
section
open PySem.Spec PyProof.Rows
/-- the generator's own names are over; the captured ones are the def's -/
def gxEnv (X : Cx) (scope : Scope) (L : Addr) (code : Value) : Env := genEnv scope (cloFrom X.env.cells scope.names []) L code builtinsNs X.env
/-- the context of the generator's code, woken within any, all -/
def gxOf (X : Cx) (N : List Str) (scope : Scope) (code : Value) (s : Shared) (H : Hp) (ex : List Addr) (pn : List (Addr × Obj)) : Cx :=
  { X with A := X.A.in1.in1.deeper (gxEnv X scope s.heap.objs.size code), N := N, s_0 := s, H_0 := H, env := gxEnv X scope s.heap.objs.size code, outer := X.stack, stack := gxEnv X scope s.heap.objs.size code :: X.stack, ex := ex, fn := fun _ => false, calm := true, pn := pn, xe := fun _ _ => False }
variable {X : Cx} {pins : List (Addr × Obj)} {σ : L2.St} {H : Hp} {s : Shared}
/-- what stands in the generator's slots: names captured, with the def's values -/
def CapOk (X : Cx) (scope : Scope) (N : List Str) (σ τ : L2.St) : Prop :=
  τ.length = N.length ∧ ∀ (i : Nat) (y : Str) (v : V), N[i]? = some y → τ[i]? = some (some v) → scope.names.lookup y = some NameKind.free ∧ (X.env.kindOf y = some .cell ∨ X.env.kindOf y = some .free) ∧ Vis X.env.scope y ∧ ∃ j : Nat, X.N[j]? = some y ∧ σ[j]? = some (some v)
theorem gx_inv {N : List Str} {scope : Scope} {code : Value} {fp : List Addr} {a : Addr} {go : Obj} {τ : L2.St} {s5 : Shared} {m : Str → Option Value} (I : Inv X pins σ H s) (hd : X.A.handled = none) (hk : scope.kind = .function) (hfree : ∀ y ∈ scope.names, y.2 = .free → ∃ c, X.env.cells.lookup y.1 = some c) (hcell : ∀ y ∈ scope.names, y.2 ≠ .cell)
    (hfp : ∀ b ∈ fp, FpOk X pins H b ∧ ∃ o, s.heap.get? b = some o) (hos : s5.os = s.os) (hb : AllBare s5.gens) (keep : ∀ b o, s.heap.get? b = some o → s5.heap.get? b = some o) (hn : s5.heap.Ns s.heap.objs.size m) (ha : s5.heap.get? a = some go) (hal : s.heap.objs.size < a) (hgo : ∀ v, go.data ≠ .cell v)
    (hcap : CapOk X scope N σ τ) : Inv (gxOf X N scope code s H fp [(a, go)]) [] τ H s5 := by
  have env := I.env0
  have cm : ∀ y c, (gxEnv X scope s.heap.objs.size code).cells.lookup y = some c → X.env.cells.lookup y = some c := fun y c e => NdefX.clo_cm hfree e
  have free1 : H s.heap.objs.size = none := I.hok.fresh (Nat.le_refl _)
  refine ⟨⟨I.ok.mod, hk, I.ok.glob, rfl, Nat.le_refl _, fun x y c e1 e2 => I.ok.inj x y c (cm _ _ e1) (cm _ _ e2), fun y hy => ?_, fun x c e => absurd (show false = true from e) Bool.false_ne_true, fun _ => hd, Around.frames_deeper env.frames, .inr ⟨rfl, rfl⟩, fun b hbf => ?_, I.bs, env.bsz, fun b o e hbf => ?_, fun b hbf hst => ?_, env.funs, env.frf⟩,
    hos, hb, Un.kept keep, ⟨m, hn, fun i y v e1 e2 e3 => ?_⟩, fun y c e => ?_, free1, fun y c e => I.freeC y c (cm _ _ e), fun p hp => ?_, I.hok.kept keep, hcap.1⟩
  · have hy' : scope.names.lookup y = some .cell ∨ scope.names.lookup y = some .free := hy
    rcases hy' with h | h
    · exact absurd rfl (hcell _ (PySem.mem_of_lookup h))
    · obtain ⟨c, e⟩ := hfree _ (PySem.mem_of_lookup h) rfl
      exact ⟨c, NdefX.clo_has hfree (PySem.mem_of_lookup h) e⟩
  · obtain ⟨⟨f0, f1, f2, f3, f4, f5⟩, o, eo⟩ := hfp b hbf
    exact ⟨Nat.ne_of_lt (Heap.lt_size eo), fun x c e => f4 x c (cm _ _ e)⟩
  · obtain ⟨⟨f0, f1, f2, f3, f4, f5⟩, o', eo⟩ := hfp b hbf
    rcases f3 with f3 | f3
    · exact I.ok.noex b o e f3
    · exact absurd (Nat.lt_of_lt_of_le (Heap.lt_size e) (Nat.le_trans I.ok.bsz f3)) (Nat.lt_irrefl _)
  · obtain ⟨⟨f0, f1, f2, f3, f4, f5⟩, o', eo⟩ := hfp b hbf
    rcases List.mem_cons.mp (I.stkSub b hst) with z | z
    · exact f1 z
    · exact f2 z
  · obtain ⟨k1, k2, k3, j, k4, k5⟩ := hcap.2 i y v e1 e2
    obtain ⟨mx, hnx, hl⟩ := I.loc
    obtain ⟨u, ru, lk⟩ := hl j y v k4 k5 k3
    refine ⟨u, ru, .inr ⟨.inr k1, ?_⟩⟩
    rcases lk with ⟨q, _⟩ | ⟨q, c, ec, hc⟩
    · rcases k2 with k2 | k2 <;> (rw [k2] at q; cases q)
    · obtain ⟨oc, h1, h2⟩ := hc
      exact ⟨c, NdefX.clo_has hfree (PySem.mem_of_lookup k1) ec, oc, keep _ _ h1, h2⟩
  · obtain ⟨v, oc, h1, h2⟩ := I.cell y c (cm _ _ e)
    exact ⟨v, oc, keep _ _ h1, h2⟩
  · have e : p = (a, go) := by simpa [gxOf] using hp
    subst e
    have ge : s.heap.objs.size ≤ a := Nat.le_of_lt hal
    refine ⟨ha, I.hok.fresh ge, Nat.ne_of_gt hal, fun hst => ?_, hgo⟩
    obtain ⟨_, o, ho, _⟩ := env.funs.mem hst
    exact absurd (Nat.lt_of_lt_of_le (Heap.lt_size ho) ge) (Nat.lt_irrefl _)
end


section
open PySem.Spec PyProof.Rows
variable {X : Cx}
/-- the loop's reading: a turn's element is a bool; the one that is `stop` ends the walk, with Qs, or all are over, with Qe -/
def tGxW (J : It) (g : TG) (tt : TT) (te : TE) (stop : Bool) (Qs Qe : Hp → Prop) (W : Nat → Nat → L2.St → Hp → Prop) : Prop := ∀ i m τ H, W i m τ H →
  (J.stop i H ∧ Qe H) ∨ (J.go i H ∧ ∃ Nx : L2.St → Hp → Prop, (∀ τ' H', Nx τ' H' → ∃ m', m' < m ∧ W (i + 1) m' τ' H') ∧ ∀ x H', J.yld i H x H' → g x τ H' fun τ2 H2 => tt τ2 H2 fun b H3 => if b = true then te τ2 H3 fun y H4 => ∃ c, y = .bl c ∧ if c = stop then Qs H4 else Nx τ2 H4 else Nx τ2 H3)
def gxR (Y : Cx) (Qe : Hp → Prop) : GenEnd := fun _ _ r s1 => ((r = .ok (.ret .none) ∨ r = .ok .next) ∧ ∃ τ H, Inv Y [] τ H s1 ∧ Qe H) ∨ ∃ e, r = .error e ∧ False
def gxY (Y : Cx) (stop : Bool) (Qs : Hp → Prop) : Protocol := fun _ _ v s1 kap => ∃ (c : Bool) (τ : L2.St) (H : Hp), v = .bool c ∧ Inv Y [] τ H s1 ∧ (c = stop → Qs H) ∧ (c ≠ stop → ∀ s', s'.heap = s1.heap → s'.os = s1.os → AllBare s'.gens → kap (.send .none) s')
theorem gx_loop {N : List Str} {scope : Scope} {code : Value} {s0 : Shared} {H0 : Hp} {fp : List Addr} {pn : List (Addr × Obj)} {elt iter tg : Expr} {ifs : List Expr} {tt : TT} {gpos : Pos} {it : Addr} {tn : Nat → Heap → Prop} {J : It} {g : TG} {te : TE} {stop : Bool} {Qs Qe : Hp → Prop} {W : Nat → Nat → L2.St → Hp → Prop}
    (hd : X.A.handled = none) (hco : scope.isCoroutine = false) (T : Turn X.prog X.w X.K tg J fp it tn) (hg : PG (gxOf X N scope code s0 H0 fp pn) tg g) (ht : PTs (gxOf X N scope code s0 H0 fp pn) ifs tt) (he : PE (gxOf X N scope code s0 H0 fp pn) elt te)
    (stat : ∀ {H' : Hp}, (∀ b ∈ fp, H' b = none) → ∀ b ∈ fp, FpOk (gxOf X N scope code s0 H0 fp pn) [] H' b) (turn : tGxW J g tt te stop Qs Qe W) :
    ∀ (m n i : Nat) (s₀ s : Shared) (τ : L2.St) (H : Hp), m < n → W i m τ H → Inv (gxOf X N scope code s0 H0 fp pn) [] τ H s → tn i s.heap → (∀ b ∈ fp, H b = none) →
      Seg (model X.prog X.w) X.A.in1.in1 (gxR (gxOf X N scope code s0 H0 fp pn) Qe) (gxY (gxOf X N scope code s0 H0 fp pn) stop Qs) n s₀
        (.compLoop (.GeneratorExp elt [⟨tg, iter, ifs, 0⟩] scope gpos) 0 (.ref it) .none (gxEnv X scope s0.heap.objs.size code))
        ((model X.prog X.w).den (.compLoop (.GeneratorExp elt [⟨tg, iter, ifs, 0⟩] scope gpos) 0 (.ref it) .none (gxEnv X scope s0.heap.objs.size code))) [] s := by
  intro m
  induction m using Nat.strongRecOn with
  | ind m ih =>
    intro n1 i s₀ s τ H hmn w I st fr
    obtain ⟨n, rfl⟩ : ∃ n, n1 = n + 1 := ⟨n1 - 1, by omega⟩
    show Seg _ _ _ _ _ s₀ _ ((compTurn (.GeneratorExp elt [⟨tg, iter, ifs, 0⟩] scope gpos) 0 (.ref it) .none (gxEnv X scope s0.heap.objs.size code)).onRaise (leaving (gxEnv X scope s0.heap.objs.size code))) [] s
    rw [compTurn_gen, Sem.onRaise_eq_wrap]
    refine seg_bind_wrap (wpAny_standAt ?_)
    rcases turn i m τ H w with ⟨stp, qe⟩ | ⟨go, Nx, hN, step⟩
    · refine seg_bind_wrap ?_
      refine wpAny_mono (T.done (gxOf X N scope code s0 H0 fp pn) rfl rfl rfl rfl i [] s τ H (fun _ _ => False) I (stat fr) st stp) (fun r s1 hr => ?_) fun _ _ z => z.elim
      obtain ⟨rfl, I1⟩ := hr
      exact seg_end (.ok .next) (.inl ⟨.inr rfl, τ, H, I1, qe⟩)
    · refine seg_bind_wrap ?_
      refine wpAny_mono (T.item (gxOf X N scope code s0 H0 fp pn) rfl rfl rfl rfl i [] s τ H (fun _ _ => False) I (stat fr) st go) (fun r s1 hr => ?_) fun _ _ z => z.elim
      obtain ⟨u, rfl, h1⟩ := hr
      refine seg_bind_wrap (wpAny_mono h1 (fun _ s2 h2 => ?_) fun _ _ z => z.elim)
      obtain ⟨x, H2, I2, r2, y2, st2, fr2⟩ := h2
      have I2' := I2.pinned (stat fr2) (T.obj _ _ st2)
      refine seg_bind_wrap (wpAny_mono (hg.run _ s2 τ H2 x u _ I2' r2 (step x H2 y2)) (fun _ s3 h3 => ?_) fun _ _ z => z.elim)
      obtain ⟨τ3, H3, I3, q3⟩ := h3
      have later : ∀ {s7 s8 : Shared} {H7 : Hp}, Inv (gxOf X N scope code s0 H0 fp pn) ([] ++ pinsAt fp s2.heap) τ3 H7 s7 → Nx τ3 H7 → s8.heap = s7.heap → s8.os = s7.os → AllBare s8.gens → ∀ s₀' k, n ≤ k →
          Seg (model X.prog X.w) X.A.in1.in1 (gxR (gxOf X N scope code s0 H0 fp pn) Qe) (gxY (gxOf X N scope code s0 H0 fp pn) stop Qs) k s₀'
            (.compLoop (.GeneratorExp elt [⟨tg, iter, ifs, 0⟩] scope gpos) 0 (.ref it) .none (gxEnv X scope s0.heap.objs.size code))
            ((model X.prog X.w).den (.compLoop (.GeneratorExp elt [⟨tg, iter, ifs, 0⟩] scope gpos) 0 (.ref it) .none (gxEnv X scope s0.heap.objs.size code))) [] s8 := fun {s7 s8 H7} I7 n7 eh eo eb s₀' k hnk => by
        obtain ⟨m', hm, w7⟩ := hN τ3 H7 n7
        have I7u : Inv (gxOf X N scope code s0 H0 fp pn) [] τ3 H7 s7 := I7.unpinned
        have st7 : tn (i + 1) s7.heap := T.keep _ _ _ st2 fun b hb o e => (I7.pin (b, o) (List.mem_append_right _ (List.mem_append_right _ (mem_pinsAt hb e)))).1
        refine ih m' hm k (i + 1) s₀' s8 τ3 H7 (by omega) w7 ?_ (by rw [eh]; exact st7) fun b hb => ?_
        · obtain ⟨h8, g8, d8, t8, o8⟩ := s8
          have e1 : h8 = s7.heap := eh
          have e2 : o8 = s7.os := eo
          subst e1 e2
          exact ⟨I7u.ok, I7u.os, eb, I7u.base, I7u.loc, I7u.cell, I7u.free, I7u.freeC, I7u.pin, I7u.hok, I7u.len⟩
        · obtain ⟨o, e, _⟩ := T.obj _ _ st2 b hb
          exact (I7.pin (b, o) (List.mem_append_right _ (List.mem_append_right _ (mem_pinsAt hb e)))).2.1
      refine seg_bind_wrap (wpAny_mono (ht.run _ s3 τ3 H3 _ I3 q3) (fun b s4 h4 => ?_) fun _ _ z => z.elim)
      obtain ⟨H4, I4, q4⟩ := h4
      cases b with
      | false =>
        rw [if_neg Bool.false_ne_true] at q4
        simp only [Bool.false_eq_true, if_false]
        exact seg_again rfl (later I4 q4 rfl rfl I4.bare s₀ (n + 1) (Nat.le_succ n))
      | true =>
        rw [if_pos rfl] at q4
        simp only [if_true]
        have plain : ∀ v, yieldOut (gxEnv X scope s0.heap.objs.size code) v = yieldValue v := fun v => by
          unfold yieldOut
          rw [if_neg (by show ¬ (scope.isCoroutine = true); rw [hco]; exact Bool.false_ne_true)]
        simp only [plain]
        rw [Sem.bind_eq_wrap', Sem.bind_eq_wrap', Sem.wrap_wrap, Sem.wrap_wrap]
        refine seg_wrap (wpAny_mono (he.run _ s4 τ3 H4 _ I4 q4) (fun y s5 h5 => ?_) fun _ _ z => z.elim)
        obtain ⟨y1, H5, I5, r5, c, ey, q5⟩ := h5
        subst ey
        obtain rfl : y = .bool c := r5
        refine seg_at (seg_yield rfl rfl rfl ⟨c, τ3, H5, rfl, I5.unpinned, fun e => ?_, fun e s6 eh eo eb => ?_⟩)
        · rw [if_pos e] at q5; exact q5
        · rw [if_neg e] at q5
          exact seg_again rfl (later I5 q5 eh eo eb s6 n (Nat.le_refl n))
end


section
open PySem.Spec PyProof.Rows GenW
variable {X : Cx}
theorem gx_start {N : List Str} {scope : Scope} {code : Value} {s0 : Shared} {H0 : Hp} {fp : List Addr} {pn : List (Addr × Obj)} {elt iter tg : Expr} {ifs : List Expr} {tt : TT} {gpos : Pos} {it : Addr} {tn : Nat → Heap → Prop} {J : It} {g : TG} {te : TE} {stop : Bool} {Qs Qe : Hp → Prop} {W : Nat → Nat → L2.St → Hp → Prop}
    (hd : X.A.handled = none) (hco : scope.isCoroutine = false) (T : Turn X.prog X.w X.K tg J fp it tn) (hg : PG (gxOf X N scope code s0 H0 fp pn) tg g) (ht : PTs (gxOf X N scope code s0 H0 fp pn) ifs tt) (he : PE (gxOf X N scope code s0 H0 fp pn) elt te)
    (stat : ∀ {H' : Hp}, (∀ b ∈ fp, H' b = none) → ∀ b ∈ fp, FpOk (gxOf X N scope code s0 H0 fp pn) [] H' b) (turn : tGxW J g tt te stop Qs Qe W) {m n : Nat} {s₀ s : Shared} {τ : L2.St} {H : Hp} (hmn : m < n) (w0 : W 0 m τ H) (I : Inv (gxOf X N scope code s0 H0 fp pn) [] τ H s) (st : tn 0 s.heap) (fr : ∀ b ∈ fp, H b = none) :
    Seg (model X.prog X.w) X.A.in1.in1 (gxR (gxOf X N scope code s0 H0 fp pn) Qe) (gxY (gxOf X N scope code s0 H0 fp pn) stop Qs) n s₀
        (.compStart (.GeneratorExp elt [⟨tg, iter, ifs, 0⟩] scope gpos) 0 (.ref it) .none (gxEnv X scope s0.heap.objs.size code))
        ((model X.prog X.w).den (.compStart (.GeneratorExp elt [⟨tg, iter, ifs, 0⟩] scope gpos) 0 (.ref it) .none (gxEnv X scope s0.heap.objs.size code))) [] s := by
  have go := gx_loop (iter := iter) (gpos := gpos) hd hco T hg ht he stat turn m n 0 s₀ s τ H hmn w0 I st fr
  show Seg _ _ _ _ _ s₀ _ ((compStart (.GeneratorExp elt [⟨tg, iter, ifs, 0⟩] scope gpos) 0 (.ref it) .none (gxEnv X scope s0.heap.objs.size code)).onRaise (leaving (gxEnv X scope s0.heap.objs.size code))) [] s
  unfold compStart
  rw [Sem.onRaise_eq_wrap]
  show Seg _ _ _ _ _ s₀ _ ((ask >>= _).wrap _ _ _ _) [] s
  refine seg_bind_wrap (wpAny_askSetting ?_)
  split
  · exact seg_again rfl go
  · refine seg_bind_wrap (wpAny_rule ?_)
    first
      | exact seg_bind_wrap (wpAny_standAt (seg_bind_wrap (T.self _ 0 s _ _ st (seg_again rfl go))))
      | (show Seg _ _ _ _ _ s₀ _ ((standAt iter.pos >>= _).wrap _ _ _ _) [] s; exact seg_bind_wrap (wpAny_standAt (seg_bind_wrap (T.self _ 0 s _ _ st (seg_again rfl go)))))
theorem isGen_of {h : Heap} {a : Addr} {g : Nat} {go : Obj} {nm qn : Value} (e : h.get? a = some go) (h1 : go.cls = .type "generator") (h2 : go.data = .fields #[.int g 0, nm, qn]) (h3 : go.slots = #[]) : h.IsGen a g := ⟨go, nm, qn, e, h1, h2, h3⟩
theorem gx_any {Y : Cx} {a : Addr} {g : Nat} {stop : Bool} {Qs Qe : Hp → Prop} {R : Result → Shared → Prop} (hP : Y.prog = X.prog ∧ Y.w = X.w) (hr : Room 1 X.A) (hgen : ∀ {τ : L2.St} {H : Hp} {s : Shared}, Inv Y [] τ H s → s.heap.IsGen a g)
    (hs : ∀ s1 s' τ H, Inv Y [] τ H s1 → Qs H → s'.os = s1.os → AllBare s'.gens → (∀ b o, s1.heap.get? b = some o → s'.heap.get? b = some o) → stop = true → R (.ok (.ret (.bool true))) s')
    (he : ∀ s1 s' τ H, Inv Y [] τ H s1 → Qe H → s'.os = s1.os → AllBare s'.gens → (∀ b o, s1.heap.get? b = some o → s'.heap.get? b = some o) → stop = true → R (.ok (.ret (.bool false))) s') (hst : stop = true) :
    ∀ (n : Nat) (s : Shared), s.heap.IsGen a g → s.heap.NoLimit → (∃ gs, s.gens[g]? = some gs ∧ gs.Goes (model X.prog X.w) X.A.in1.in1 (gxR Y Qe) (gxY Y stop Qs) n (.send .none) (s.setGen g .running)) →
      codeAny (model X.prog X.w) X.A (.builtin "any.loop" ⟨[.ref a], []⟩) R s := by
  intro n
  induction n with
  | zero =>
    intro s hg hl ⟨gs, hgs, hgo⟩
    refine codeAny_builtin PySem.F.entry_any_loop ?_
    rw [Around.under_plainId PySem.F.plain_any_loop _]
    show wpAny _ X.A.in1 (pyNext (.ref a) >>= _) _ _ s
    refine wpAny_bind (next_genG (A := X.A.in1) hr.hd hl (by have := hr.dp; show X.A.depth < _; omega) hg hgs hgo (fun v s1 gs' hbare hv => ?_) (fun s1 hp h' hk => ?_) fun e s1 hF => hF.elim)
    · obtain ⟨c, τ, H, rfl, I, q1, q2⟩ := hv
      have bare1 := allBare_setGen (g := g) I.bare hbare
      refine wpAny_bind (wpAny_holding (wpAny_truthy_bool (wpAny_bind (wpAny_letGo ?_))))
      cases c with
      | true =>
        rw [if_pos rfl]
        exact wpAny_bind (wpAny_rule (wpAny_pure (hs s1 _ τ H I (q1 hst.symm) rfl bare1 (fun _ _ e => e) hst)))
      | false =>
        rw [if_neg Bool.false_ne_true]
        have ne : false ≠ stop := by rw [hst]; exact Bool.false_ne_true
        exact (q2 ne s1 rfl rfl I.bare).elim
    · obtain ⟨τ, H, I, qe⟩ := hp
      exact wpAny_bind (wpAny_rule (wpAny_pure (he s1 _ τ H I qe rfl (allBare_setGen I.bare rfl) hk hst)))
  | succ n ih =>
    intro s hg hl ⟨gs, hgs, hgo⟩
    have hgl : g < s.gens.size := (Array.getElem?_eq_some_iff.mp hgs).1
    refine codeAny_builtin PySem.F.entry_any_loop ?_
    rw [Around.under_plainId PySem.F.plain_any_loop _]
    show wpAny _ X.A.in1 (pyNext (.ref a) >>= _) _ _ s
    refine wpAny_bind (wpAny_gsz (n := g + 1) hgl (next_genG (A := X.A.in1) hr.hd hl (by have := hr.dp; show X.A.depth < _; omega) hg hgs hgo (fun v s1 gs' hbare hv => ?_) (fun s1 hp h' hk => ?_) fun e s1 hF => hF.elim))
    · intro hsz
      obtain ⟨c, τ, H, rfl, I, q1, q2⟩ := hv
      have bare1 := allBare_setGen (g := g) I.bare hbare
      refine wpAny_bind (wpAny_holding (wpAny_truthy_bool (wpAny_bind (wpAny_letGo ?_))))
      cases c with
      | true =>
        rw [if_pos rfl]
        exact wpAny_bind (wpAny_rule (wpAny_pure (hs s1 _ τ H I (q1 hst.symm) rfl bare1 (fun _ _ e => e) hst)))
      | false =>
        rw [if_neg Bool.false_ne_true]
        have ne : false ≠ stop := by rw [hst]; exact Bool.false_ne_true
        have szg : g < s1.gens.size := by
          have q : (s1.setGen g gs').gens.size = s1.gens.size := setGen_size _ _ _
          have hsz' : g + 1 ≤ (s1.setGen g gs').gens.size := hsz
          omega
        have hgI : s1.heap.IsGen a g := hgen I
        have hlI : s1.heap.NoLimit := I.nolimit
        exact wpAny_pure ⟨plainId_quiet PySem.F.plain_any_loop _, ih (s1.setGen g gs') hgI hlI ⟨gs', setGen_at szg, q2 ne _ rfl rfl (allBare_setGen bare1 rfl)⟩⟩
    · intro hsz
      obtain ⟨τ, H, I, qe⟩ := hp
      exact wpAny_bind (wpAny_rule (wpAny_pure (he s1 _ τ H I qe rfl (allBare_setGen I.bare rfl) hk hst)))
theorem gx_all {Y : Cx} {a : Addr} {g : Nat} {stop : Bool} {Qs Qe : Hp → Prop} {R : Result → Shared → Prop} (hP : Y.prog = X.prog ∧ Y.w = X.w) (hr : Room 1 X.A) (hgen : ∀ {τ : L2.St} {H : Hp} {s : Shared}, Inv Y [] τ H s → s.heap.IsGen a g)
    (hs : ∀ s1 s' τ H, Inv Y [] τ H s1 → Qs H → s'.os = s1.os → AllBare s'.gens → (∀ b o, s1.heap.get? b = some o → s'.heap.get? b = some o) → stop = false → R (.ok (.ret (.bool false))) s')
    (he : ∀ s1 s' τ H, Inv Y [] τ H s1 → Qe H → s'.os = s1.os → AllBare s'.gens → (∀ b o, s1.heap.get? b = some o → s'.heap.get? b = some o) → stop = false → R (.ok (.ret (.bool true))) s') (hst : stop = false) :
    ∀ (n : Nat) (s : Shared), s.heap.IsGen a g → s.heap.NoLimit → (∃ gs, s.gens[g]? = some gs ∧ gs.Goes (model X.prog X.w) X.A.in1.in1 (gxR Y Qe) (gxY Y stop Qs) n (.send .none) (s.setGen g .running)) →
      codeAny (model X.prog X.w) X.A (.builtin "all.loop" ⟨[.ref a], []⟩) R s := by
  intro n
  induction n with
  | zero =>
    intro s hg hl ⟨gs, hgs, hgo⟩
    refine codeAny_builtin PySem.F.entry_all_loop ?_
    rw [Around.under_plainId PySem.F.plain_all_loop _]
    show wpAny _ X.A.in1 (pyNext (.ref a) >>= _) _ _ s
    refine wpAny_bind (next_genG (A := X.A.in1) hr.hd hl (by have := hr.dp; show X.A.depth < _; omega) hg hgs hgo (fun v s1 gs' hbare hv => ?_) (fun s1 hp h' hk => ?_) fun e s1 hF => hF.elim)
    · obtain ⟨c, τ, H, rfl, I, q1, q2⟩ := hv
      have bare1 := allBare_setGen (g := g) I.bare hbare
      refine wpAny_bind (wpAny_holding (wpAny_truthy_bool (wpAny_bind (wpAny_letGo ?_))))
      cases c with
      | false =>
        rw [if_neg Bool.false_ne_true]
        exact wpAny_bind (wpAny_rule (wpAny_pure (hs s1 _ τ H I (q1 hst.symm) rfl bare1 (fun _ _ e => e) hst)))
      | true =>
        rw [if_pos rfl]
        have ne : true ≠ stop := by rw [hst]; exact fun z => Bool.false_ne_true z.symm
        exact (q2 ne s1 rfl rfl I.bare).elim
    · obtain ⟨τ, H, I, qe⟩ := hp
      exact wpAny_bind (wpAny_rule (wpAny_pure (he s1 _ τ H I qe rfl (allBare_setGen I.bare rfl) hk hst)))
  | succ n ih =>
    intro s hg hl ⟨gs, hgs, hgo⟩
    have hgl : g < s.gens.size := (Array.getElem?_eq_some_iff.mp hgs).1
    refine codeAny_builtin PySem.F.entry_all_loop ?_
    rw [Around.under_plainId PySem.F.plain_all_loop _]
    show wpAny _ X.A.in1 (pyNext (.ref a) >>= _) _ _ s
    refine wpAny_bind (wpAny_gsz (n := g + 1) hgl (next_genG (A := X.A.in1) hr.hd hl (by have := hr.dp; show X.A.depth < _; omega) hg hgs hgo (fun v s1 gs' hbare hv => ?_) (fun s1 hp h' hk => ?_) fun e s1 hF => hF.elim))
    · intro hsz
      obtain ⟨c, τ, H, rfl, I, q1, q2⟩ := hv
      have bare1 := allBare_setGen (g := g) I.bare hbare
      refine wpAny_bind (wpAny_holding (wpAny_truthy_bool (wpAny_bind (wpAny_letGo ?_))))
      cases c with
      | false =>
        rw [if_neg Bool.false_ne_true]
        exact wpAny_bind (wpAny_rule (wpAny_pure (hs s1 _ τ H I (q1 hst.symm) rfl bare1 (fun _ _ e => e) hst)))
      | true =>
        rw [if_pos rfl]
        have ne : true ≠ stop := by rw [hst]; exact fun z => Bool.false_ne_true z.symm
        have szg : g < s1.gens.size := by
          have q : (s1.setGen g gs').gens.size = s1.gens.size := setGen_size _ _ _
          have hsz' : g + 1 ≤ (s1.setGen g gs').gens.size := hsz
          omega
        have hgI : s1.heap.IsGen a g := hgen I
        have hlI : s1.heap.NoLimit := I.nolimit
        exact wpAny_pure ⟨plainId_quiet PySem.F.plain_all_loop _, ih (s1.setGen g gs') hgI hlI ⟨gs', setGen_at szg, q2 ne _ rfl rfl (allBare_setGen bare1 rfl)⟩⟩
    · intro hsz
      obtain ⟨τ, H, I, qe⟩ := hp
      exact wpAny_bind (wpAny_rule (wpAny_pure (he s1 _ τ H I qe rfl (allBare_setGen I.bare rfl) hk hst)))
end


section
open PySem.Spec PyProof.Rows GenW GxR
variable {X : Cx} {pins : List (Addr × Obj)} {σ : L2.St}
/-- a generator that has not begun, ready for any, all -/
def GxReady (X : Cx) (pins : List (Addr × Obj)) (σ : L2.St) (stop : Bool) (Qs Qe : Hp → Prop) (a : Addr) (s5 : Shared) : Prop := ∃ (Y : Cx) (g n : Nat), Y.prog = X.prog ∧ Y.w = X.w ∧ (∀ {τ : L2.St} {H : Hp} {s : Shared}, Inv Y [] τ H s → s.heap.IsGen a g) ∧
  (∀ {τ : L2.St} {H : Hp} {s1 s' : Shared}, Inv Y [] τ H s1 → s'.os = s1.os → AllBare s'.gens → (∀ b o, s1.heap.get? b = some o → s'.heap.get? b = some o) → Inv X pins σ H s') ∧ s5.heap.IsGen a g ∧ s5.heap.NoLimit ∧
  ∃ gs, s5.gens[g]? = some gs ∧ gs.Goes (model X.prog X.w) X.A.in1.in1 (gxR Y Qe) (gxY Y stop Qs) n (.send .none) (s5.setGen g .running)
/-- the slots of the generator: none for its own names, the def's j-th for a captured one -/
def capSt (js : List (Option Nat)) (σ : L2.St) : L2.St := js.map fun o => match o with | none => none | some j => (σ[j]?).getD none
def tGx (P : Addr) (js : List (Option Nat)) (wi : TI) (g : TG) (tt : TT) (te : TE) (stop : Bool) : TE := fun σ H Q => wi σ H fun J H1 => TabG H1 P ∧ ∀ H2, Tabbed P H1 H2 → ∃ W : Nat → Nat → L2.St → Hp → Prop, (∃ m, W 0 m (capSt js σ) H2) ∧ tGxW J g tt te stop (fun H' => Q (.bl stop) H') (fun H' => Q (.bl (!stop)) H') W
/-- what a generator's scope needs -/
structure GxS (env : Env) (scope : Scope) : Prop where
  kind : scope.kind = .function
  co : scope.isCoroutine = false
  cell : ∀ y ∈ scope.names, y.2 ≠ .cell
  dot : scope.names.lookup (".0" : Str) = some NameKind.local
  free : ∀ y ∈ scope.names, y.2 = .free → ∃ c, env.cells.lookup y.1 = some c
theorem gx_made {c P : Addr} {elt iter tg : Expr} {ifs : List Expr} {gpos : Pos} {scope : Scope} {N : List Str} {js : List (Option Nat)} {wi : TI} {g : TG} {tt : TT} {te : TE} {k : Nat} {stop : Bool} {H : Hp} {s : Shared} {Q : VK} {Q' : Value → Shared → Prop} (hr : Room k X.A) (hcal : X.calm = true) (TB : TabB X.base X.mg c P) (hcode : X.env.code = .ref c) (S : GxS X.env scope)
    (hcap : ∀ σ : L2.St, CapOk X scope N σ (capSt js σ)) (hi : PI X tg iter wi) (hg : ∀ code s H ex pn, PG (gxOf X N scope code s H ex pn) tg g) (ht : ∀ code s H ex pn, PTs (gxOf X N scope code s H ex pn) ifs tt) (he : ∀ code s H ex pn, PE (gxOf X N scope code s H ex pn) elt te)
    (hs : ∀ v, genFold iter X.env v = pure v) (I : Inv X pins σ H s) (h : tGx P js wi g tt te stop σ H Q) (hQ : ∀ a s5, GxReady X pins σ stop (fun H' => Q (.bl stop) H') (fun H' => Q (.bl (!stop)) H') a s5 → Q' (.ref a) s5) :
    wpAny (model X.prog X.w) X.A (eval (.GeneratorExp elt [⟨tg, iter, ifs, 0⟩] scope gpos) X.env) Q' X.xe s := by
  refine wpAny_GeneratorExp_make S.co (closure_ok S.free) S.cell S.dot S.kind (by have := hr.dp; omega) ?_ hs
  refine thn (hi.run pins s σ H _ I h) fun xv s1 h1 => thn h1 fun itv s2 h2 => ?_
  obtain ⟨it, fp, tn, J, H1, rfl, I2, T, st2, f2, hP, step⟩ := h2
  obtain ⟨ps, eP, tr⟩ := hP
  have lim2 : s2.heap.NoLimit := I2.nolimit
  refine ⟨lim2, ?_⟩
  have hPs : s2.heap.get? P = some { cls := .none, data := .fields ps } := I2.hok P _ eP
  have cd : PySem.W.CodeHd s2.heap c P := TB.code.keeps fun b u e => I2.bk b u e
  have cont : ∀ (code : Value) (h3 : Heap) (tk : Nat) (ps' : Array Value), Heap.ExtBut P s2.heap h3 → s2.heap.objs.size ≤ h3.objs.size → h3.get? P = some { cls := .none, data := .fields ps' } → (∃ more, ps' = ps ++ more) → TriplesOk ps'.toList →
      wpAny (model X.prog X.w) X.A (builtinsFor X.env.globals X.env.builtins) (fun bi s4 => ∀ h', h'.Ns s4.heap.objs.size (fun (y : Str) => if y = ".0" then some (.ref it) else none) → Heap.SameBut s4.heap.objs.size (s4.heap.push { cls := .type "frame", data := .dict #[] }) h' →
        Q' (.ref h'.objs.size) { s4 with gens := s4.gens.push (.fresh (.compStart (.GeneratorExp elt [⟨tg, iter, ifs, 0⟩] scope gpos) 0 (.ref it) .none (genEnv scope (cloFrom X.env.cells scope.names []) s4.heap.objs.size code bi X.env))), toks := s4.toks + 1 + 1 + 1, heap := h'.push { cls := .type "generator", data := .fields #[.int s4.gens.size 0, .str "<genexpr>" (s4.toks + 1), .str (X.env.qual ++ "<genexpr>") (s4.toks + 1 + 1)] } }) X.xe { s2 with heap := h3, toks := tk } := by
    intro code h3 tk ps' hx hsz hP3 hmore ht3
    obtain ⟨bm, ob, e1, e2, e3, e4, e5, e6, e7, e8⟩ := TB.bm
    obtain ⟨more, rfl⟩ := hmore
    have kp3 : ∀ b u, b ≠ P → s2.heap.get? b = some u → h3.get? b = some u := fun b u hb e => hx b u hb e
    refine wpAny_builtinsFor (m := X.mg) (by rw [I2.ok.glob]; exact (I2.mod.glob.keeps I2.bk).extBut hx TB.gP) e1 e2 (kp3 _ _ e4 (I2.bk _ _ e5)) e6 e7 e8 ?_
    intro h' hn hsb
    obtain ⟨s4, hs4⟩ : ∃ s4 : Shared, s4 = { s2 with heap := h3, toks := tk } := ⟨_, rfl⟩
    have s4h : s4.heap = h3 := by rw [hs4]
    have J4 : Inv X pins σ (upd H1 P (.tbl (ps ++ more))) s4 := by
      rw [hs4]
      exact inv_tab (h' := h3) (g' := s2.gens) (d' := s2.drawn) (t' := tk) I2 eP kp3 hP3 I2.bare
    have fpP : ∀ b ∈ fp, b ≠ P := fun b hb e => by
      have := (f2 b hb).1
      rw [e, eP] at this; cases this
    have f4 : ∀ b ∈ fp, FpOk X pins (upd H1 P (.tbl (ps ++ more))) b ∧ ∃ o, s4.heap.get? b = some o := fun b hb => by
      obtain ⟨o, e, _⟩ := T.obj _ _ st2 b hb
      obtain ⟨g0, g1⟩ := f2 b hb
      exact ⟨⟨by rw [upd_ne (fpP b hb)]; exact g0, g1⟩, o, by rw [s4h]; exact kp3 b o (fpP b hb) e⟩
    have st4 : tn 0 s4.heap := by rw [s4h]; exact T.keep _ _ _ st2 fun b hb o e => kp3 b o (fpP b hb) e
    obtain ⟨W, ⟨m0, w0⟩, turn⟩ := step (upd H1 P (.tbl (ps ++ more))) ⟨⟨ps ++ more, upd_same, ht3⟩, fun b hb => upd_ne hb⟩
    show Q' (.ref h'.objs.size) _
    have hn4 : h'.Ns s4.heap.objs.size (fun (y : Str) => if y = ".0" then some (.ref it) else none) := by rw [s4h]; exact hn
    have sz' : h'.objs.size = s4.heap.objs.size + 1 := by rw [s4h]; rw [hsb.1, Heap.size_push]
    have k4 : ∀ b o, s4.heap.get? b = some o → h'.get? b = some o := fun b o e => by
      rw [s4h] at e
      exact hsb.extBut b o (Nat.ne_of_lt (Heap.lt_size e)) (Heap.get?_push_of_some _ e)
    obtain ⟨go, hgo⟩ : ∃ go : Obj, go = { cls := .type "generator", data := .fields #[.int s2.gens.size 0, .str "<genexpr>" (tk + 1), .str (X.env.qual ++ "<genexpr>") (tk + 1 + 1)] } := ⟨_, rfl⟩
    have kg : ∀ b o, s4.heap.get? b = some o → (h'.push go).get? b = some o := fun b o e => Heap.get?_push_of_some _ (k4 b o e)
    have eg : (h'.push go).get? h'.objs.size = some go := Heap.get?_push_size _ (by rw [hgo]; rfl)
    have gcell : ∀ v, go.data ≠ .cell v := fun v q => by rw [hgo] at q; cases q
    have isg : ∀ {h : Heap}, h.get? h'.objs.size = some go → h.IsGen h'.objs.size s2.gens.size := fun {h} e => ⟨go, _, _, e, by rw [hgo], by rw [hgo], by rw [hgo]⟩
    have lim5 : (h'.push go).NoLimit := J4.nolimit.keeps kg
    rw [← hgo]
    refine hQ _ _ ⟨gxOf X N scope code s4 (upd H1 P (.tbl (ps ++ more))) fp [(h'.objs.size, go)], s2.gens.size, m0 + 1, rfl, rfl, fun {τ H s} J => isg (J.pin (h'.objs.size, go) (List.mem_append_left _ (List.mem_singleton.mpr rfl))).1, fun {τ H s1 s'} J eo eb kk => ?_, isg eg, lim5, _, Array.getElem?_push_size .., rfl, ?_⟩
    · exact J4.call' (ch := fp) (eo.trans J.os) (J.base.trans (Un.kept kk)) (J.hok.kept kk) eb fun b hb => by
        obtain ⟨g0, g1, g2, g3, g4, g5⟩ := (f4 b hb).1
        exact ⟨g3, g1, g4, g5⟩
    · subst hs4
      have bare5 : AllBare (s2.gens.push (GenState.fresh (.compStart (.GeneratorExp elt [⟨tg, iter, ifs, 0⟩] scope gpos) 0 (.ref it) .none (gxEnv X scope h3.objs.size code)))) := AllBare.push I2.bare rfl
      have J5 : Inv (gxOf X N scope code { s2 with heap := h3, toks := tk } (upd H1 P (.tbl (ps ++ more))) fp [(h'.objs.size, go)]) [] (capSt js σ) (upd H1 P (.tbl (ps ++ more))) (Shared.setGen { s2 with gens := s2.gens.push (GenState.fresh (.compStart (.GeneratorExp elt [⟨tg, iter, ifs, 0⟩] scope gpos) 0 (.ref it) .none (gxEnv X scope h3.objs.size code))), toks := tk + 1 + 1 + 1, heap := h'.push go } s2.gens.size .running) :=
        gx_inv (m := fun (y : Str) => if y = ".0" then some (.ref it) else none) J4 hr.hd S.kind S.free S.cell f4 rfl (allBare_setGen bare5 rfl) kg (hn4.push _) eg (by rw [sz']; exact Nat.lt_succ_self _) gcell (hcap σ)
      refine gx_start (n := m0 + 1) hr.hd S.co T (hg _ _ _ _ _) (ht _ _ _ _ _) (he _ _ _ _ _) (fun {H'} hn0 b hb => ?_) turn (Nat.lt_succ_self m0) w0 J5 (T.keep _ _ _ st4 fun b hb o e => kg b o e) fun b hb => (f4 b hb).1.1
      obtain ⟨x1, x2⟩ := J5.ok.exf b hb
      refine ⟨hn0 b hb, x1, J5.ok.exfs b hb, .inl hb, x2, fun p hp e => ?_⟩
      have ep : p = (h'.objs.size, go) := by simpa [gxOf] using hp
      obtain ⟨o, eo⟩ := (f4 b hb).2
      have lt := Heap.lt_size eo
      rw [← e, ep] at lt
      have lt2 : (h'.objs.size : Nat) < h3.objs.size := lt
      have e3 : (h'.objs.size : Nat) = h3.objs.size + 1 := sz'
      omega
  cases hf : codeAmong gpos ps.toList with
  | none =>
    refine wpAny_genexprCodeX hcode (cd.code hPs tr) (cd.tab hPs) hf fun c' h' tk hx hge hlt hco' _ htab' _ => ?_
    obtain ⟨o1, vs, f1, tf, fl, tg', inF, tx, t2, op, _, _, _, _, _, _, _, _, _, htr, _⟩ := hco'
    exact cont _ h' tk _ hx (Nat.le_trans hge (Nat.le_of_lt hlt)) htab'.2 ⟨_, rfl⟩ htr
  | some cv =>
    refine wpAny_genexprCode_hit hcode (cd.code hPs tr) hf ?_
    exact cont cv s2.heap s2.toks ps (Heap.ExtBut.refl _ _) (Nat.le_refl _) hPs ⟨#[], by simp⟩ tr
end


section
open PySem.Spec PyProof.Rows GenW GxR
variable {X : Cx}
theorem pe_anyX {c P : Addr} {elt iter tg : Expr} {ifs : List Expr} {p pos gpos : Pos} {scope : Scope} {N : List Str} {js : List (Option Nat)} {wi : TI} {g : TG} {tt : TT} {te : TE} {k : Nat} (hr : Room (k + 1) X.A) (hcal : X.calm = true) (hgl : Gl X "any") (hmg : X.mg "any" = none) (TB : TabB X.base X.mg c P) (hcode : X.env.code = .ref c) (S : GxS X.env scope)
    (hcap : ∀ σ : L2.St, CapOk X scope N σ (capSt js σ)) (hi : PI X tg iter wi) (hg : ∀ code s H ex pn, PG (gxOf X N scope code s H ex pn) tg g) (ht : ∀ code s H ex pn, PTs (gxOf X N scope code s H ex pn) ifs tt) (he : ∀ code s H ex pn, PE (gxOf X N scope code s H ex pn) elt te) (hs : ∀ v, genFold iter X.env v = pure v)
    (hst : starEach [.GeneratorExp elt [⟨tg, iter, ifs, 0⟩] scope gpos] X.env = (false, eval (.GeneratorExp elt [⟨tg, iter, ifs, 0⟩] scope gpos) X.env) :: starEach [] X.env := by rfl) :
    PE X (.Call (.Name "any" p) [.GeneratorExp elt [⟨tg, iter, ifs, 0⟩] scope gpos] [] pos) (tGx P js wi g tt te true) := by
  refine ⟨fun pins s σ H Q I h => ?_⟩
  refine wpAny_Call_Name_kw (ld_blt I hgl hmg boot_any ?_)
  refine PyProof.Rows.callWith_builtin1 ?_ hst (by rfl)
  rw [hst]
  show wpAny _ _ (spliced ((false, eval (.GeneratorExp elt [⟨tg, iter, ifs, 0⟩] scope gpos) X.env) :: backTo pos (starEach [] X.env))) _ _ s
  refine Calls.spliced_cons (gx_made hr hcal TB hcode S hcap hi hg ht he hs I h fun a s5 hG => Calls.spliced_nil ?_)
  obtain ⟨Y, gg, n, hp, hw, hgen, back, hg5, hl5, hgs⟩ := hG
  refine call_function_tree PySem.F.kind_any PySem.F.plain_any PySem.F.entry_any (PySem.F.args_any1 _) ?_
  unfold Builtin.«any»
  refine wpAny_bind (m := oneArg "any" _) (wpAny_pure ?_)
  refine wpAny_bind (wpAny_pyIter_gen hg5 (wpAny_pure ⟨plainId_quiet PySem.F.plain_any_loop _, ?_⟩))
  refine gx_any (Y := Y) ⟨hp, hw⟩ (hr.mono (by omega)) hgen (fun s1 s' τ H' J qs eo eb kk _ => ?_) (fun s1 s' τ H' J qe eo eb kk _ => ?_) rfl n s5 hg5 hl5 hgs
  · exact ⟨.bl true, H', back J eo eb kk, rfl, qs⟩
  · exact ⟨.bl false, H', back J eo eb kk, rfl, qe⟩
theorem pe_allX {c P : Addr} {elt iter tg : Expr} {ifs : List Expr} {p pos gpos : Pos} {scope : Scope} {N : List Str} {js : List (Option Nat)} {wi : TI} {g : TG} {tt : TT} {te : TE} {k : Nat} (hr : Room (k + 1) X.A) (hcal : X.calm = true) (hgl : Gl X "all") (hmg : X.mg "all" = none) (TB : TabB X.base X.mg c P) (hcode : X.env.code = .ref c) (S : GxS X.env scope)
    (hcap : ∀ σ : L2.St, CapOk X scope N σ (capSt js σ)) (hi : PI X tg iter wi) (hg : ∀ code s H ex pn, PG (gxOf X N scope code s H ex pn) tg g) (ht : ∀ code s H ex pn, PTs (gxOf X N scope code s H ex pn) ifs tt) (he : ∀ code s H ex pn, PE (gxOf X N scope code s H ex pn) elt te) (hs : ∀ v, genFold iter X.env v = pure v)
    (hbt : bootBuiltins "all" = some (.builtin "all")) (hst : starEach [.GeneratorExp elt [⟨tg, iter, ifs, 0⟩] scope gpos] X.env = (false, eval (.GeneratorExp elt [⟨tg, iter, ifs, 0⟩] scope gpos) X.env) :: starEach [] X.env := by rfl) :
    PE X (.Call (.Name "all" p) [.GeneratorExp elt [⟨tg, iter, ifs, 0⟩] scope gpos] [] pos) (tGx P js wi g tt te false) := by
  refine ⟨fun pins s σ H Q I h => ?_⟩
  refine wpAny_Call_Name_kw (ld_blt I hgl hmg hbt ?_)
  refine PyProof.Rows.callWith_builtin1 ?_ hst (by rfl)
  rw [hst]
  show wpAny _ _ (spliced ((false, eval (.GeneratorExp elt [⟨tg, iter, ifs, 0⟩] scope gpos) X.env) :: backTo pos (starEach [] X.env))) _ _ s
  refine Calls.spliced_cons (gx_made hr hcal TB hcode S hcap hi hg ht he hs I h fun a s5 hG => Calls.spliced_nil ?_)
  obtain ⟨Y, gg, n, hp, hw, hgen, back, hg5, hl5, hgs⟩ := hG
  refine call_function_tree PySem.F.kind_all PySem.F.plain_all PySem.F.entry_all (PySem.F.args_all1 _) ?_
  unfold Builtin.«all»
  refine wpAny_bind (m := oneArg "all" _) (wpAny_pure ?_)
  refine wpAny_bind (wpAny_pyIter_gen hg5 (wpAny_pure ⟨plainId_quiet PySem.F.plain_all_loop _, ?_⟩))
  refine gx_all (Y := Y) ⟨hp, hw⟩ (hr.mono (by omega)) hgen (fun s1 s' τ H' J qs eo eb kk _ => ?_) (fun s1 s' τ H' J qe eo eb kk _ => ?_) rfl n s5 hg5 hl5 hgs
  · exact ⟨.bl false, H', back J eo eb kk, rfl, qs⟩
  · exact ⟨.bl true, H', back J eo eb kk, rfl, qe⟩
end


section
open PySem.Spec PyProof.Rows GenW GxR
def gxNames (d : Scope) (dN : List Str) (sc : Scope) (N : List Str) (js : List (Option Nat)) : Bool := (N.zip js).all fun p => match p.2 with
  | none => true
  | some j => decide (sc.names.lookup p.1 = some .free) && decide (d.names.lookup p.1 = some .cell) && decide (dN[j]? = some p.1)
theorem capOk_by {X : Cx} {sc d : Scope} {N dN : List Str} {js : List (Option Nat)} (e1 : X.env.scope = d) (e2 : X.N = dN) (hl : js.length = N.length) (h : gxNames d dN sc N js = true) : ∀ σ : L2.St, CapOk X sc N σ (capSt js σ) := by
  intro σ
  refine ⟨by unfold capSt; rw [List.length_map]; exact hl, fun i y v h1 h2 => ?_⟩
  unfold capSt at h2
  rw [List.getElem?_map] at h2
  obtain ⟨o, ho, hv⟩ := Option.map_eq_some_iff.mp h2
  cases o with
  | none => cases hv
  | some j =>
    have hv2 : (σ[j]?).getD none = some v := hv
    have hm : (y, some j) ∈ N.zip js := by
      refine List.mem_iff_getElem?.mpr ⟨i, ?_⟩
      rw [List.getElem?_zip_eq_some]
      exact ⟨h1, ho⟩
    have q := List.all_eq_true.mp h _ hm
    simp only [Bool.and_eq_true, decide_eq_true_eq] at q
    obtain ⟨⟨q1, q2⟩, q3⟩ := q
    have kd : X.env.scope.names.lookup y = some .cell := by rw [e1]; exact q2
    refine ⟨q1, .inl kd, .inr (.inl kd), j, by rw [e2]; exact q3, ?_⟩
    cases hs : σ[j]? with
    | none => rw [hs] at hv2; cases hv2
    | some u =>
      rw [hs] at hv2
      have : u = some v := hv2
      rw [this]
def gxLook (d sc : Scope) : Bool := decide (sc.kind = .function) && !sc.isCoroutine && sc.names.all (fun y => !decide (y.2 = .cell)) && decide (sc.names.lookup (".0" : Str) = some NameKind.local) && sc.names.all (fun y => !decide (y.2 = .free) || decide (d.names.lookup y.1 = some .cell))
theorem gxS_by {env : Env} {sc d : Scope} {n : Nat} (e1 : env.cells = cellsFrom n d.names []) (h : gxLook d sc = true) : GxS env sc := by
  unfold gxLook at h
  simp only [Bool.and_eq_true, Bool.not_eq_true', decide_eq_true_eq, List.all_eq_true, decide_eq_false_iff_not, Bool.or_eq_true] at h
  obtain ⟨⟨⟨⟨h1, h2⟩, h3⟩, h4⟩, h5⟩ := h
  refine ⟨h1, h2, h3, h4, fun y hy hf => ?_⟩
  rw [e1]
  rcases h5 y hy with z | z
  · exact absurd hf z
  · exact cell_has z
theorem room_gx {k : Nat} {A : Around} {e : Env} (r : Room (k + 3) A) : Room k (A.in1.in1.deeper e) := r.in1.in1.deeper e
/-- the generator's turns over a walk -/
theorem gx_it {J : It} {n : Nat} {G : Hp → Prop} {Y : Nat → Hp → V → Hp → Prop} (w : Walk J n G Y) {g : TG} {tt : TT} {te : TE} {τ : L2.St} {H1 : Hp} {stop : Bool} {Qs Qe : Hp → Prop} (Pv : Nat → L2.St → Hp → Prop) (h0 : Pv 0 τ H1) (hG : ∀ i τ H, i ≤ n → Pv i τ H → G H)
    (hs : ∀ i x τ H H', i < n → Pv i τ H → Y i H x H' → g x τ H' fun τ2 H2 => tt τ2 H2 fun b H3 => if b = true then te τ2 H3 fun y H4 => ∃ c, y = .bl c ∧ if c = stop then Qs H4 else Pv (i + 1) τ2 H4 else Pv (i + 1) τ2 H3) (hd : ∀ τ H, Pv n τ H → Qe H) :
    ∃ W : Nat → Nat → L2.St → Hp → Prop, (∃ m, W 0 m τ H1) ∧ tGxW J g tt te stop Qs Qe W := by
  refine ⟨fun i m τ H => m = n - i ∧ i ≤ n ∧ Pv i τ H, ⟨n, by simp, Nat.zero_le _, h0⟩, ?_⟩
  rintro i m τ H ⟨rfl, hi, p⟩
  have q := hG i τ H hi p
  by_cases hlt : i < n
  · exact .inr ⟨w.goes i H hlt q, Pv (i + 1), fun τ' H' p' => ⟨n - (i + 1), by omega, rfl, hlt, p'⟩, fun x H' y => hs i x τ H H' hlt p (w.yields i H x H' hlt q y)⟩
  · have e : i = n := by omega
    subst e
    exact .inl ⟨w.stops H q, hd τ H p⟩
end
section
open PySem.Spec PyProof.Rows
variable {P : Program} {w : World} {K : PySem.W.Frag} {mg : Str → Option Value} {base : Heap}
/-- a def whose code object is known by its place -/
theorem fun_okC {x qual : Str} {st : Stmt} {f c : Addr} {fd : FuncData} {N ps : List Str} {k : Nat} {sp : Sp} (F : Fun K x qual st f fd) (hc : fd.code = .ref c) (S : FnScope N ps (defScope st)) (len : ∀ vs H Q E, sp vs H Q E → vs.length = ps.length)
    (hbody : ∀ (A : Around) (outer : List Env) (s : Shared) (H : Hp) (vs : List V) (Q : VK) (E : XK), Room k (A.deeper (envOfC qual (defScope st) s.heap.objs.size f (.ref c))) → sp vs H Q E →
      ∃ t, PSs (cxOf CX0 P w K mg base N qual (defScope st) f (.ref c) A outer s H E).nox (defBody st) t ∧ t { nx := fun _ H' => Q .non H', rt := Q } (start N vs) H) : FnOk P w K mg base CX0 (k + 1) f fd ps sp := by
  obtain ⟨oc, od, kV, doc, pm, an, cdv, ct, osl, rfl, lk, hcd⟩ := F.ex
  have e : cdv = .ref c := hc
  subst e
  refine fn_of lk hcd S len fun A outer s H vs Q E hr hsp => ?_
  obtain ⟨t, h, q⟩ := hbody A outer s H vs Q E hr hsp
  exact ⟨t, h.nox, q⟩
end


/-! ### several tables of code objects: (P, none) of generators, (P, name) of lambdas -/
theorem fa_nil {α : Type} {M : α → Prop} : ∀ p ∈ ([] : List α), M p := fun p hp => nomatch hp
theorem fa_cons {α : Type} {M : α → Prop} {a : α} {l : List α} (h : M a) (t : ∀ p ∈ l, M p) : ∀ p ∈ a :: l, M p := fun p hp => by
  rcases List.mem_cons.mp hp with rfl | hp
  · exact h
  · exact t p hp
/-- the def's code object has its table at P -/
def TbF (base : Heap) (mg : Str → Option Value) (fd : FuncData) (P : Addr) : Prop := ∃ c, fd.code = .ref c ∧ LamX.TabB base mg c P
theorem tabB_of {base : Heap} {mg : Str → Option Value} {c P : Addr} (t : LamX.TabB base mg c P) : GxR.TabB base mg c P := ⟨t.code, t.bm, t.gP⟩
abbrev Tbl2 := Addr × Option Str
section
open GxR
def TabX (H : Hp) (t : Tbl2) : Prop := match t.2 with
  | none => TabG H t.1
  | some q => LamX.TabS H t.1 q
theorem TabX.tbl {H : Hp} {t : Tbl2} (h : TabX H t) : ∃ ps, H t.1 = some (.tbl ps) := by
  obtain ⟨P, o⟩ := t
  cases o with
  | none => obtain ⟨ps, e, _⟩ := (show TabG H P from h); exact ⟨ps, e⟩
  | some q => obtain ⟨ps, e, _⟩ := (show LamX.TabS H P q from h); exact ⟨ps, e⟩
/-- what is tracked away from the address P stands -/
theorem TabX.but {H H1 : Hp} {t : Tbl2} {P : Addr} (h : TabX H t) (hn : t.1 ≠ P) (k : ∀ b o, b ≠ P → H b = some o → H1 b = some o) (hP : ∀ c q, H P ≠ some (LamX.CodeO c q)) : TabX H1 t := by
  obtain ⟨R, o⟩ := t
  cases o with
  | none => obtain ⟨ps, e, z⟩ := (show TabG H R from h); exact (⟨ps, k _ _ hn e, z⟩ : TabG H1 R)
  | some q =>
    obtain ⟨ps, e, z, y⟩ := (show LamX.TabS H R q from h)
    refine (⟨ps, k _ _ hn e, z, fun pos cv hc => ?_⟩ : LamX.TabS H1 R q)
    obtain ⟨c, e1, e2⟩ := y pos cv hc
    exact ⟨c, e1, k _ _ (fun n => hP c q (by rw [← n]; exact e2)) e2⟩
theorem TabX.same {H H1 : Hp} {t : Tbl2} (h : TabX H t) (s : Same H H1) : TabX H1 t := by
  obtain ⟨R, o⟩ := t
  cases o with
  | none => obtain ⟨ps, e, z⟩ := (show TabG H R from h); exact (⟨ps, s _ _ e, z⟩ : TabG H1 R)
  | some q => exact LamX.TabS.ext (show LamX.TabS H R q from h) s
def TabsG (H : Hp) (Ps : List Tbl2) : Prop := (Ps.map (·.1)).Nodup ∧ ∀ t ∈ Ps, TabX H t
def noT (Ps : List Tbl2) (c : Addr) : Prop := ∀ t ∈ Ps, t.1 ≠ c
/-- all but the tables stand as before -/
def KT (Ps : List Tbl2) (H H' : Hp) : Prop := TabsG H' Ps ∧ ∀ c o, H c = some o → noT Ps c → H' c = some o
variable {Ps : List Tbl2} {P : Addr} {H H1 H2 : Hp}
theorem uniq_of : ∀ {Ps : List Tbl2}, (Ps.map (·.1)).Nodup → ∀ t ∈ Ps, ∀ u ∈ Ps, t.1 = u.1 → t = u
  | [], _, _, h, _, _, _ => nomatch h
  | a :: l, nd, t, ht, u, hu, e => by
    rw [List.map_cons, List.nodup_cons] at nd
    rcases List.mem_cons.mp ht with h1 | h1
    · rcases List.mem_cons.mp hu with h2 | h2
      · rw [h1, h2]
      · exact (nd.1 (List.mem_map.mpr ⟨u, h2, by rw [← e, h1]⟩)).elim
    · rcases List.mem_cons.mp hu with h2 | h2
      · exact (nd.1 (List.mem_map.mpr ⟨t, h1, by rw [e, h2]⟩)).elim
      · exact uniq_of nd.2 t h1 u h2 e
theorem TabsG.same (h : TabsG H Ps) (s : Same H H1) : TabsG H1 Ps := ⟨h.1, fun t ht => (h.2 t ht).same s⟩
theorem TabsG.kp {b : Addr} {xs : List V} (h : TabsG H Ps) (hb : H b = some (.lst xs)) (k : Kp b H H1) : TabsG H1 Ps := ⟨h.1, fun t ht => (h.2 t ht).but (P := b) (fun z => by
  obtain ⟨ps, e⟩ := (h.2 t ht).tbl
  rw [z, hb] at e
  cases e) (fun c o n e => k c o e n) (fun c q e => by rw [hb] at e; exact nomatch e)⟩
theorem TabsG.box {b p : Addr} (h : TabsG H Ps) (B : BoxAt H b p) (k : Kp b H H1) : TabsG H1 Ps := by
  obtain ⟨ns, n, h1, h2⟩ := B
  exact h.kp h1 k
theorem TabsG.no {o : HO} {c : Addr} (h : TabsG H Ps) (hc : H c = some o) (hn : ∀ ps, o ≠ .tbl ps) : noT Ps c := fun t ht z => by
  obtain ⟨ps, e⟩ := (h.2 t ht).tbl
  rw [z, hc] at e
  exact hn ps (Option.some.inj e)
theorem KT.refl (h : TabsG H Ps) : KT Ps H H := ⟨h, fun _ _ e _ => e⟩
theorem KT.trans (a : KT Ps H H1) (b : KT Ps H1 H2) : KT Ps H H2 := ⟨b.1, fun c o h n => b.2 c o (a.2 c o h n) n⟩
theorem KT.same (a : KT Ps H H1) (s : Same H1 H2) : KT Ps H H2 := ⟨a.1.same s, fun c o h n => s _ _ (a.2 c o h n)⟩
theorem KT.of (h : TabsG H Ps) (s : Same H H1) : KT Ps H H1 := (KT.refl h).same s
/-- a table is written -/
theorem KT.wrote {o : Option Str} (h : TabsG H Ps) (hP : (P, o) ∈ Ps) (t : TabX H1 (P, o)) (k : ∀ b u, b ≠ P → H b = some u → H1 b = some u) : KT Ps H H1 := by
  refine ⟨⟨h.1, fun u hu => ?_⟩, fun c u e n => k c u (fun z => n _ hP z.symm) e⟩
  by_cases e : u.1 = P
  · rw [uniq_of h.1 u hu (P, o) hP e]; exact t
  · refine (h.2 u hu).but e k fun c q z => ?_
    obtain ⟨ps, e2⟩ := (h.2 _ hP).tbl
    rw [show H P = some (.tbl ps) from e2] at z
    exact LamX.codeO_ne ps (Option.some.inj z).symm
theorem KT.tabbed (h : TabsG H Ps) (hP : (P, none) ∈ Ps) (t : Tabbed P H H1) : KT Ps H H1 := KT.wrote h hP (show TabG H1 P from t.1) fun b u n e => by rw [t.2 b n]; exact e
theorem KT.at_ (a : KT Ps H H1) (h : TabsG H Ps) {c : Addr} {o : HO} (e : H c = some o) (n : ∀ ps, o ≠ .tbl ps) : H1 c = some o := a.2 c o e (h.no e n)
theorem KT.tk (a : KT Ps H H1) (h : TabsG H Ps) : TK H H1 := by
  intro c u hu r
  obtain ⟨ys, rfl⟩ := hu
  rcases r with r | ⟨o, r⟩
  · exact .inl (a.at_ h r fun ps z => nomatch z)
  · exact .inr ⟨o, a.at_ h r fun ps z => nomatch z⟩
theorem KT.lst (a : KT Ps H H1) (h : TabsG H Ps) {c : Addr} {xs : List V} (e : H c = some (.lst xs)) : H1 c = some (.lst xs) := a.at_ h e fun ps z => nomatch z
theorem KT.seqL {K : PySem.W.Frag} (a : KT Ps H H1) (h : TabsG H Ps) {c : Addr} {xs : List V} (e : SqL K H c xs) : SqL K H1 c xs := by
  rcases e with (e | ⟨o, e⟩) | e
  · exact .inl (.inl (a.lst h e))
  · exact .inl (.inr ⟨o, a.at_ h e fun ps z => nomatch z⟩)
  · exact .inr e
theorem KT.box {b p : Addr} (a : KT Ps H H1) (h : TabsG H Ps) (B : BoxAt H b p) : BoxAt H1 b p := by
  obtain ⟨ns, n, h1, h2⟩ := B
  exact ⟨ns, n, a.lst h h1, a.lst h h2⟩
theorem KT.lat {K : PySem.W.Frag} {d : Addr} {ds : List PyData} (a : KT Ps H H1) (h : TabsG H Ps) (L : LAt K H d ds) : LAt K H1 d ds := L.tk (a.tk h) fun o e => by
  obtain ⟨vs, e1, _⟩ := L
  rw [e1] at e
  have e := Option.some.inj e
  subst e
  exact a.lst h e1
theorem tab_of (h : TabsG H Ps) (m : (P, none) ∈ Ps) : TabG H P := h.2 _ m
theorem tabS_of {q : Str} (h : TabsG H Ps) (m : (P, some q) ∈ Ps) : LamX.TabS H P q := h.2 _ m
/-- at the start all tables are empty -/
theorem TabsG.start (hn : (Ps.map (·.1)).Nodup) (h : ∀ P ∈ Ps.map (·.1), H P = some (.tbl #[])) : TabsG H Ps := ⟨hn, fun t ht => by
  have e := h t.1 (List.mem_map.mpr ⟨t, ht, rfl⟩)
  obtain ⟨R, o⟩ := t
  cases o with
  | none => exact (⟨#[], e, trivial⟩ : TabG H R)
  | some q => exact (LamX.TabS.nil e : LamX.TabS H R q)⟩
end
def ySpLawT (K : PySem.W.Frag) (As : List Addr) : Sp := fun vs H Q E => As.Nodup ∧ (∀ P ∈ As, H P = some (.tbl #[])) ∧ ySpLaw K vs H Q E


/-! ### a lambda with parameters and captured names, handed to a def that calls it -/
section
open PySem.Spec PyProof.Rows NdefX LamX
/-- the lambda's words -/
abbrev lamF (q : Str) (params : Arguments) (scope : Scope) (cl : List (Str × Addr)) (c' : Addr) : NF := ⟨"<lambda>", q, params, [], scope, cl, c'⟩
/-- the base holds the lambda at f, and the cells that it captured: fr, with the values ws -/
structure LamAt (base : Heap) (q : Str) (params : Arguments) (body : Expr) (scope : Scope) (f c' : Addr) (cl : List (Str × Addr)) (fr : List Str) (ws : List V) : Prop where
  obj : ∃ pm ctv, base.get? f = some (PySem.W.kla_obj "<lambda>" q params body scope cl pm c' ctv)
  len : ws.length = fr.length
  all : ∀ y c, cl.lookup y = some c → ∃ v, base.IsCell c v
  inj : ∀ x y c, cl.lookup x = some c → cl.lookup y = some c → x = y
  has : ∀ (i : Nat) (y : Str), fr[i]? = some y → ∃ c, cl.lookup y = some c ∧ ∀ v, ws[i]? = some v → ∃ u, L2.RelV v u ∧ base.IsCell c (some u)
/-- the function at f, called with one value, promises sp -/
structure LamOk (P : Program) (w : World) (K : PySem.W.Frag) (mg : Str → Option Value) (base : Heap) (j : Nat) (f : Addr) (sp : V → Hp → VK → Prop) : Prop where
  fn : ∃ oc od fd sl, base.get? f = some ⟨oc, od, .func fd, sl⟩
  run : ∀ (A : Around) (outer : List Env) (s : Shared) (H : Hp) (u : Value) (v : V) (Q : VK), Room j A → Env0 P w K mg base A outer s H → L2.RelV v u → sp v H Q → codeAny (model P w) A (.call (.ref f) ⟨[u], []⟩) (CR CX0 outer P w H s Q E0) s
theorem IsCell.up {h h' : Heap} {c : Addr} {v : Option Value} (z : h.IsCell c v) (k : ∀ b o, h.get? b = some o → h'.get? b = some o) : h'.IsCell c v := by
  obtain ⟨o, ho, hd⟩ := z
  exact ⟨o, k _ _ ho, hd⟩
theorem LamAt.cells {base : Heap} {q : Str} {params : Arguments} {body : Expr} {scope : Scope} {f c' : Addr} {cl : List (Str × Addr)} {fr : List Str} {ws : List V} (L : LamAt base q params body scope f c' cl fr ws) {h : Heap} {H : Hp} (k : ∀ b o, base.get? b = some o → h.get? b = some o ∧ H b = none) : CellsAt cl fr (ws.map some) h H := by
  refine ⟨by rw [List.length_map]; exact L.len, fun y c e => ?_, L.inj, fun i y e => ?_⟩
  · obtain ⟨v, z⟩ := L.all y c e
    have z2 := z
    obtain ⟨o, ho, _⟩ := z2
    exact ⟨(k c o ho).2, v, IsCell.up z fun b o e => (k b o e).1⟩
  · obtain ⟨c, hc, hv⟩ := L.has i y e
    refine ⟨c, hc, fun v ev => ?_⟩
    rw [List.getElem?_map] at ev
    obtain ⟨v2, e2, e3⟩ := Option.map_eq_some_iff.mp ev
    obtain ⟨u, r, z⟩ := hv v2 e2
    rw [← Option.some.inj e3]
    exact ⟨u, r, IsCell.up z fun b o e => (k b o e).1⟩
/-- the lambda by its body -/
theorem lam_ok {P : Program} {w : World} {K : PySem.W.Frag} {mg : Str → Option Value} {base : Heap} {q : Str} {params : Arguments} {body : Expr} {scope : Scope} {f c' : Addr} {cl : List (Str × Addr)} {fr N : List Str} {ws : List V} {x : Str} {j : Nat} {sp : V → Hp → VK → Prop}
    (L : LamAt base q params body scope f c' cl fr ws) (S : NScope N [x] fr scope) (hb : ∀ (pm cv ctv : Value) (u : Value), bindArgs (PySem.W.kla_fn "<lambda>" q params body scope cl pm cv ctv) ⟨[u], []⟩ = pure [(x, u)])
    (hcode : ∀ v H Q, sp v H Q → H c' = some (CodeO c' q))
    (hbody : ∀ (A : Around) (outer : List Env) (s : Shared) (H : Hp) (v : V) (Q : VK), Room j (A.deeper (envF (lamF q params scope cl c') f s.heap.objs.size)) → sp v H Q → ∃ t, PE (ncx CX0 P w K mg base N (lamF q params scope cl c') f A outer s H E0) body t ∧ t (startF N [v] (ws.map some)) H Q) :
    LamOk P w K mg base (j + 1) f sp := by
  obtain ⟨pm, ctv, hobj⟩ := L.obj
  refine ⟨⟨_, _, _, _, hobj⟩, fun A outer s H u v Q hr e0 r h => ?_⟩
  have C := L.cells e0.bs
  have lim : s.heap.NoLimit := e0.mod.nolimit.keeps fun b o e => (e0.bs b o e).1
  have hrec := codeO_at e0.hok (hcode v H Q h)
  refine PySem.W.kla_callFunE hr.depth (e0.bs _ _ hobj).1 rfl S.co S.gen rfl hrec ?_
  rw [hb]
  refine wpAny_pure (wpAny_newFunctionEnv S.nocell (fun ⟨n, v1⟩ hy => S.par n (by rw [List.mem_singleton] at hy ⊢; exact (Prod.mk.inj hy).1)) (fun g hns hsb => ⟨lim.fresh _ hsb, ?_⟩) S.kind)
  have up : ∀ b o, s.heap.get? b = some o → g.get? b = some o := fun b o e => hsb.extBut b o (Nat.ne_of_lt (Heap.lt_size e)) (Heap.get?_push_of_some _ e)
  have I := inv_startN (CX := CX0) (F := lamF q params scope cl c') (f := f) (E := E0) (tk := s.toks + ([(x, u)] : List (Str × Value)).length) S hr.hd e0 (vs := [v]) (us := [u]) rfl (.cons r .nil) C hns up
  obtain ⟨t, ht, hq⟩ := hbody A outer s H v Q (hr.deeper _) h
  refine PySem.W.kla_codeExpr (wpAny_mono (ht.run [] _ _ H Q I hq) (fun v2 s2 h2 => ?_) fun e2 s2 h2 => h2)
  obtain ⟨y, H2, J, ry, qy⟩ := h2
  exact ⟨y, H2, J.os, J.bare, J.base, J.hok, ry, qy⟩
/-- x(e), x a name that holds such a function -/
def tLamC (i : Nat) (f : Addr) (sp : V → Hp → VK → Prop) (te : TE) : TE := fun σ H Q => σ[i]? = some (some (.ref f)) ∧ te σ H fun v H1 => sp v H1 Q
theorem pe_lamC {X : Cx} {x : Str} {i j : Nat} {f : Addr} {sp : V → Hp → VK → Prop} {e : Expr} {te : TE} {p1 p2 : Pos} (L : LamOk X.prog X.w X.K X.mg X.base j f sp) (hr : Room j X.A) (hN : X.N[i]? = some x) (hv : Vis X.env.scope x) (he : PE X e te)
    (hd : (x == ("__debug__" : Str)) = false := by decide) (hcd : (x == ("__classdict__" : Str)) = false := by decide)
    (hs : starEach [e] X.env = (false, eval e X.env) :: starEach [] X.env := by rfl) : PE X (.Call (.Name x p1) [e] [] p2) (tLamC i f sp te) := by
  refine ⟨fun pins s σ H Q I ⟨h1, h2⟩ => ?_⟩
  refine wpAny_Call_Name_kw (thn ((pe_var (pos := p1) (i := i) hN hv hd hcd).run pins s σ H (fun v G => v = .ref f ∧ G = H) I ⟨.ref f, h1, rfl, rfl⟩) fun u1 s1 z1 => ?_)
  obtain ⟨v1, H1, I1, r1, e1, e2⟩ := z1
  subst e1
  subst e2
  cases (show u1 = Value.ref f from r1)
  have fnAt : ∀ {s3 : Shared} {H3 : Hp}, Inv X pins σ H3 s3 → PySem.W.FnAt f s3.heap := fun J => by
    obtain ⟨oc, od, fd, sl, hf⟩ := L.fn
    exact ⟨oc, od, fd, sl, J.bk _ _ hf⟩
  refine PySem.W.callWith_F (first := []) (fnAt I1) ?_ hs (by rfl)
  rw [hs]
  show wpAny _ _ (spliced ((false, eval e X.env) :: backTo p2 (starEach [] X.env))) _ _ _
  refine Calls.spliced_cons (thn (he.run pins s1 σ H1 _ I1 h2) fun u3 s3 z3 => Calls.spliced_nil ?_)
  obtain ⟨v3, H3, I3, r3, q3⟩ := z3
  refine ⟨fnAt I3, ?_⟩
  refine wpAny_call (codeAny_mono (L.run X.A X.stack s3 H3 u3 v3 Q hr I3.env0 r3 q3) fun r s4 h4 => ?_)
  cases r with
  | error e => exact h4.elim
  | ok fl =>
    cases fl with
    | ret u => exact I3.after h4
    | next => exact h4.elim
    | brk => exact h4.elim
    | cont => exact h4.elim
/-- all that stands untracked may be taken for the base -/
theorem funs_re {h base base' : Heap} : ∀ {l : List Env}, h.FunFrames base l → (∀ b ∈ frs l, base'.get? b = none) → h.FunFrames base' l
  | [], _, _ => trivial
  | env :: rest, z, hn => by
    obtain ⟨h1, ⟨L, o, h2, h3, h4, h5⟩, h6⟩ := z
    have e : frs (env :: rest) = L :: frs rest := by
      show (env :: rest).filterMap (·.frame) = L :: rest.filterMap (·.frame)
      rw [List.filterMap_cons, h2]
    rw [e] at hn
    exact ⟨h1, ⟨L, o, h2, hn L List.mem_cons_self, h4, h5⟩, funs_re h6 fun b hb => hn b (List.mem_cons_of_mem _ hb)⟩
theorem rebase {P : Program} {w : World} {K : PySem.W.Frag} {mg : Str → Option Value} {base : Heap} {A : Around} {outer : List Env} {s : Shared} {H : Hp} (e0 : Env0 P w K mg base A outer s H) :
    ∃ base', Env0 P w K mg base' A outer s H ∧ (∀ b o, base.get? b = some o → base'.get? b = some o) ∧ ∀ b o, s.heap.get? b = some o → H b = none → b ∉ frs outer → base'.get? b = some o := by
  classical
  obtain ⟨Hh, hHh⟩ : ∃ Hh : Hp, Hh = fun b => if b ∈ frs outer then some (.lst []) else H b := ⟨_, rfl⟩
  have n1 : ∀ b, b ∉ frs outer → Hh b = H b := fun b hb => by rw [hHh]; exact if_neg hb
  have n2 : ∀ b, Hh b = none → b ∉ frs outer ∧ H b = none := fun b e => by
    by_cases hb : b ∈ frs outer
    · rw [hHh] at e
      have e3 := (if_pos hb).symm.trans e
      exact nomatch e3
    · exact ⟨hb, (n1 b hb).symm.trans e⟩
  have get : ∀ b o, s.heap.get? b = some o → H b = none → b ∉ frs outer → (hidT s.heap Hh).get? b = some o := fun b o e n hb => hidT_get e (by rw [n1 b hb]; exact n)
  have sub : ∀ b o, base.get? b = some o → (hidT s.heap Hh).get? b = some o := fun b o e => get b o (e0.bs b o e).1 (e0.bs b o e).2 fun hb => by
    have := (e0.funs.mem hb).1
    rw [e] at this
    exact nomatch this
  refine ⟨hidT s.heap Hh, ⟨e0.frames, ⟨e0.mod.kin.keeps sub, e0.mod.glob.keeps sub, ?_, e0.mod.nolimit.keeps sub⟩, fun b o e => ?_, Nat.le_of_eq (hidT_size _ _), ?_, e0.frf, e0.hok, e0.bare⟩, sub, get⟩
  · obtain ⟨mb, h1, h2⟩ := e0.mod.blt
    exact ⟨mb, h1.keeps sub, h2⟩
  · have z := of_hidT e
    exact ⟨z.1, (n2 b z.2).2⟩
  · refine funs_re e0.funs fun b hb => ?_
    cases e : (hidT s.heap Hh).get? b with
    | none => rfl
    | some o => exact absurd hb (n2 b (of_hidT e).2).1
end


section
open PySem.Spec PyProof.Rows NdefX LamX
variable {X : Cx} {pins : List (Addr × Obj)} {σ : L2.St} {H : Hp} {s : Shared}
theorem kept_code {H H1 : Hp} {P : Addr} {ps : Array Value} (hP : H P = some (.tbl ps)) (k : ∀ b u, b ≠ P → H b = some u → H1 b = some u) {c : Addr} {q : Str} (e : H c = some (CodeO c q)) : H1 c = some (CodeO c q) :=
  k c _ (fun z => by rw [z, hP] at e; exact codeO_ne ps (Option.some.inj e).symm) e
/-- a lambda is made: its code object is new, or the table tells it -/
theorem lam_new {c P : Addr} {q : Str} {params : Arguments} {body : Expr} {scope : Scope} {pos : Pos} {FE : Value → Shared → Prop} {QQ : Value → Shared → Prop} (I : Inv X pins σ H s) (TB : LamX.TabB X.base X.mg c P) (hcode : X.env.code = .ref c) (hq : X.env.qual ++ "<lambda>" = q) (hT : TabS H P q) (hdef : defaultsOf params X.env = ([], []))
    (hfree : ∀ y ∈ scope.names, y.2 = .free → ∃ a, X.env.cells.lookup y.1 = some a)
    (fin : ∀ (f c' : Addr) (pm ctv : Value) (H1 : Hp) (s1 : Shared), Inv X pins σ H1 s1 → (∀ b u, b ≠ P → H b = some u → H1 b = some u) → TabS H1 P q → s1.heap.get? f = some (PySem.W.kla_obj "<lambda>" q params body scope (cloFrom X.env.cells scope.names []) pm c' ctv) → H1 f = none → f ∉ frs X.stack → H1 c' = some (CodeO c' q) → QQ (.ref f) s1) :
    wpAny (model X.prog X.w) X.A (eval (.Lambda params body scope pos) X.env) QQ FE s := by
  subst hq
  obtain ⟨ps, eP, tr, told⟩ := hT
  have heapP : s.heap.get? P = some { cls := .none, data := .fields ps } := I.hok P _ eP
  have off : ∀ f, s.heap.objs.size ≤ f → f ∉ frs X.stack := fun f ge z => by
    rcases List.mem_cons.mp (I.stkSub _ z) with z | z
    · exact absurd (Nat.lt_of_lt_of_le I.lt ge) (by rw [z]; exact Nat.lt_irrefl _)
    · exact I.nofs ge z
  refine PySem.W.kla_eval hdef ?_
  cases found : codeAmong pos ps.toList with
  | some cv =>
    obtain ⟨a, rfl, ea⟩ := told pos cv found
    refine PySem.W.kla_makeFunctionHit (c := c) (P := P) (ps := ps) (mg := X.mg) (closure_ok hfree) I.ok.glob (I.mod.glob.keeps I.bk) hcode (TB.code.keeps I.bk) heapP tr found (TB.bm.keeps I.bk) fun ctv g tk up sz => ?_
    have J : Inv X pins σ H { s with heap := g.push (PySem.W.kla_obj "<lambda>" (X.env.qual ++ "<lambda>") params body scope (cloFrom X.env.cells scope.names []) ((X.mg "__name__").getD .none) a ctv), toks := tk } := I.kept fun b u e => Heap.get?_push_of_some _ (up b u e)
    exact fin g.objs.size a _ ctv H _ J (fun b u _ e => e) ⟨ps, eP, tr, told⟩ (Heap.get?_push_size _ rfl) (I.hok.fresh sz) (off _ sz) ea
  | none =>
    refine PySem.W.kla_makeFunction (c := c) (P := P) (ps := ps) (mg := X.mg) (closure_ok hfree) I.ok.glob (I.mod.glob.keeps I.bk) hcode (TB.code.keeps I.bk) heapP tr found TB.gP (TB.bm.keeps I.bk) fun a ctv g tk up ge lt rec tab => ?_
    obtain ⟨a2, oc, vs, t, ea2, hoc, hd, hv⟩ := rec
    cases ea2
    have sz : s.heap.objs.size ≤ g.objs.size := Nat.le_trans ge (Nat.le_of_lt lt)
    have na : H a = none := I.hok.fresh ge
    have nPa : P ≠ a := ne_of_none eP na
    obtain ⟨more, hmore⟩ : ∃ more : Array Value, more = #[rawInt pos.line, rawInt pos.col, .ref a] := ⟨_, rfl⟩
    rw [← hmore] at tab
    have J := inv_table (t' := tk) (q := X.env.qual ++ "<lambda>") (more := more) (h' := g.push (PySem.W.kla_obj "<lambda>" (X.env.qual ++ "<lambda>") params body scope (cloFrom X.env.cells scope.names []) ((X.mg "__name__").getD .none) a ctv)) I eP
      (fun b u hb e => Heap.get?_push_of_some _ (up b u hb e)) (Heap.get?_push_of_some _ tab) ge ⟨oc, vs, t, Heap.get?_push_of_some _ hoc, hd, hv⟩
    have kp : ∀ b u, b ≠ P → H b = some u → upd (upd H P (.tbl (ps ++ more))) a (CodeO a (X.env.qual ++ "<lambda>")) b = some u := fun b u hb e => by
      rw [upd_ne (ne_of_none e na), upd_ne hb]; exact e
    have eL : (ps ++ more).toList = ps.toList ++ [rawInt pos.line, rawInt pos.col, .ref a] := by rw [hmore]; simp
    refine fin g.objs.size a _ ctv _ _ J kp ⟨ps ++ more, by rw [upd_ne nPa, upd_same], by rw [eL]; exact PySem.TriplesOk_snoc _ _ _ _ tr, fun p cv hcv => ?_⟩ (Heap.get?_push_size _ rfl) ?_ (off _ sz) upd_same
    · rw [eL] at hcv
      rcases among_app _ tr hcv with z | z
      · obtain ⟨b, e1, e2⟩ := told p cv z
        exact ⟨b, e1, kept_code eP kp e2⟩
      · exact ⟨a, z, upd_same⟩
    · have n2 : g.objs.size ≠ P := Nat.ne_of_gt (Nat.lt_of_lt_of_le (Heap.lt_size heapP) sz)
      rw [upd_ne (Nat.ne_of_gt lt), upd_ne n2]
      exact I.hok.fresh sz
/-- x(e, lambda ..): the def x is asked over a base that holds the lambda -/
def tMk (P : Addr) (q : Str) (js : List Nat) (sp : List V → Addr → Addr → Sp) (te : TE) : TE := fun σ H Q => te σ H fun v H1 => TabS H1 P q ∧ ∃ ws : List V, js.map (slotAt σ) = ws.map some ∧
  ∀ (f c' : Addr) (H2 : Hp), (∀ b u, b ≠ P → H1 b = some u → H2 b = some u) → TabS H2 P q → H2 c' = some (CodeO c' q) → sp ws f c' [v, .ref f] H2 Q E0
theorem pe_mk {x : Str} {g c P : Addr} {q : Str} {k : Nat} {fdg : FuncData} {a1 a2 : Str} {params : Arguments} {body : Expr} {scope : Scope} {fr : List Str} {js : List Nat} {sp : List V → Addr → Addr → Sp} {e : Expr} {te : TE} {p lpos pos : Pos}
    (F : ∀ (base' : Heap) (f c' : Addr) (cl : List (Str × Addr)) (ws : List V), (∀ b o, X.base.get? b = some o → base'.get? b = some o) → Mod X.K X.mg base' → LamAt base' q params body scope f c' cl fr ws → FnOk X.prog X.w X.K X.mg base' CX0 k g fdg [a1, a2] (sp ws f c'))
    (hr : Room k X.A) (hg : Gl X x) (hm : X.mg x = some (.ref g)) (hk : PySem.W.keepIn X.K (.ref g) = true) (hb : Binds X.K fdg [a1, a2] []) (TB : LamX.TabB X.base X.mg c P) (hcode : X.env.code = .ref c) (hq : X.env.qual ++ "<lambda>" = q) (hdef : defaultsOf params X.env = ([], []))
    (hfree : ∀ y ∈ scope.names, y.2 = .free → X.env.scope.names.lookup y.1 = some .cell ∨ X.env.scope.names.lookup y.1 = some .free) (hfr : ∀ y ∈ fr, (y, NameKind.free) ∈ scope.names) (hjs : js.map (fun j => X.N[j]?) = fr.map some) (hfn : ∀ y, X.fn y = true) (he : PE X e te)
    (hdb : (x == ("__debug__" : Str)) = false := by decide) (hst : starEach [e, .Lambda params body scope lpos] X.env = (false, eval e X.env) :: starEach [.Lambda params body scope lpos] X.env := by rfl) : PE X (.Call (.Name x p) [e, .Lambda params body scope lpos] [] pos) (tMk P q js sp te) := by
  refine ⟨fun pins s σ H Q I h => ?_⟩
  have free2 : ∀ y ∈ scope.names, y.2 = .free → ∃ a, X.env.cells.lookup y.1 = some a := fun y hy z => (hfree y hy z).elim (fun t => I.ok.has _ (.inl t)) fun t => I.ok.has _ (.inr t)
  refine wpAny_Call_Name_kw (ld_glob I hg hm ?_ hdb)
  refine PySem.W.callWith_K (h₀ := X.base) I.ok.mod.kin hk ?_ hst (by rfl)
  rw [hst]
  show wpAny _ _ (spliced ((false, eval e X.env) :: (false, eval (.Lambda params body scope lpos) X.env) :: backTo pos (starEach [] X.env))) _ _ s
  refine Calls.spliced_cons (thn (he.run pins s σ H _ I h) fun u1 s1 z1 => ?_)
  obtain ⟨v1, H1, I1, r1, hT, ws, ews, step⟩ := z1
  refine Calls.spliced_cons (lam_new I1 TB hcode hq hT hdef free2 fun f c' pm ctv H2 s2 I2 kp T2 hf nf off hc => Calls.spliced_nil ?_)
  refine ⟨I2.kIn, ?_⟩
  have C := cells_of I2 (Caps.made I2.ok hfree hfr hjs)
  have offc : ∀ y a, (cloFrom X.env.cells scope.names []).lookup y = some a → a ∉ frs X.stack := fun y a e z => by
    have e2 := clo_cm free2 e
    rcases List.mem_cons.mp (I2.stkSub _ z) with z | z
    · obtain ⟨o, ho, hd⟩ := ((C.all y a e).2).choose_spec
      obtain ⟨m, ⟨o2, es, ep, ho2, hd2, _⟩, _⟩ := I2.loc
      rw [z, ho2] at ho
      have e3 := Option.some.inj ho
      rw [← e3, hd2] at hd
      exact nomatch hd
    · have ge := I2.ok.cab y a (hfn y) e2
      obtain ⟨_, o, ho, _⟩ := I2.ok.funs.mem z
      exact absurd (Nat.lt_of_lt_of_le (Heap.lt_size ho) ge) (Nat.lt_irrefl _)
  obtain ⟨base', E1, sub, get⟩ := rebase I2.env0
  have cellB : ∀ y a v, (cloFrom X.env.cells scope.names []).lookup y = some a → s2.heap.IsCell a v → base'.IsCell a v := fun y a v e z => by
    obtain ⟨o, ho, hd⟩ := z
    exact ⟨o, get a o ho (C.all y a e).1 (offc y a e), hd⟩
  have L : LamAt base' q params body scope f c' (cloFrom X.env.cells scope.names []) fr ws := by
    refine ⟨⟨pm, ctv, get f _ hf nf off⟩, ?_, fun y a e => ?_, C.inj, fun i y ey => ?_⟩
    · have := C.len
      rw [ews, List.length_map] at this
      exact this
    · obtain ⟨v, z⟩ := (C.all y a e).2
      exact ⟨v, cellB y a v e z⟩
    · obtain ⟨a, ha, hv⟩ := C.has i y ey
      refine ⟨a, ha, fun v ev => ?_⟩
      obtain ⟨u, ru, z⟩ := hv v (by rw [ews, List.getElem?_map, ev]; rfl)
      exact ⟨u, ru, cellB y a _ ha z⟩
  have FF := F base' f c' _ ws sub E1.mod L
  have q2 := step f c' H2 kp T2 hc
  have rv : Vals [v1, V.ref f] [u1, Value.ref f] := .cons r1 (.cons rfl .nil)
  refine wpAny_call (codeAny_mono (FF.run X.A X.stack s2 H2 ⟨[u1, .ref f], []⟩ [u1, .ref f] [v1, .ref f] Q E0 hr E1 (hb s2 [u1, .ref f] I2.kIn rfl) rv q2) fun r s4 h4 => ?_)
  cases r with
  | error e => exact h4.elim
  | ok fl =>
    cases fl with
    | ret u => exact I2.after h4
    | next => exact h4.elim
    | brk => exact h4.elim
    | cont => exact h4.elim
end


theorem strF {A B : Prop} {a b : Str} (h : a ≠ b) (hb : B) : if decide (V.str a = V.str b) = true then A else B := by
  rw [if_neg fun c => h (V.str.inj (of_decide_eq_true c))]
  exact hb
theorem strT {A B : Prop} {a : Str} (ha : A) : if decide (V.str a = V.str a) = true then A else B := by
  rw [if_pos (decide_eq_true rfl)]
  exact ha
theorem dp_kind {K : PySem.W.Frag} {H : Hp} {v : V} {k : Str} {ds : List PyData} (h : Dp K H v (.tuple (.str k :: ds))) : ∃ a us, v = .ref a ∧ SqT K H a (.str k :: us) ∧ DpAll K H us ds := by
  obtain ⟨a, xs, rfl, h1, h2⟩ := Dp.tupI h
  obtain ⟨v, r, rfl, h3, h4⟩ := DpAll.consI h2
  rw [Dp.strI h3] at h1
  exact ⟨a, r, rfl, h1, h4⟩


/-! ### questions of a bounded depth -/
inductive Qd (α : Type) : Type
  | all : Qd α
  | row (ps : List Pat) (gap : Nat) : Qd α
  | neg (q : α) : Qd α
  | bin (o : Bool) (qs : List α) : Qd α
def Qn : Nat → Type
  | 0 => Empty
  | n + 1 => Qd (Qn n)
def encQ : ∀ n, Qn n → PyData
  | 0, q => nomatch (q : Empty)
  | n + 1, q => match (q : Qd (Qn n)) with
    | .all => .tuple [.str "all"]
    | .row ps gap => encRow ps gap
    | .neg q => .tuple [.str "not", encQ n q]
    | .bin o qs => .tuple [.str (if o = true then "or" else "and"), .tuple (qs.map (encQ n))]
def rowB (ws : List Str) (ps : List Pat) (gap : Nat) : Bool := (List.range ws.length).any fun j => beginsB ws ps gap [j]
def qB (ws : List Str) : ∀ n, Qn n → Bool
  | 0, q => nomatch (q : Empty)
  | n + 1, q => match (q : Qd (Qn n)) with
    | .all => true
    | .row ps gap => rowB ws ps gap
    | .neg q => !(qB ws n q)
    | .bin o qs => if o = true then qs.any (qB ws n) else qs.all (qB ws n)
def okQ : ∀ n, Qn n → Prop
  | 0, q => nomatch (q : Empty)
  | n + 1, q => match (q : Qd (Qn n)) with
    | .all => True
    | .row ps _ => 1 ≤ ps.length ∧ ps.length ≤ 6 ∧ ∀ t ∈ ps, t.2.length ≤ 20
    | .neg q => okQ n q
    | .bin _ qs => ∀ q ∈ qs, okQ n q
theorem imm_encQ : ∀ n (q : Qn n), Imm (encQ n q)
  | 0, q => nomatch (q : Empty)
  | n + 1, q => match (q : Qd (Qn n)) with
    | .all => .tup fun d hd => by rw [List.mem_singleton.mp hd]; exact .str _
    | .row ps gap => imm_encRow ps gap
    | .neg q => .tup fun d hd => by
      rcases List.mem_cons.mp hd with rfl | hd
      · exact .str _
      · rw [List.mem_singleton.mp hd]; exact imm_encQ n q
    | .bin o qs => .tup fun d hd => by
      rcases List.mem_cons.mp hd with rfl | hd
      · exact .str _
      · rw [List.mem_singleton.mp hd]
        refine .tup fun x hx => ?_
        obtain ⟨y, _, rfl⟩ := List.mem_map.mp hx
        exact imm_encQ n y


/-! ### questions by what their rows are met -/
def qBy (rb : List Pat → Nat → Bool) : ∀ n, Qn n → Bool
  | 0, q => nomatch (q : Empty)
  | n + 1, q => match (q : Qd (Qn n)) with
    | .all => true
    | .row ps gap => rb ps gap
    | .neg q => !(qBy rb n q)
    | .bin o qs => if o = true then qs.any (qBy rb n) else qs.all (qBy rb n)
theorem qB_by (ws : List Str) : ∀ n (q : Qn n), qB ws n q = qBy (rowB ws) n q
  | 0, q => nomatch (q : Empty)
  | n + 1, q => match (q : Qd (Qn n)) with
    | .all => rfl
    | .row ps gap => rfl
    | .neg q => by
      show (!(qB ws n q)) = !(qBy (rowB ws) n q)
      rw [qB_by ws n q]
    | .bin o qs => by
      have e : qB ws n = qBy (rowB ws) n := funext (qB_by ws n)
      show (if o = true then qs.any (qB ws n) else qs.all (qB ws n)) = if o = true then qs.any (qBy (rowB ws) n) else qs.all (qBy (rowB ws) n)
      rw [e]
def okR (ps : List Pat) : Prop := 1 ≤ ps.length ∧ ps.length ≤ 6 ∧ ∀ t ∈ ps, t.2.length ≤ 20
/-- what the function that is handed over promises of a row -/
def spRow (K : PySem.W.Frag) (Ps : List Tbl2) (G : Hp → Prop) (rb : List Pat → Nat → Bool) : V → Hp → VK → Prop := fun v H Q => ∃ ps gap, Dp K H v (encRow ps gap) ∧ okR ps ∧ TabsG H Ps ∧ G H ∧ ∀ H', KT Ps H H' → Q (.bl (rb ps gap)) H'
def yHolds (K : PySem.W.Frag) (Ps : List Tbl2) (f : Addr) (G : Hp → Prop) (rb : List Pat → Nat → Bool) (n : Nat) : Sp := fun vs H Q _ => ∃ (vq : V) (q : Qn n), vs = [vq, .ref f] ∧ Dp K H vq (encQ n q) ∧ okQ n q ∧ TabsG H Ps ∧ G H ∧ ∀ H', KT Ps H H' → Q (.bl (qBy rb n q)) H'
def yHas (K : PySem.W.Frag) (Ps : List Tbl2) : Sp := fun vs H Q _ => ∃ (vd vr : V) (ws : List Str) (ps : List Pat) (gap : Nat), vs = [vd, vr] ∧ Dp K H vd (encD ws) ∧ Dp K H vr (encRow ps gap) ∧ okR ps ∧ TabsG H Ps ∧ ws.length ≤ 1000 ∧ ∀ H', KT Ps H H' → Q (.bl (rowB ws ps gap)) H'
def yMatch (K : PySem.W.Frag) (Ps : List Tbl2) (n : Nat) : Sp := fun vs H Q _ => ∃ (vd vq : V) (ws : List Str) (q : Qn n), vs = [vd, vq] ∧ Dp K H vd (encD ws) ∧ Dp K H vq (encQ n q) ∧ okQ n q ∧ TabsG H Ps ∧ ws.length ≤ 1000 ∧ ∀ H', KT Ps H H' → Q (.bl (qB ws n q)) H'
section
variable {P : Program} {w : World} {K : PySem.W.Frag} {mg : Str → Option Value} {base : Heap} {A : Nat → Addr} {D : Nat → FuncData}
theorem ok_has_standing (T : Txt K mg A D) {Ps : List Tbl2} {P1 : Addr} (TF : TbF base mg (D 3) P1) (hP : (P1, none) ∈ Ps) : FnOk P w K mg base CX0 6 (A 3) (D 3) ["document", "row"] (yHas K Ps) := by
  obtain ⟨cc, hc, TB0⟩ := TF
  have TB := tabB_of TB0
  have G_begins_standing := ok_begins_standing (P := P) (w := w) (base := base) T
  refine (fun_okC (k := 5) T.F_has_standing hc sc_has_standing (fun vs H Q E h => ?_) (fun A' outer s H vs Q E hr h => ?_) : FnOk P w K mg base CX0 6 _ _ _ _)
  · obtain ⟨vd, vr, ws, ps, gap, rfl, _⟩ := h; rfl
  obtain ⟨vd, vr, ws, ps, gap, rfl, hd, hq, ⟨ok1, ok2, ok3⟩, hT, hws, fin⟩ := h
  have hnd := sc_has_standing.nd
  refine ⟨_, (pss_one (ps_ret (pe_anyX (N := ["place", "document", "row"]) (js := [none, some 0, some 1]) hr rfl rfl T.z_any TB rfl (gxS_by (n := s.heap.objs.size + 1) (d := defScope s_has_standing) rfl (by decide +kernel)) (capOk_by (d := defScope s_has_standing) (dN := N_has_standing) rfl rfl rfl (by decide +kernel)) (pi_range1 rfl T.z_range (pa_cons (pe_callB call_len_seq rfl T.z_len PySem.boot_len (pa_cons (pv 0) pa_nil)) pa_nil)) (fun _ _ _ _ _ => (pg_name (i := 0) (show List.Nodup (["place", "document", "row"] : List Str) by decide) rfl (Or.inl rfl))) (fun _ _ _ _ _ => pts_nil) (fun _ _ _ _ _ => (pe_call G_begins_standing (room_gx (hr.mono (by first | decide | omega))) rfl T.m_begins_standing T.F_begins_standing.kp T.b_begins_standing .nil pass0 (pa_cons (pv 1) (pa_cons (pv 2) (pa_cons (pe_tup (pa_cons (pv 0) pa_nil)) pa_nil))))) (by intro _; rfl)))), ?_⟩
  obtain ⟨ad, rfl, had⟩ := dp_encD hd
  obtain ⟨ar, pa, pxs, rfl, har, hpa, hpx⟩ := dp_encRow hq
  have e0 : (((ws.map V.str).length : Nat) : Int).toNat = ws.length := by rw [List.length_map]; omega
  refine ⟨_, rfl, ad, _, rfl, .inr had, _, rfl, (by rw [List.length_map]; omega), (by rw [List.length_map]; omega), tab_of hT hP, fun H2 t2 => ?_⟩
  have k2 := KT.tabbed hT hP t2
  rw [e0]
  refine gx_it (walk_range (n := ws.length)) (fun i τ H' => KT Ps H H' ∧ (∃ c0, τ = [c0, some (.ref ad), some (.ref ar)]) ∧ ∀ j, j < i → beginsB ws ps gap [j] = false) ⟨k2, ⟨_, rfl⟩, fun j hj => absurd hj (Nat.not_lt_zero j)⟩ (fun _ _ _ _ _ => trivial) ?_ ?_
  · rintro i x τ H3 H4 hi ⟨k3, ⟨c0, rfl⟩, no⟩ ⟨rfl, rfl⟩
    have tk := k3.tk hT
    refine ⟨_, rfl, _, rfl, _, rfl, (by show 1 ≤ sizeLine; decide), fun q2 hq2 => ?_⟩
    have s2 := same_new (o := .tup [.int (0 + (i : Int))]) hq2
    refine ⟨.ref ad, .ref ar, .ref q2, ws, ps, gap, [i], rfl, Dp.same s2 (Dp.keep tk hd (imm_encD ws)), Dp.same s2 (Dp.keep tk hq (imm_encRow ps gap)), mk_encW (SqT.of ?_), List.cons_ne_nil _ _, ok1, ?_, fun H5 s5 => ⟨_, rfl, ?_⟩⟩
    · show upd H4 q2 (HO.tup [V.int (0 + (i : Int))]) q2 = some (HO.tup [V.int (i : Int)])
      rw [Int.zero_add]; exact upd_same
    · show i < min (i + ps.length + gap) ws.length
      omega
    · have k5 := k3.same (s2.trans s5)
      cases hb : beginsB ws ps gap [i] with
      | true =>
        rw [if_pos rfl]
        have e : rowB ws ps gap = true := List.any_eq_true.mpr ⟨i, List.mem_range.mpr hi, hb⟩
        rw [e] at fin
        exact fin H5 k5
      | false =>
        rw [if_neg Bool.false_ne_true]
        refine ⟨k5, ⟨_, rfl⟩, fun j hj => ?_⟩
        by_cases ej : j = i
        · rw [ej]; exact hb
        · exact no j (by omega)
  · rintro τ H3 ⟨k3, _, no⟩
    have e : rowB ws ps gap = false := List.any_eq_false.mpr fun j hj => by rw [no j (List.mem_range.mp hj)]; exact Bool.false_ne_true
    rw [e] at fin
    exact fin H3 k3
theorem ok_holds (T : Txt K mg A D) {Ps : List Tbl2} {P1 : Addr} (TF : TbF base mg (D 2) P1) (hP : (P1, none) ∈ Ps) {f : Addr} {j : Nat} {G : Hp → Prop} {rb : List Pat → Nat → Bool} (hG : ∀ H H', G H → TabsG H Ps → KT Ps H H' → G H') (LM : LamOk P w K mg base j f (spRow K Ps G rb)) :
    ∀ n, FnOk P w K mg base CX0 (4 * n + j) (A 2) (D 2) ["question", "is_met"] (yHolds K Ps f G rb n)
  | 0 => by
    have no : ∀ vs H Q E, ¬ yHolds K Ps f G rb 0 vs H Q E := fun vs H Q E h => by
      obtain ⟨vq, q, _⟩ := h
      exact nomatch (q : Empty)
    exact ⟨fun vs H Q E h => absurd h (no vs H Q E), fun A outer s H args us vs Q E _ _ _ _ h => absurd h (no vs H Q E)⟩
  | n + 1 => by
    have G_holds : FnOk P w K mg base CX0 (4 * n + j) (A 2) (D 2) ["question", "is_met"] (yHolds K Ps f G rb n) := ok_holds T TF hP hG LM n
    obtain ⟨cc, hc, TB0⟩ := TF
    have TB := tabB_of TB0
    have lv : 4 * (n + 1) + j = 4 * n + j + 3 + 1 := by omega
    rw [lv]
    refine (fun_okC (k := 4 * n + j + 3) T.F_holds hc sc_holds (fun vs H Q E h => ?_) (fun A' outer s H vs Q E hr h => ?_) : FnOk P w K mg base CX0 (4 * n + j + 3 + 1) _ _ _ _)
    · obtain ⟨vq, q, rfl, _⟩ := h; rfl
    obtain ⟨vq, q, rfl, hq, ok, hT, hg, fin⟩ := h
    have hnd := sc_holds.nd
    refine ⟨_, (pss_cons (ps_set (i := 3) hnd rfl (Or.inl rfl) (pe_ix (r := rIxT K) ix_tup (pv 0) pe_int (fun _ _ => rfl))) (pss_cons (ps_if (pt_cmpR op_eq (pv 3) pe_str (nomark _)) (pss_one (ps_ret (pe_lamC (i := 1) (f := f) LM (hr.mono (by first | decide | omega)) rfl (by first | exact Or.inl rfl | exact Or.inr (Or.inl rfl)) (pv 0)))) pss_nil) (pss_cons (ps_if (pt_cmpR op_eq (pv 3) pe_str (nomark _)) (pss_one (ps_ret pe_bl)) pss_nil) (pss_cons (ps_if (pt_cmpR op_eq (pv 3) pe_str (nomark _)) (pss_one (ps_ret (pe_not (pe_call G_holds (hr.mono (by first | decide | omega)) rfl T.m_holds T.F_holds.kp T.b_holds .nil pass0 (pa_cons (pe_ix (r := rIxT K) ix_tup (pv 0) pe_int (fun _ _ => rfl)) (pa_cons (pv 1) pa_nil)))))) pss_nil) (pss_cons (ps_if (pt_cmpR op_eq (pv 3) pe_str (nomark _)) (pss_one (ps_ret (pe_allX (N := ["part", "is_met"]) (js := [none, some 1]) hr rfl rfl T.z_all TB rfl (gxS_by (n := s.heap.objs.size + 1) (d := defScope s_holds) rfl (by decide +kernel)) (capOk_by (d := defScope s_holds) (dN := N_holds) rfl rfl rfl (by decide +kernel)) (pi_tup (pe_ix (r := rIxT K) ix_tup (pv 0) pe_int (fun _ _ => rfl))) (fun _ _ _ _ _ => (pg_name (i := 0) (show List.Nodup (["part", "is_met"] : List Str) by decide) rfl (Or.inl rfl))) (fun _ _ _ _ _ => pts_nil) (fun _ _ _ _ _ => (pe_call G_holds (room_gx (hr.mono (by first | decide | omega))) rfl T.m_holds T.F_holds.kp T.b_holds .nil pass0 (pa_cons (pv 0) (pa_cons (pv 1) pa_nil)))) (by intro _; rfl) (by decide +kernel)))) pss_nil) (pss_one (ps_ret (pe_anyX (N := ["part", "is_met"]) (js := [none, some 1]) hr rfl rfl T.z_any TB rfl (gxS_by (n := s.heap.objs.size + 1) (d := defScope s_holds) rfl (by decide +kernel)) (capOk_by (d := defScope s_holds) (dN := N_holds) rfl rfl rfl (by decide +kernel)) (pi_tup (pe_ix (r := rIxT K) ix_tup (pv 0) pe_int (fun _ _ => rfl))) (fun _ _ _ _ _ => (pg_name (i := 0) (show List.Nodup (["part", "is_met"] : List Str) by decide) rfl (Or.inl rfl))) (fun _ _ _ _ _ => pts_nil) (fun _ _ _ _ _ => (pe_call G_holds (room_gx (hr.mono (by first | decide | omega))) rfl T.m_holds T.F_holds.kp T.b_holds .nil pass0 (pa_cons (pv 0) (pa_cons (pv 1) pa_nil)))) (by intro _; rfl))))))))), ?_⟩
    rcases q with _ | ⟨ps, gap⟩ | q | ⟨o, qs⟩
    · obtain ⟨aq, us, rfl, haq, hus⟩ := dp_kind (show Dp K H vq (.tuple [.str "all"]) from hq)
      refine ⟨_, rfl, aq, _, 0, _, rfl, rfl, haq, atI_nat (j := 0) rfl, ?_⟩
      refine ⟨_, rfl, rfl, _, rfl, strF (by decide) ?_⟩
      refine ⟨_, rfl, rfl, _, rfl, strT ?_⟩
      exact fin H (KT.refl hT)
    · obtain ⟨ar, pa, pxs, rfl, har, hpa, hpx⟩ := dp_encRow (show Dp K H vq (encRow ps gap) from hq)
      refine ⟨_, rfl, ar, _, 0, _, rfl, rfl, har, rfl, ?_⟩
      refine ⟨_, rfl, rfl, _, rfl, strT ?_⟩
      exact ⟨rfl, _, rfl, ps, gap, hq, ok, hT, hg, fin⟩
    · obtain ⟨aq, us, rfl, haq, hus⟩ := dp_kind (show Dp K H vq (.tuple [.str "not", encQ n q]) from hq)
      obtain ⟨v1, us2, rfl, hv1, hnil⟩ := DpAll.consI hus
      refine ⟨_, rfl, aq, _, 0, _, rfl, rfl, haq, atI_nat (j := 0) rfl, ?_⟩
      refine ⟨_, rfl, rfl, _, rfl, strF (by decide) ?_⟩
      refine ⟨_, rfl, rfl, _, rfl, strF (by decide) ?_⟩
      refine ⟨_, rfl, rfl, _, rfl, strT ?_⟩
      exact ⟨_, rfl, aq, _, 1, _, rfl, rfl, haq, atI_nat (j := 1) rfl, _, rfl, v1, q, rfl, hv1, ok, hT, hg, fun H' k' => ⟨_, rfl, fin H' k'⟩⟩
    · obtain ⟨aq, us, rfl, haq, hus⟩ := dp_kind (show Dp K H vq (.tuple [.str (if o = true then "or" else "and"), .tuple (qs.map (encQ n))]) from hq)
      obtain ⟨v1, us2, rfl, hv1, hnil⟩ := DpAll.consI hus
      obtain ⟨ap, xs, rfl, hap, hxs⟩ := Dp.tupI hv1
      have hl : xs.length = qs.length := by rw [DpAll.len hxs, List.length_map]
      have part : ∀ i (x : V) H3, KT Ps H H3 → xs[i]? = some x → ∃ q, qs[i]? = some q ∧ Dp K H3 x (encQ n q) ∧ okQ n q := fun i x H3 k3 hx => by
        have hi := (List.getElem?_eq_some_iff.mp hx).1
        rw [hl] at hi
        obtain ⟨v, hv, dv⟩ := DpAll.get hxs (i := i) (d := encQ n qs[i]) (by rw [List.getElem?_map, List.getElem?_eq_getElem hi]; rfl)
        have ev : x = v := Option.some.inj (hx.symm.trans hv)
        subst ev
        exact ⟨qs[i], List.getElem?_eq_getElem hi, Dp.keep (k3.tk hT) dv (imm_encQ n _), (show ∀ q ∈ qs, okQ n q from ok) _ (List.getElem_mem hi)⟩
      refine ⟨_, rfl, aq, _, 0, _, rfl, rfl, haq, atI_nat (j := 0) rfl, ?_⟩
      cases o with
      | false =>
        refine ⟨_, rfl, rfl, _, rfl, strF (by decide) ?_⟩
        refine ⟨_, rfl, rfl, _, rfl, strF (by decide) ?_⟩
        refine ⟨_, rfl, rfl, _, rfl, strF (by decide) ?_⟩
        refine ⟨_, rfl, rfl, _, rfl, strT ?_⟩
        refine ⟨_, rfl, aq, _, 1, _, rfl, rfl, haq, atI_nat (j := 1) rfl, ap, rfl, ⟨xs, hap⟩, tab_of hT hP, fun H2 t2 => ?_⟩
        have k2 := KT.tabbed hT hP t2
        refine gx_it (walk_tup (xs := xs)) (fun i τ H' => KT Ps H H' ∧ (∃ c0, τ = [c0, some (.ref f)]) ∧ ∀ j y, j < i → qs[j]? = some y → qBy rb n y = true) ⟨k2, ⟨_, rfl⟩, fun j y hj => absurd hj (Nat.not_lt_zero j)⟩ (fun _ _ H' _ h => (h.1.tk hT).seq hap) ?_ ?_
        · rintro i x τ H3 H4 hi ⟨k3, ⟨c0, rfl⟩, no⟩ ⟨rfl, hx⟩
          obtain ⟨y, hy, dy, oky⟩ := part i x H4 k3 hx
          refine ⟨_, rfl, _, rfl, x, y, rfl, dy, oky, k3.1, hG _ _ hg hT k3, fun H5 k5 => ⟨_, rfl, ?_⟩⟩
          cases hb : qBy rb n y with
          | true =>
            rw [if_neg (fun z => Bool.false_ne_true z.symm)]
            refine ⟨k3.trans k5, ⟨_, rfl⟩, fun j z hj hz => ?_⟩
            by_cases ej : j = i
            · subst ej
              have ez : z = y := Option.some.inj (hz.symm.trans hy)
              rw [ez]; exact hb
            · exact no j z (by omega) hz
          | false =>
            rw [if_pos rfl]
            have e : qBy rb (n + 1) (Qd.bin false qs) = false := List.all_eq_false.mpr ⟨y, List.mem_of_getElem? hy, by rw [hb]; exact Bool.false_ne_true⟩
            rw [e] at fin
            exact fin H5 (k3.trans k5)
        · rintro τ H3 ⟨k3, _, no⟩
          have e : qBy rb (n + 1) (Qd.bin false qs) = true := List.all_eq_true.mpr fun y hy => by
            obtain ⟨j, hj, e⟩ := List.mem_iff_getElem.mp hy
            exact no j y (by rw [hl]; exact hj) (by rw [List.getElem?_eq_getElem hj, e])
          rw [e] at fin
          exact fin H3 k3
      | true =>
        refine ⟨_, rfl, rfl, _, rfl, strF (by decide) ?_⟩
        refine ⟨_, rfl, rfl, _, rfl, strF (by decide) ?_⟩
        refine ⟨_, rfl, rfl, _, rfl, strF (by decide) ?_⟩
        refine ⟨_, rfl, rfl, _, rfl, strF (by decide) ?_⟩
        refine ⟨_, rfl, aq, _, 1, _, rfl, rfl, haq, atI_nat (j := 1) rfl, ap, rfl, ⟨xs, hap⟩, tab_of hT hP, fun H2 t2 => ?_⟩
        have k2 := KT.tabbed hT hP t2
        refine gx_it (walk_tup (xs := xs)) (fun i τ H' => KT Ps H H' ∧ (∃ c0, τ = [c0, some (.ref f)]) ∧ ∀ j y, j < i → qs[j]? = some y → qBy rb n y = false) ⟨k2, ⟨_, rfl⟩, fun j y hj => absurd hj (Nat.not_lt_zero j)⟩ (fun _ _ H' _ h => (h.1.tk hT).seq hap) ?_ ?_
        · rintro i x τ H3 H4 hi ⟨k3, ⟨c0, rfl⟩, no⟩ ⟨rfl, hx⟩
          obtain ⟨y, hy, dy, oky⟩ := part i x H4 k3 hx
          refine ⟨_, rfl, _, rfl, x, y, rfl, dy, oky, k3.1, hG _ _ hg hT k3, fun H5 k5 => ⟨_, rfl, ?_⟩⟩
          cases hb : qBy rb n y with
          | true =>
            rw [if_pos rfl]
            have e : qBy rb (n + 1) (Qd.bin true qs) = true := List.any_eq_true.mpr ⟨y, List.mem_of_getElem? hy, hb⟩
            rw [e] at fin
            exact fin H5 (k3.trans k5)
          | false =>
            rw [if_neg Bool.false_ne_true]
            refine ⟨k3.trans k5, ⟨_, rfl⟩, fun j z hj hz => ?_⟩
            by_cases ej : j = i
            · subst ej
              have ez : z = y := Option.some.inj (hz.symm.trans hy)
              rw [ez]; exact hb
            · exact no j z (by omega) hz
        · rintro τ H3 ⟨k3, _, no⟩
          have e : qBy rb (n + 1) (Qd.bin true qs) = false := List.any_eq_false.mpr fun y hy => by
            obtain ⟨j, hj, e⟩ := List.mem_iff_getElem.mp hy
            rw [no j y (by rw [hl]; exact hj) (by rw [List.getElem?_eq_getElem hj, e])]
            exact Bool.false_ne_true
          rw [e] at fin
          exact fin H3 k3
end


/-! ### matches: the lambda and its maker -/
def lamParts : List Stmt → Arguments × Expr × Scope
  | [.Return (some (.Call _ [_, .Lambda ps b sc _] _ _)) _] => (ps, b, sc)
  | _ => (⟨[], [], none, [], [], none, []⟩, .Constant .none 0 ⟨0, 0, 0, 0⟩, ⟨.function, [], false, false, []⟩)
abbrev lamQ : Str := "matches.<locals>.<lambda>"
abbrev lamB : Expr := (lamParts (defBody s_matches)).2.1
abbrev lamP : Arguments := (lamParts (defBody s_matches)).1
abbrev lamC : Scope := (lamParts (defBody s_matches)).2.2
/-- what the lambda needs: its document, its code object -/
def Gm (K : PySem.W.Frag) (vd : V) (ws : List Str) (c' : Addr) (H : Hp) : Prop := Dp K H vd (encD ws) ∧ H c' = some (LamX.CodeO c' lamQ) ∧ ws.length ≤ 1000
theorem Gm.kt {K : PySem.W.Frag} {vd : V} {ws : List Str} {c' : Addr} {Ps : List Tbl2} : ∀ H H', Gm K vd ws c' H → TabsG H Ps → KT Ps H H' → Gm K vd ws c' H' := fun H H' g t k =>
  ⟨Dp.keep (k.tk t) g.1 (imm_encD ws), k.at_ t g.2.1 LamX.codeO_ne, g.2.2⟩
def spMk (K : PySem.W.Frag) (Ps : List Tbl2) (n : Nat) : List V → Addr → Addr → Sp := fun ws' f c' vs H Q E => ∃ (vd : V) (ws : List Str), ws' = [vd] ∧ yHolds K Ps f (Gm K vd ws c') (rowB ws) n vs H Q E
section
variable {P : Program} {w : World} {K : PySem.W.Frag} {mg : Str → Option Value} {base : Heap} {A : Nat → Addr} {D : Nat → FuncData}
theorem ok_lam (T : Txt K mg A D) {Ps : List Tbl2} {P1 : Addr} (TF : TbF base mg (D 3) P1) (hP : (P1, none) ∈ Ps) {f c' : Addr} {cl : List (Str × Addr)} {vd : V} {ws : List Str} (L : LamAt base lamQ lamP lamB lamC f c' cl ["document"] [vd]) :
    LamOk P w K mg base 7 f (spRow K Ps (Gm K vd ws c') (rowB ws)) := by
  have G_has_standing := ok_has_standing (P := P) (w := w) (base := base) T TF hP
  refine lam_ok (N := ["row", "document"]) (j := 6) L (NdefX.nscope_by (by decide +kernel)) (fun pm cv ctv u => rfl) (fun v H Q h => ?_) (fun A' outer s H v Q hr h => ?_)
  · obtain ⟨ps, gap, _, _, _, g, _⟩ := h
    exact g.2.1
  · obtain ⟨ps, gap, hd, ok, hT, g, q⟩ := h
    refine ⟨_, (show PE (NdefX.ncx CX0 P w K mg base ["row", "document"] (lamF lamQ lamP lamC cl c') f A' outer s H E0) (.Call (.Name "has_standing" _) [.Name "document" _, .Name "row" _] [] _) _ from
      (pe_call G_has_standing (hr.mono (by decide)) rfl T.m_has_standing T.F_has_standing.kp T.b_has_standing .nil pass0 (pa_cons (pv 1) (pa_cons (pv 0) pa_nil)))), ?_⟩
    exact ⟨_, rfl, _, rfl, vd, v, ws, ps, gap, rfl, g.1, hd, ok, hT, g.2.2, q⟩
end


theorem TbF.up {base base' : Heap} {mg : Str → Option Value} {fd : FuncData} {P : Addr} (k : ∀ b o, base.get? b = some o → base'.get? b = some o) (h : TbF base mg fd P) : TbF base' mg fd P := by
  obtain ⟨c, e, t⟩ := h
  exact ⟨c, e, ⟨t.code.keeps k, t.bm.keeps k, t.gP⟩⟩
section
variable {P : Program} {w : World} {K : PySem.W.Frag} {mg : Str → Option Value} {base : Heap} {A : Nat → Addr} {D : Nat → FuncData}
theorem ok_matches (T : Txt K mg A D) {Ps : List Tbl2} {P1 P2 P3 : Addr} (TFs : TbF base mg (D 3) P1) (hP1 : (P1, none) ∈ Ps) (TFh : TbF base mg (D 2) P2) (hP2 : (P2, none) ∈ Ps) (TFm : TbF base mg (D 1) P3) (hP3 : (P3, some lamQ) ∈ Ps) (n : Nat) :
    FnOk P w K mg base CX0 (4 * n + 8) (A 1) (D 1) ["document", "question"] (yMatch K Ps n) := by
  obtain ⟨cc, hc, TBm⟩ := TFm
  have FH : ∀ (base' : Heap) (f c' : Addr) (cl : List (Str × Addr)) (ws' : List V), (∀ b o, base.get? b = some o → base'.get? b = some o) → Mod K mg base' → LamAt base' lamQ lamP lamB lamC f c' cl ["document"] ws' → FnOk P w K mg base' CX0 (4 * n + 7) (A 2) (D 2) ["question", "is_met"] (spMk K Ps n ws' f c') := fun base' f c' cl ws' sub M L => by
    refine ⟨fun vs H Q E h => ?_, fun A outer s H args us vs Q E hr e0 hb hv h => ?_⟩
    · obtain ⟨vd, ws, rfl, h⟩ := h
      obtain ⟨vq, q, rfl, _⟩ := h
      rfl
    · obtain ⟨vd, ws, rfl, h⟩ := h
      exact (ok_holds T (TFh.up sub) hP2 Gm.kt (ok_lam T (TFs.up sub) hP1 L) n).run A outer s H args us vs Q E hr e0 hb hv h
  refine (fun_okC (k := 4 * n + 7) T.F_matches hc sc_matches (fun vs H Q E h => ?_) (fun A' outer s H vs Q E hr h => ?_) : FnOk P w K mg base CX0 (4 * n + 7 + 1) _ _ _ _)
  · obtain ⟨vd, vq, ws, q, rfl, _⟩ := h; rfl
  obtain ⟨vd, vq, ws, q, rfl, hd, hq, ok, hT, hws, fin⟩ := h
  have hnd := sc_matches.nd
  refine ⟨_, (pss_one (ps_ret (pe_mk (fr := ["document"]) (js := [0]) (sp := spMk K Ps n) (q := lamQ) FH (hr.mono (by first | decide | omega)) rfl T.m_holds T.F_holds.kp T.b_holds TBm rfl (by first | rfl | decide +kernel) rfl (NdefX.ndef_free (sc := defScope s_matches) (fr := ["document"]) (by decide +kernel)) (NdefX.ndef_fr (sc := defScope s_matches) (by decide +kernel)) rfl (fun _ => rfl) (pv 1)))), ?_⟩
  refine ⟨_, rfl, tabS_of hT hP3, [vd], rfl, fun f c' H2 kp T2 hc2 => ?_⟩
  have k2 : KT Ps H H2 := KT.wrote hT hP3 T2 kp
  refine ⟨vd, ws, rfl, vq, q, rfl, Dp.keep (k2.tk hT) hq (imm_encQ n q), ok, k2.1, ⟨Dp.keep (k2.tk hT) hd (imm_encD ws), hc2, hws⟩, fun H3 k3 => ?_⟩
  rw [← qB_by]
  exact fin H3 (k2.trans k3)
end


/-! ### law k32: rows of digits, questions of them -/
def wordsE : List Str := ["old", "mill", "mi", "weir", "the", "a", "by", "zoo"]
def kindsE : List Str := ["word", "start"]
def okP (ps : List Pat) : Prop := ∀ t ∈ ps, t.1 ∈ kindsE ∧ t.2 ∈ wordsE
def okE : ∀ n, Qn n → Prop
  | 0, q => nomatch (q : Empty)
  | n + 1, q => match (q : Qd (Qn n)) with
    | .all => True
    | .row ps _ => okP ps
    | .neg q => okE n q
    | .bin _ qs => qs.length ≤ 10 ∧ ∀ q ∈ qs, okE n q
theorem qBy_congr {rb rb' : List Pat → Nat → Bool} (h : ∀ ps gap, okR ps → okP ps → rb ps gap = rb' ps gap) : ∀ n (q : Qn n), okQ n q → okE n q → qBy rb n q = qBy rb' n q
  | 0, q, _, _ => nomatch (q : Empty)
  | n + 1, q, o1, o2 => match (q : Qd (Qn n)), o1, o2 with
    | .all, _, _ => rfl
    | .row ps gap, o1, o2 => h ps gap o1 o2
    | .neg q, o1, o2 => by
      show (!(qBy rb n q)) = !(qBy rb' n q)
      rw [qBy_congr h n q o1 o2]
    | .bin o qs, o1, o2 => by
      have e : ∀ q ∈ qs, qBy rb n q = qBy rb' n q := fun q hq => qBy_congr h n q ((show ∀ q ∈ qs, okQ n q from o1) q hq) ((show qs.length ≤ 10 ∧ ∀ q ∈ qs, okE n q from o2).2 q hq)
      show (if o = true then qs.any (qBy rb n) else qs.all (qBy rb n)) = if o = true then qs.any (qBy rb' n) else qs.all (qBy rb' n)
      have a1 : qs.any (qBy rb n) = qs.any (qBy rb' n) := by
        rw [Bool.eq_iff_iff, List.any_eq_true, List.any_eq_true]
        exact ⟨fun ⟨x, hx, e1⟩ => ⟨x, hx, by rw [← e x hx]; exact e1⟩, fun ⟨x, hx, e1⟩ => ⟨x, hx, by rw [e x hx]; exact e1⟩⟩
      have a2 : qs.all (qBy rb n) = qs.all (qBy rb' n) := by
        rw [Bool.eq_iff_iff, List.all_eq_true, List.all_eq_true]
        exact ⟨fun z x hx => by rw [← e x hx]; exact z x hx, fun z x hx => by rw [e x hx]; exact z x hx⟩
      rw [a1, a2]
abbrev eB (n : Nat) (q : Qn n) : Bool := qBy (fun _ _ => false) n q
theorem rowB_nil (ps : List Pat) (gap : Nat) : rowB [] ps gap = false := rfl
theorem fits_no : ∀ z ∈ (["q7", "xyz"] : List Str), ∀ k ∈ kindsE, ∀ t ∈ wordsE, fitsB z (k, t) = false := by decide +kernel
theorem rowB_no {ps : List Pat} (gap : Nat) (h1 : okR ps) (h2 : okP ps) : rowB ["q7", "xyz"] ps gap = false := by
  refine List.any_eq_false.mpr fun j hj => ?_
  have hj2 : j < 2 := List.mem_range.mp hj
  have hp : ps.getD 0 ("", "") ∈ ps := by
    rw [List.getD_eq_getElem?_getD, List.getElem?_eq_getElem (show 0 < ps.length from h1.1)]
    exact List.getElem_mem _
  obtain ⟨k1, k2⟩ := h2 _ hp
  have hz : (["q7", "xyz"] : List Str).getD j "" ∈ (["q7", "xyz"] : List Str) := by
    match j, hj2 with
    | 0, _ => exact .head _
    | 1, _ => exact .tail _ (.head _)
  have e := fits_no _ hz _ k1 _ k2
  have e2 : fitsB ((["q7", "xyz"] : List Str).getD (([j] : List Nat).getLastD 0) "") (ps.getD (([j] : List Nat).length - 1) ("", "")) = false := e
  unfold beginsB
  rw [e2, Bool.false_and]
  exact Bool.false_ne_true
theorem wordsE_len : ∀ t ∈ wordsE, t.length ≤ 20 := by decide +kernel
theorem dp1 {K : PySem.W.Frag} {H : Hp} {p : Addr} {s : Str} : Dp K (upd H p (.tup [.str s])) (.ref p) (.tuple [.str s]) := .tup (SqT.of upd_same) (.cons (.str _) .nil)
theorem dpS {K : PySem.W.Frag} {H : Hp} {p : Addr} {s : Str} {v : V} {d : PyData} (hp : H p = none) (h : Dp K H v d) : Dp K (upd H p (.tup [.str s, v])) (.ref p) (.tuple [.str s, d]) := .tup (SqT.of upd_same) (.cons (.str _) (.cons (Dp.same (same_new hp) h) .nil))
theorem dp2 {K : PySem.W.Frag} {H : Hp} {p : Addr} {a b : V} {d e : PyData} (hp : H p = none) (h1 : Dp K H a d) (h2 : Dp K H b e) : Dp K (upd H p (.tup [a, b])) (.ref p) (.tuple [d, e]) := .tup (SqT.of upd_same) (.cons (Dp.same (same_new hp) h1) (.cons (Dp.same (same_new hp) h2) .nil))
def yDig32 : Sp := fun vs H Q _ => ∃ (c : Int) (k : Nat), vs = [.int c, .int (k : Int), .int 20] ∧ k ≤ 1000 ∧ ∀ (p : Addr) (ds : List Int) (H' : Hp), Same H H' → H p = none → H' p = some (.lst (ds.map V.int)) → ds.length ≤ 60 → Q (.ref p) H'
def yPad32 : Sp := fun vs H Q _ => ∃ (c : Int) (k : Nat), vs = [.int c, .int (k : Int)] ∧ k ≤ 1000 ∧ ∀ (p : Addr) (ds : List Int) (H' : Hp), Same H H' → H' p = some (.lst (ds.map V.int)) → 20 ≤ ds.length → ds.length ≤ 80 → Q (.ref p) H'
def yPat32 (K : PySem.W.Frag) : Sp := fun vs H Q _ => ∃ z : Int, vs = [.int z] ∧ ∀ (p : Addr) (t : Pat) (H' : Hp), Same H H' → Dp K H' (.ref p) (encT t) → t.1 ∈ kindsE → t.2 ∈ wordsE → Q (.ref p) H'
def yRow32 (K : PySem.W.Frag) : Sp := fun vs H Q _ => ∃ (l : Addr) (ds : List Int), vs = [.ref l] ∧ H l = some (.lst (ds.map V.int)) ∧ 14 ≤ ds.length ∧ ∀ (p : Addr) (ps : List Pat) (gap : Nat) (H' : Hp), Same H H' → Dp K H' (.ref p) (encRow ps gap) → okR ps → okP ps → Q (.ref p) H'
def yQ32 (K : PySem.W.Frag) : Sp := fun vs H Q _ => ∃ (a : Addr) (ns : List Int) (k : Nat), vs = [.ref a, .int (k : Int)] ∧ SqL K H a (ns.map V.int) ∧ k ≤ 1000 ∧ ∀ (v : V) (q : Qn 4) (H' : Hp), Same H H' → Dp K H' v (encQ 4 q) → okQ 4 q → okE 4 q → Q v H'
def yEmp32 (K : PySem.W.Frag) (n : Nat) : Sp := fun vs H Q _ => ∃ (v : V) (q : Qn n), vs = [v] ∧ Dp K H v (encQ n q) ∧ (okQ n q ∧ okE n q) ∧ ∀ H', Same H H' → Q (.bl (eB n q)) H'
section
variable {P : Program} {w : World} {K : PySem.W.Frag} {mg : Str → Option Value} {base : Heap} {A : Nat → Addr} {D : Nat → FuncData}
theorem ok_dig32 (T : Txt K mg A D) : FnOk P w K mg base CX0 1 (A 8) (D 8) ["cell", "k", "most"] yDig32 := by
  refine T.F__law_digits.ok sc__law_digits (fun vs H Q E h => ?_) (fun cdv A' outer s H vs Q E hr h => ?_)
  · obtain ⟨c, k, rfl, _⟩ := h; rfl
  obtain ⟨c, k, rfl, hk, q⟩ := h
  have hnd := sc__law_digits.nd
  refine ⟨_, (pss_cons (ps_set (i := 3) hnd rfl (Or.inl rfl) (pe_lst pa_nil)) (pss_cut (ps_if (pt_cmpR op_lt (pv 0) pe_int (nomark _)) (pss_one (ps_set (i := 0) hnd rfl (Or.inl rfl) (pe_op op_sub (pe_un un_neg pe_int) (pv 0)))) pss_nil) (pss_cons (ps_if (pt_cmpR op_ge (pv 0) (pe_op op_pow pe_int pe_int) (nomark _)) (pss_one (ps_for PassesOwn.never rfl (pi_range1 rfl T.z_range (pa_cons pe_int pa_nil)) (pg_name (i := 4) hnd rfl (Or.inl rfl)) (pss_one (ps_if (PW.pt (pw_and (pt_cmpR op_gt (pv 0) pe_int (nomark _)) (pw_and1 (pt_cmpR op_lt (pe_callB call_len_seq rfl T.z_len PySem.boot_len (pa_cons (pv 3) pa_nil)) (pv 2) (nomark _))))) (pss_cons (ps_expr (pe_bm PySem.F.plainAttrs_list PySem.F.slot_list_append PySem.F.type_list_append mt_append (pv 3) (pa_cons (pe_op op_mod (pe_callTy call_int1 rfl T.z_int (by decide +kernel) (pa_cons (pv 0) pa_nil)) pe_int) pa_nil))) (pss_one (ps_set (i := 0) hnd rfl (Or.inl rfl) (pe_op op_fdiv (pv 0) pe_int)))) pss_nil)))) (pss_cons (ps_set (i := 5) hnd rfl (Or.inl rfl) (pe_op op_mod (pe_callTy call_int1 rfl T.z_int (by decide +kernel) (pa_cons (pe_op op_add (pe_op op_add (pe_op op_mul (pv 0) pe_int) (pe_op op_mul (pv 1) pe_int)) pe_int) pa_nil)) pe_int)) (pss_one (ps_for PassesOwn.never rfl (pi_range1 rfl T.z_range (pa_cons (pv 2) pa_nil)) (pg_name (i := 4) hnd rfl (Or.inl rfl)) (pss_cons (ps_set (i := 5) hnd rfl (Or.inl rfl) (pe_op op_mod (pe_callTy call_int1 rfl T.z_int (by decide +kernel) (pa_cons (pe_op op_add (pe_op op_add (pe_op op_mul (pv 5) pe_int) (pe_op op_mul pe_int (pv 4))) pe_int) pa_nil)) pe_int)) (pss_one (ps_expr (pe_bm PySem.F.plainAttrs_list PySem.F.slot_list_append PySem.F.type_list_append mt_append (pv 3) (pa_cons (pe_op op_mod (pe_callTy call_int1 rfl T.z_int (by decide +kernel) (pa_cons (pe_op op_fdiv (pv 5) pe_int) pa_nil)) pe_int) pa_nil))))))))) (pss_one (ps_ret (pv 3)))))), ?_⟩
  refine ⟨(by decide), fun p hp => ?_⟩
  have sH := fun o => same_new (o := o) hp
  refine ⟨fun σ H' => ∃ c : Int, σ = [some (.int c), some (.int (k : Int)), some (.int 20), some (.ref p), none, none] ∧ H' = upd H p (.lst []), ?_, ?_⟩
  · refine ⟨_, rfl, _, _, rfl, rfl, _, rfl, ite2 (fun _ => ?_) (fun _ => ?_)⟩
    · exact ⟨_, rfl, _, rfl, _, _, rfl, rfl, _, rfl, rfl⟩
    · exact ⟨_, rfl, rfl⟩
  · rintro σ H' ⟨c, rfl, rfl⟩
    refine ⟨_, rfl, _, _, rfl, rfl, ⟨by decide, by decide, by decide⟩, _, _, rfl, rfl, _, rfl, ite2 (fun _ => ?_) (fun _ => ?_)⟩
    · refine ⟨_, rfl, by decide, by decide, for_range (n := 60) (fun t σ H' => ∃ (ds : List Int) (c : Int) (c4 : Option V), σ = [some (.int c), some (.int (k : Int)), some (.int 20), some (.ref p), c4, none] ∧ Same H H' ∧ H' p = some (.lst (ds.map V.int)) ∧ ds.length ≤ t)
        ⟨[], c, _, rfl, sH _, upd_same, Nat.zero_le _⟩ ?_ ?_⟩
      · rintro t σ H2 ht ⟨ds, c, c4, rfl, s2, h2, l2⟩
        have next : ∃ (ds : List Int) (c' : Int) (c4 : Option V), [some (V.int c), some (.int (k : Int)), some (.int 20), some (.ref p), some (.int (0 + (t : Int))), none] = [some (.int c'), some (.int (k : Int)), some (.int 20), some (.ref p), c4, none] ∧ Same H H2 ∧ H2 p = some (.lst (ds.map V.int)) ∧ ds.length ≤ t + 1 := ⟨ds, c, _, rfl, s2, h2, by omega⟩
        refine ⟨_, rfl, _, _, rfl, rfl, _, rfl, ite2 (fun _ => ?_) (fun _ => next)⟩
        refine ⟨_, rfl, p, _, rfl, .inl (SqL.of h2), _, rfl, _, _, rfl, rfl, _, rfl, ite2 (fun _ => ?_) (fun _ => next)⟩
        refine ⟨_, rfl, .inl ⟨rfl, _, SqL.of h2⟩, _, rfl, .inl ⟨_, rfl, _, _, rfl, rfl, (by show (0 : Int) < _; decide), _, _, _, rfl, rfl, h2, (by rw [List.length_map]; exact len_lt (by omega)), ?_⟩⟩
        refine ⟨_, rfl, _, _, rfl, rfl, ⟨by decide, by decide⟩, ?_⟩
        exact ⟨_, _, _, rfl, same_upd s2 hp, by rw [upd_same, app_map], by rw [List.length_append]; simp only [List.length_singleton]; omega⟩
      · rintro σ H2 ⟨ds, c, c4, rfl, s2, h2, l2⟩
        exact ⟨_, rfl, q p ds H2 s2 hp h2 (by omega)⟩
    · refine ⟨_, rfl, _, _, rfl, rfl, .inr ⟨by decide, by decide⟩, _, rfl, _, _, rfl, rfl, .inr ⟨by decide, by decide⟩, _, _, rfl, rfl, _, _, rfl, rfl, .inl ⟨_, rfl, _, _, rfl, rfl, (by show (0 : Int) < _; decide), ?_⟩⟩
      refine ⟨_, rfl, _, rfl, by decide, by decide, for_range (n := 20) (fun t σ H' => ∃ (ds : List Int) (z : Int) (c4 : Option V), σ = [some (.int c), some (.int (k : Int)), some (.int 20), some (.ref p), c4, some (.int z)] ∧ Same H H' ∧ H' p = some (.lst (ds.map V.int)) ∧ ds.length ≤ t)
        ⟨[], _, _, rfl, sH _, upd_same, Nat.zero_le _⟩ ?_ ?_⟩
      · rintro t σ H2 ht ⟨ds, z, c4, rfl, s2, h2, l2⟩
        refine ⟨_, rfl, _, _, rfl, rfl, .inr ⟨by decide, by decide⟩, _, rfl, _, _, rfl, rfl, .inl ⟨by decide, by decide⟩, _, _, rfl, rfl, _, _, rfl, rfl, .inl ⟨_, rfl, _, _, rfl, rfl, (by show (0 : Int) < _; decide), ?_⟩⟩
        refine ⟨_, rfl, .inl ⟨rfl, _, SqL.of h2⟩, _, rfl, _, _, rfl, rfl, ⟨by decide, by decide⟩, .inl ⟨_, rfl, _, _, rfl, rfl, (by show (0 : Int) < _; decide), _, _, _, rfl, rfl, h2, (by rw [List.length_map]; exact len_lt (by omega)), ?_⟩⟩
        exact ⟨_, _, _, rfl, same_upd s2 hp, by rw [upd_same, app_map], by rw [List.length_append]; simp only [List.length_singleton]; omega⟩
      · rintro σ H2 ⟨ds, z, c4, rfl, s2, h2, l2⟩
        exact ⟨_, rfl, q p ds H2 s2 hp h2 (by omega)⟩
end


theorem sq_new {K : PySem.W.Frag} {H : Hp} {l : Addr} {xs : List V} {o : HO} {p : Addr} (h : H l = some (.lst xs)) (hp : H p = none) : upd H p o l = some (.lst xs) := same_new hp _ _ h
theorem fa2 {α : Type} {M : α → Prop} {a b : α} (h1 : M a) (h2 : M b) : ∀ q ∈ [a, b], M q := fun q hq => by
  rcases List.mem_cons.mp hq with rfl | hq
  · exact h1
  · rw [List.mem_singleton.mp hq]; exact h2
section
variable {P : Program} {w : World} {K : PySem.W.Frag} {mg : Str → Option Value} {base : Heap} {A : Nat → Addr} {D : Nat → FuncData}
theorem ok_pad32 (T : Txt K mg A D) : FnOk P w K mg base CX0 2 (A 9) (D 9) ["cell", "k"] yPad32 := by
  refine T.F__law_padded.ok sc__law_padded (fun vs H Q E h => ?_) (fun cdv A' outer s H vs Q E hr h => ?_)
  · obtain ⟨c, k, rfl, _⟩ := h; rfl
  obtain ⟨c, k, rfl, hk, q⟩ := h
  have hnd := sc__law_padded.nd
  have G__law_digits := ok_dig32 (P := P) (w := w) (base := base) T
  refine ⟨_, (pss_cons (ps_set (i := 2) hnd rfl (Or.inl rfl) (pe_call G__law_digits (hr.mono (by first | decide | omega)) rfl T.m__law_digits T.F__law_digits.kp T.b__law_digits .nil pass0 (pa_cons (pv 0) (pa_cons (pv 1) (pa_cons pe_int pa_nil))))) (pss_cons (ps_for PassesOwn.never rfl (pi_range1 rfl T.z_range (pa_cons pe_int pa_nil)) (pg_name (i := 3) hnd rfl (Or.inl rfl)) (pss_one (ps_expr (pe_bm PySem.F.plainAttrs_list PySem.F.slot_list_append PySem.F.type_list_append mt_append (pv 2) (pa_cons (pv 3) pa_nil))))) (pss_one (ps_ret (pv 2))))), ?_⟩
  refine ⟨_, rfl, _, rfl, c, k, rfl, hk, fun p ds H1 s1 hp h1 l1 => ?_⟩
  refine ⟨_, rfl, by decide, by decide, for_range (n := 20) (fun t σ H' => ∃ (es : List Int) (c3 : Option V), σ = [some (.int c), some (.int (k : Int)), some (.ref p), c3] ∧ Same H H' ∧ H' p = some (.lst (es.map V.int)) ∧ es.length = ds.length + t)
    ⟨ds, _, rfl, s1, h1, rfl⟩ ?_ ?_⟩
  · rintro t σ H2 ht ⟨es, c3, rfl, s2, h2, l2⟩
    refine ⟨_, rfl, .inl ⟨rfl, _, SqL.of h2⟩, _, rfl, _, _, _, rfl, rfl, h2, (by rw [List.length_map]; exact len_lt (by omega)), ?_⟩
    exact ⟨_, _, rfl, same_upd s2 hp, by rw [upd_same, app_map], by rw [List.length_append]; simp only [List.length_singleton]; omega⟩
  · rintro σ H2 ⟨es, c3, rfl, s2, h2, l2⟩
    exact ⟨_, rfl, q p es H2 s2 h2 (by omega) (by omega)⟩
theorem ok_pat32 (T : Txt K mg A D) : FnOk P w K mg base CX0 1 (A 10) (D 10) ["digit"] (yPat32 K) := by
  refine T.F__law_pattern.ok sc__law_pattern (fun vs H Q E h => ?_) (fun cdv A' outer s H vs Q E hr h => ?_)
  · obtain ⟨z, rfl, _⟩ := h; rfl
  obtain ⟨z, rfl, q⟩ := h
  have hnd := sc__law_pattern.nd
  refine ⟨_, (pss_cons (ps_set (i := 1) hnd rfl (Or.inl rfl) (pe_lst (pa_cons pe_str (pa_cons pe_str (pa_cons pe_str (pa_cons pe_str (pa_cons pe_str (pa_cons pe_str (pa_cons pe_str (pa_cons pe_str pa_nil)))))))))) (pss_one (ps_ret (pe_tup (pa_cons (pe_ix (r := rIxL K) ix_list (pe_lst (pa_cons pe_str (pa_cons pe_str pa_nil))) (pe_op op_mod (pe_callTy call_int1 rfl T.z_int (by decide +kernel) (pa_cons (pv 0) pa_nil)) pe_int) (fun _ _ => rfl)) (pa_cons (pe_ix (r := rIxL K) ix_list (pv 1) (pe_op op_mod (pe_callTy call_int1 rfl T.z_int (by decide +kernel) (pa_cons (pe_op op_fdiv (pv 0) pe_int) pa_nil)) pe_int) (fun _ _ => rfl)) pa_nil)))))), ?_⟩
  refine ⟨(by show 8 ≤ sizeLine; decide), fun l1 h1 => ⟨(by show 2 ≤ sizeLine; decide), fun l2 h2 => ?_⟩⟩
  have s1 := same_new (o := .lst (wordsE.map V.str)) h1
  have s2 := same_new (o := .lst (kindsE.map V.str)) h2
  obtain ⟨t1, m1, e1⟩ : ∃ t1, t1 ∈ kindsE ∧ atI (kindsE.map V.str) (z % 2) = some (.str t1) := by
    obtain ⟨c, hc, hm⟩ := atI_mem (l := kindsE) (r := z % 2) (by omega) (by show z % 2 < 2; omega)
    exact ⟨c, hm, atI_map (by omega) hc⟩
  obtain ⟨t2, m2, e2⟩ : ∃ t2, t2 ∈ wordsE ∧ atI (wordsE.map V.str) ((z / 2) % 8) = some (.str t2) := by
    obtain ⟨c, hc, hm⟩ := atI_mem (l := wordsE) (r := (z / 2) % 8) (by omega) (by show (z / 2) % 8 < 8; omega)
    exact ⟨c, hm, atI_map (by omega) hc⟩
  refine ⟨_, rfl, .inl ⟨_, rfl, _, _, rfl, rfl, (by show (0 : Int) < _; decide), l2, _, _, _, rfl, rfl, SqL.of upd_same, e1, ?_⟩⟩
  refine ⟨_, rfl, _, rfl, _, _, rfl, rfl, ⟨by decide, by decide⟩, .inl ⟨_, rfl, _, _, rfl, rfl, (by show (0 : Int) < _; decide), l1, _, _, _, rfl, rfl, SqL.of (s2 _ _ upd_same), e2, (by show 2 ≤ sizeLine; decide), fun p hp => ?_⟩⟩
  exact q p (t1, t2) _ ((s1.trans s2).trans (same_new hp)) (.tup (SqT.of upd_same) (.cons (.str _) (.cons (.str _) .nil))) m1 m2
theorem ok_row32 (T : Txt K mg A D) : FnOk P w K mg base CX0 2 (A 11) (D 11) ["d"] (yRow32 K) := by
  refine T.F__law_row.ok sc__law_row (fun vs H Q E h => ?_) (fun cdv A' outer s H vs Q E hr h => ?_)
  · obtain ⟨l, ds, rfl, _⟩ := h; rfl
  obtain ⟨l, ds, rfl, hl, h14, q⟩ := h
  have hnd := sc__law_row.nd
  have G__law_pattern := ok_pat32 (P := P) (w := w) (base := base) T
  have at0 : ∀ j : Nat, j < 14 → atI (ds.map V.int) (j : Int) = some (.int (ds.getD j 0)) := fun j hj => at_ints (show j < ds.length by omega)
  refine ⟨_, (pss_cons (ps_set (i := 2) hnd rfl (Or.inl rfl) (pe_callTy call_tuple_of rfl T.z_tuple (by decide +kernel) (pa_cons (pe_lc (own := [("j", 1)]) rfl hnd (pi_range1 rfl T.z_range (pa_cons (pe_op op_add pe_int (pe_op op_mod (pe_callTy call_int1 rfl T.z_int (by decide +kernel) (pa_cons (pe_ix (r := rIxL K) ix_list (pv 0) pe_int (fun _ _ => rfl)) pa_nil)) pe_int)) pa_nil)) (blkOk_by (own := [("j", 1)]) (N := N__law_row) (sc := defScope s__law_row) (by decide +kernel)) (fun _ _ _ _ _ => (pg_name (i := 1) hnd rfl (Or.inl rfl))) (fun _ _ _ _ _ => pts_nil) (fun _ _ _ _ _ => (pe_call G__law_pattern (hr.mono (by first | decide | omega)) rfl T.m__law_pattern T.F__law_pattern.kp T.b__law_pattern .nil pass0 (pa_cons (pe_ix (r := rIxL K) ix_list (pv 0) (pe_op op_add pe_int (pv 1)) (fun _ _ => rfl)) pa_nil)))) pa_nil))) (pss_one (ps_ret (pe_tup (pa_cons pe_str (pa_cons (pv 2) (pa_cons (pe_op op_mod (pe_callTy call_int1 rfl T.z_int (by decide +kernel) (pa_cons (pe_ix (r := rIxL K) ix_list (pv 0) pe_int (fun _ _ => rfl)) pa_nil)) pe_int) pa_nil))))))), ?_⟩
  refine ⟨_, rfl, l, _, 0, _, rfl, rfl, SqL.of hl, at0 0 (by decide), .inl ⟨_, rfl, _, _, rfl, rfl, (by show (0 : Int) < _; decide), _, _, rfl, rfl, _, rfl, (by omega), (by omega), fun DD hDD => ?_⟩⟩
  obtain ⟨n, hn⟩ : ∃ n : Nat, (1 + ds.getD 0 0 % 3).toNat = n ∧ 1 ≤ n ∧ n ≤ 3 := ⟨_, rfl, by omega, by omega⟩
  rw [hn.1]
  refine lc_it (walk_range (n := n)) (fun i H' => Same H H' ∧ ∃ ps : List Pat, LAt K H' DD (ps.map encT) ∧ okP ps ∧ ps.length = i) ⟨same_new hDD, [], LAt.nil upd_same, (fun t ht => nomatch ht), rfl⟩ (fun _ _ _ _ => trivial) ?_ ?_
  · rintro i x H' H1 hi ⟨s1, ps, L1, o1, l1⟩ ⟨rfl, rfl⟩
    have i14 : 1 + i < 14 := by omega
    refine ⟨rfl, _, rfl, _, rfl, _, _, rfl, rfl, l, _, _, _, rfl, rfl, SqL.of (s1 _ _ hl), (by rw [show (1 : Int) + (0 + (i : Int)) = ((1 + i : Nat) : Int) by omega]; exact at0 _ i14), _, rfl, fun p t H2 s2 dp m1 m2 => ?_⟩
    obtain ⟨vs, e1, e2, e3⟩ := L1.same s2
    refine ⟨vs, e1, ?_, same_upd (s1.trans s2) hDD, ps ++ [t], ?_, fun u hu => ?_, by rw [List.length_append, List.length_singleton, l1]⟩
    · rw [DpAll.len e2, List.length_map]; exact len_lt (by omega)
    · rw [List.map_append]
      exact LAt.push e1 e2 e3 dp (imm_encT _)
    · rcases List.mem_append.mp hu with h | h
      · exact o1 u h
      · rw [List.mem_singleton.mp h]; exact ⟨m1, m2⟩
  · rintro H1 ⟨s1, ps, ⟨vs, e1, e2, e3⟩, o1, l1⟩
    refine ⟨DD, vs, rfl, .inl ⟨SqL.of e1, fun q2 hq2 => ?_⟩⟩
    have sq := same_new (o := .tup vs) hq2
    have s2 := s1.trans sq
    refine ⟨_, rfl, _, rfl, l, _, 5, _, rfl, rfl, SqL.of (s2 _ _ hl), at0 5 (by decide), .inl ⟨_, rfl, _, _, rfl, rfl, (by show (0 : Int) < _; decide), (by show 3 ≤ sizeLine; decide), fun p hp => ?_⟩⟩
    obtain ⟨g, hg⟩ := Int.eq_ofNat_of_zero_le (show 0 ≤ ds.getD 5 0 % 3 by omega)
    refine q p ps g _ (s2.trans (same_new hp)) ?_ ⟨by omega, by omega, fun t ht => wordsE_len _ (o1 t ht).2⟩ o1
    show Dp K (upd (upd H1 q2 (.tup vs)) p (.tup [.str "row", .ref q2, .int (ds.getD 5 0 % 3)])) (.ref p) (encRow ps g)
    rw [hg]
    exact .tup (SqT.of upd_same) (.cons (.str _) (.cons (.tup (SqT.of (same_new hp _ _ upd_same)) (DpAll.same (sq.trans (same_new hp)) e2)) (.cons (.int _) .nil)))
theorem ok_q32 (T : Txt K mg A D) : FnOk P w K mg base CX0 3 (A 12) (D 12) ["script", "k"] (yQ32 K) := by
  refine T.F__law_question.ok sc__law_question (fun vs H Q E h => ?_) (fun cdv A' outer s H vs Q E hr h => ?_)
  · obtain ⟨a, ns, k, rfl, _⟩ := h; rfl
  obtain ⟨a, ns, k, rfl, hS, hk, q⟩ := h
  have hnd := sc__law_question.nd
  have G__law_cell := ok_cell (P := P) (w := w) (base := base) T
  have G__law_padded := ok_pad32 (P := P) (w := w) (base := base) T
  have G__law_row := ok_row32 (P := P) (w := w) (base := base) T
  refine ⟨_, (pss_cons (ps_set (i := 2) hnd rfl (Or.inl rfl) (pe_call G__law_padded (hr.mono (by first | decide | omega)) rfl T.m__law_padded T.F__law_padded.kp T.b__law_padded .nil pass0 (pa_cons (pe_call G__law_cell (hr.mono (by first | decide | omega)) rfl T.m__law_cell T.F__law_cell.kp T.b__law_cell .nil pass0 (pa_cons (pv 0) (pa_cons (pv 1) pa_nil))) (pa_cons (pv 1) pa_nil)))) (pss_cons (ps_set (i := 3) hnd rfl (Or.inl rfl) (pe_call G__law_row (hr.mono (by first | decide | omega)) rfl T.m__law_row T.F__law_row.kp T.b__law_row .nil pass0 (pa_cons (pv 2) pa_nil))) (pss_cons (ps_set (i := 4) hnd rfl (Or.inl rfl) (pe_call G__law_row (hr.mono (by first | decide | omega)) rfl T.m__law_row T.F__law_row.kp T.b__law_row .nil pass0 (pa_cons (pe_slice sl_list (pv 2) (po_some pe_int) po_none) pa_nil))) (pss_cons (ps_set (i := 5) hnd rfl (Or.inl rfl) (pe_op op_mod (pe_callTy call_int1 rfl T.z_int (by decide +kernel) (pa_cons (pe_ix (r := rIxL K) ix_list (pv 2) pe_int (fun _ _ => rfl)) pa_nil)) pe_int)) (pss_cons (ps_if (pt_cmpR op_eq (pv 5) pe_int (nomark _)) (pss_one (ps_ret (pe_tup (pa_cons pe_str (pa_cons (pv 3) pa_nil))))) pss_nil) (pss_cons (ps_if (pt_cmpR op_eq (pv 5) pe_int (nomark _)) (pss_one (ps_ret (pe_tup (pa_cons pe_str (pa_cons (pe_tup (pa_cons (pv 3) (pa_cons (pv 4) pa_nil))) pa_nil))))) pss_nil) (pss_cons (ps_if (pt_cmpR op_eq (pv 5) pe_int (nomark _)) (pss_one (ps_ret (pe_tup (pa_cons pe_str (pa_cons (pe_tup (pa_cons (pv 3) (pa_cons (pv 4) pa_nil))) pa_nil))))) pss_nil) (pss_cons (ps_if (pt_cmpR op_eq (pv 5) pe_int (nomark _)) (pss_one (ps_ret (pe_tup (pa_cons pe_str (pa_cons (pe_tup (pa_cons (pv 3) (pa_cons (pe_tup (pa_cons pe_str (pa_cons (pv 4) pa_nil))) pa_nil))) pa_nil))))) pss_nil) (pss_cons (ps_if (pt_cmpR op_eq (pv 5) pe_int (nomark _)) (pss_one (ps_ret (pe_tup (pa_cons pe_str (pa_cons (pe_tup (pa_cons (pe_tup (pa_cons pe_str (pa_cons (pv 3) pa_nil))) (pa_cons (pv 4) pa_nil))) pa_nil))))) pss_nil) (pss_cons (ps_if (pt_cmpR op_eq (pv 5) pe_int (nomark _)) (pss_one (ps_ret (pe_tup (pa_cons pe_str pa_nil)))) pss_nil) (pss_cons (ps_if (pt_cmpR op_eq (pv 5) pe_int (nomark _)) (pss_one (ps_ret (pe_tup (pa_cons pe_str (pa_cons (pe_tup (pa_cons pe_str (pa_cons (pe_tup (pa_cons (pv 3) (pa_cons (pe_tup (pa_cons pe_str (pa_cons (pe_tup (pa_cons (pv 4) (pa_cons (pe_tup (pa_cons pe_str pa_nil)) pa_nil))) pa_nil))) pa_nil))) pa_nil))) pa_nil))))) pss_nil) (pss_one (ps_ret (pv 3)))))))))))))), ?_⟩
  refine ⟨_, rfl, _, rfl, a, ns, k, rfl, hS, fun z => ⟨_, rfl, z, k, rfl, hk, fun l ds H1 s1 hl h20 h80 => ?_⟩⟩
  refine ⟨_, rfl, l, ds, rfl, hl, (by omega), fun p1 ps1 g1 H2 s2 d1 r1 w1 => ?_⟩
  have hl2 := s2 _ _ hl
  refine ⟨_, rfl, _, rfl, l, _, rfl, SqL.of hl2, fun pl hpl => ?_⟩
  have sl := same_new (o := .lst (cutV (ds.map V.int) (some (6 : Int)) none)) hpl
  have ecut : cutV (ds.map V.int) (some (6 : Int)) none = (ds.drop 6).map V.int := by
    rw [show (6 : Int) = ((6 : Nat) : Int) by rfl, cutV_from, List.map_drop]
  rw [ecut] at sl ⊢
  refine ⟨pl, ds.drop 6, rfl, upd_same, (by rw [List.length_drop]; omega), fun p2 ps2 g2 H3 s3 d2 r2 w2 => ?_⟩
  have s13 : Same H1 H3 := s2.trans (sl.trans s3)
  have d13 := Dp.same (sl.trans s3) d1
  have s03 := s1.trans s13
  refine ⟨_, rfl, l, _, 12, _, rfl, rfl, SqL.of (s13 _ _ hl), (show atI (ds.map V.int) ((12 : Nat) : Int) = _ from at_ints (show 12 < ds.length by omega)), .inl ⟨_, rfl, _, _, rfl, rfl, (by show (0 : Int) < _; decide), ?_⟩⟩
  have rw1 : ∀ n, okQ (n + 1) (Qd.row ps1 g1 : Qd (Qn n)) := fun n => r1
  have rw2 : ∀ n, okQ (n + 1) (Qd.row ps2 g2 : Qd (Qn n)) := fun n => r2
  have e1 : ∀ n, Dp K H3 (.ref p1) (encQ (n + 1) (Qd.row ps1 g1 : Qd (Qn n))) := fun n => d13
  have e2 : ∀ n, Dp K H3 (.ref p2) (encQ (n + 1) (Qd.row ps2 g2 : Qd (Qn n))) := fun n => d2
  refine ⟨_, rfl, rfl, _, rfl, ite2 (fun _ => ?_) (fun _ => ?_)⟩
  · refine ⟨_, rfl, (by show 2 ≤ sizeLine; decide), fun t ht => ?_⟩
    exact q _ (Qd.neg (Qd.row ps1 g1 : Qd (Qn 2))) _ (s03.trans (same_new ht)) (dpS ht (e1 2)) r1 w1
  have both : ∀ M : Qn 3 → Prop, M (Qd.row ps1 g1 : Qd (Qn 2)) → M (Qd.row ps2 g2 : Qd (Qn 2)) → ∀ q ∈ ([(Qd.row ps1 g1 : Qd (Qn 2)), (Qd.row ps2 g2 : Qd (Qn 2))] : List (Qn 3)), M q := fun M a b => fa2 a b
  refine ⟨_, rfl, rfl, _, rfl, ite2 (fun _ => ?_) (fun _ => ?_)⟩
  · refine ⟨_, rfl, _, rfl, (by show 2 ≤ sizeLine; decide), fun t ht => ⟨(by show 2 ≤ sizeLine; decide), fun u hu => ?_⟩⟩
    exact q _ (Qd.bin false [(Qd.row ps1 g1 : Qd (Qn 2)), (Qd.row ps2 g2 : Qd (Qn 2))]) _ ((s03.trans (same_new ht)).trans (same_new hu)) (dpS hu (dp2 ht (e1 2) (e2 2))) (fa2 r1 r2) ⟨by show 2 ≤ 10; decide, fa2 w1 w2⟩
  refine ⟨_, rfl, rfl, _, rfl, ite2 (fun _ => ?_) (fun _ => ?_)⟩
  · refine ⟨_, rfl, _, rfl, (by show 2 ≤ sizeLine; decide), fun t ht => ⟨(by show 2 ≤ sizeLine; decide), fun u hu => ?_⟩⟩
    exact q _ (Qd.bin true [(Qd.row ps1 g1 : Qd (Qn 2)), (Qd.row ps2 g2 : Qd (Qn 2))]) _ ((s03.trans (same_new ht)).trans (same_new hu)) (dpS hu (dp2 ht (e1 2) (e2 2))) (fa2 r1 r2) ⟨by show 2 ≤ 10; decide, fa2 w1 w2⟩
  refine ⟨_, rfl, rfl, _, rfl, ite2 (fun _ => ?_) (fun _ => ?_)⟩
  · refine ⟨_, rfl, _, rfl, (by show 2 ≤ sizeLine; decide), fun r hr2 => ⟨(by show 2 ≤ sizeLine; decide), fun t ht => ⟨(by show 2 ≤ sizeLine; decide), fun u hu => ?_⟩⟩⟩
    exact q _ (Qd.bin false [(Qd.row ps1 g1 : Qd (Qn 2)), (Qd.neg (Qd.row ps2 g2 : Qd (Qn 1)) : Qd (Qn 2))]) _ (((s03.trans (same_new hr2)).trans (same_new ht)).trans (same_new hu)) (dpS hu (dp2 ht (Dp.same (same_new hr2) (e1 2)) (dpS hr2 (e2 1)))) (fa2 r1 r2) ⟨by show 2 ≤ 10; decide, fa2 w1 w2⟩
  refine ⟨_, rfl, rfl, _, rfl, ite2 (fun _ => ?_) (fun _ => ?_)⟩
  · refine ⟨_, rfl, (by show 2 ≤ sizeLine; decide), fun r hr2 => ⟨_, rfl, (by show 2 ≤ sizeLine; decide), fun t ht => ⟨(by show 2 ≤ sizeLine; decide), fun u hu => ?_⟩⟩⟩
    exact q _ (Qd.bin true [(Qd.neg (Qd.row ps1 g1 : Qd (Qn 1)) : Qd (Qn 2)), (Qd.row ps2 g2 : Qd (Qn 2))]) _ (((s03.trans (same_new hr2)).trans (same_new ht)).trans (same_new hu)) (dpS hu (dp2 ht (dpS hr2 (e1 1)) (Dp.same (same_new hr2) (e2 2)))) (fa2 r1 r2) ⟨by show 2 ≤ 10; decide, fa2 w1 w2⟩
  refine ⟨_, rfl, rfl, _, rfl, ite2 (fun _ => ?_) (fun _ => ?_)⟩
  · refine ⟨(by show 1 ≤ sizeLine; decide), fun u hu => ?_⟩
    exact q _ (Qd.all : Qd (Qn 3)) _ (s03.trans (same_new hu)) dp1 trivial trivial
  refine ⟨_, rfl, rfl, _, rfl, ite2 (fun _ => ?_) (fun _ => ?_)⟩
  · refine ⟨_, rfl, _, rfl, (by show 1 ≤ sizeLine; decide), fun x1 hx1 => ⟨(by show 2 ≤ sizeLine; decide), fun x2 hx2 => ⟨(by show 2 ≤ sizeLine; decide), fun x3 hx3 => ⟨(by show 2 ≤ sizeLine; decide), fun x4 hx4 => ⟨(by show 2 ≤ sizeLine; decide), fun x5 hx5 => ⟨(by show 2 ≤ sizeLine; decide), fun x6 hx6 => ?_⟩⟩⟩⟩⟩⟩
    have a1 : Dp K (upd H3 x1 (.tup [.str "all"])) (.ref x1) (encQ 1 (Qd.all : Qd (Qn 0))) := dp1
    have a2 := dp2 hx2 (Dp.same (same_new hx1) (e2 0)) a1
    have a3 : Dp K _ (.ref x3) (encQ 2 (Qd.bin false [(Qd.row ps2 g2 : Qd (Qn 0)), (Qd.all : Qd (Qn 0))] : Qd (Qn 1))) := dpS hx3 a2
    have a4 := dp2 hx4 (Dp.same (((same_new hx1).trans (same_new hx2)).trans (same_new hx3)) (e1 1)) a3
    have a5 : Dp K _ (.ref x5) (encQ 3 (Qd.bin true [(Qd.row ps1 g1 : Qd (Qn 1)), (Qd.bin false [(Qd.row ps2 g2 : Qd (Qn 0)), (Qd.all : Qd (Qn 0))] : Qd (Qn 1))] : Qd (Qn 2))) := dpS hx5 a4
    exact q _ (Qd.neg (Qd.bin true [(Qd.row ps1 g1 : Qd (Qn 1)), (Qd.bin false [(Qd.row ps2 g2 : Qd (Qn 0)), (Qd.all : Qd (Qn 0))] : Qd (Qn 1))] : Qd (Qn 2))) _ ((((((s03.trans (same_new hx1)).trans (same_new hx2)).trans (same_new hx3)).trans (same_new hx4)).trans (same_new hx5)).trans (same_new hx6)) (dpS hx6 a5)
      (fa2 r1 (fa2 r2 trivial)) ⟨by show 2 ≤ 10; decide, fa2 w1 ⟨by show 2 ≤ 10; decide, fa2 w2 trivial⟩⟩
  · exact ⟨_, rfl, q _ (Qd.row ps1 g1 : Qd (Qn 3)) _ s03 d13 r1 w1⟩
end


def yNeeds (K : PySem.W.Frag) (Ps : List Tbl2) (n : Nat) : Sp := fun vs H Q _ => ∃ (vq : V) (q : Qn n), vs = [vq] ∧ Dp K H vq (encQ n q) ∧ okQ n q ∧ TabsG H Ps ∧ ∀ H', KT Ps H H' → Q (.bl (qB [] n q)) H'
theorem inV_any {b : Bool} : ∀ {l : List Bool}, inV (.bl b) (l.map V.bl) = l.any fun x => x == b
  | [] => rfl
  | a :: r => by
    show (eqV (.bl a) (.bl b) || inV (.bl b) (r.map V.bl)) = ((a == b) || r.any fun x => x == b)
    rw [inV_any]; rfl
section
variable {P : Program} {w : World} {K : PySem.W.Frag} {mg : Str → Option Value} {base : Heap} {A : Nat → Addr} {D : Nat → FuncData}
theorem ok_needs_all (T : Txt K mg A D) {Ps : List Tbl2} {P1 P2 P3 : Addr} (TFs : TbF base mg (D 3) P1) (hP1 : (P1, none) ∈ Ps) (TFh : TbF base mg (D 2) P2) (hP2 : (P2, none) ∈ Ps) (TFm : TbF base mg (D 1) P3) (hP3 : (P3, some lamQ) ∈ Ps) (n : Nat) :
    FnOk P w K mg base CX0 (4 * n + 9) (A 6) (D 6) ["question"] (yNeeds K Ps n) := by
  have G_matches := ok_matches (P := P) (w := w) (base := base) T TFs hP1 TFh hP2 TFm hP3 n
  refine T.F_needs_all.ok (k := 4 * n + 8) sc_needs_all (fun vs H Q E h => ?_) (fun cdv A' outer s H vs Q E hr h => ?_)
  · obtain ⟨vq, q, rfl, _⟩ := h; rfl
  obtain ⟨vq, q, rfl, hq, ok, hT, fin⟩ := h
  have hnd := sc_needs_all.nd
  refine ⟨_, (pss_one (ps_ret (pe_call G_matches (hr.mono (by first | decide | omega)) rfl T.m_matches T.F_matches.kp T.b_matches .nil pass0 (pa_cons (pe_tup pa_nil) (pa_cons (pv 0) pa_nil))))), ?_⟩
  refine ⟨(by show 0 ≤ sizeLine; decide), fun t ht => ?_⟩
  have st := same_new (o := .tup []) ht
  refine ⟨_, rfl, .ref t, vq, [], q, rfl, .tup (SqT.of upd_same) .nil, Dp.same st hq, ok, hT.same st, (by decide), fun H' k => fin H' ((KT.of hT st).trans k)⟩
theorem ok_emp32 (T : Txt K mg A D) : ∀ n, FnOk P w K mg base CX0 n (A 13) (D 13) ["question"] (yEmp32 K n)
  | 0 => by
    have no : ∀ vs H Q E, ¬ yEmp32 K 0 vs H Q E := fun vs H Q E h => by
      obtain ⟨v, q, _⟩ := h
      exact nomatch (q : Empty)
    exact ⟨fun vs H Q E h => absurd h (no vs H Q E), fun A outer s H args us vs Q E _ _ _ _ h => absurd h (no vs H Q E)⟩
  | n + 1 => by
    have G__law_empty := ok_emp32 T n
    refine T.F__law_empty.ok sc__law_empty (fun vs H Q E h => ?_) (fun cdv A' outer s H vs Q E hr h => ?_)
    · obtain ⟨v, q, rfl, _⟩ := h; rfl
    obtain ⟨v, q, rfl, hq, ok, fin⟩ := h
    have hnd := sc__law_empty.nd
    refine ⟨_, (pss_cons (ps_if (pt_cmpR op_eq (pe_ix (r := rIxT K) ix_tup (pv 0) pe_int (fun _ _ => rfl)) pe_str (nomark _)) (pss_one (ps_ret pe_bl)) pss_nil) (pss_cons (ps_if (pt_cmpR op_eq (pe_ix (r := rIxT K) ix_tup (pv 0) pe_int (fun _ _ => rfl)) pe_str (nomark _)) (pss_one (ps_ret pe_bl)) pss_nil) (pss_cons (ps_if (pt_cmpR op_eq (pe_ix (r := rIxT K) ix_tup (pv 0) pe_int (fun _ _ => rfl)) pe_str (nomark _)) (pss_one (ps_ret (pe_not (pe_call G__law_empty (hr.mono (by first | decide | omega)) rfl T.m__law_empty T.F__law_empty.kp T.b__law_empty .nil pass0 (pa_cons (pe_ix (r := rIxT K) ix_tup (pv 0) pe_int (fun _ _ => rfl)) pa_nil))))) pss_nil) (pss_cons (ps_setLc (i := 2) (own := [("part", 1)]) rfl hnd rfl rfl (sw_true rfl rfl rfl (by decide +kernel)) (pi_tup (pe_ix (r := rIxT K) ix_tup (pv 0) pe_int (fun _ _ => rfl))) (blkOk_by (own := [("part", 1)]) (N := N__law_empty) (sc := defScope s__law_empty) (by decide +kernel)) (fun _ _ _ _ _ => (pg_name (i := 1) hnd rfl (Or.inl rfl))) (fun _ _ _ _ _ => pts_nil) (fun _ _ _ _ _ => (pe_call G__law_empty (hr.mono (by first | decide | omega)) rfl T.m__law_empty T.F__law_empty.kp T.b__law_empty .nil pass0 (pa_cons (pv 1) pa_nil)))) (pss_cons (ps_if (pt_cmpR op_eq (pe_ix (r := rIxT K) ix_tup (pv 0) pe_int (fun _ _ => rfl)) pe_str (nomark _)) (pss_one (ps_ret (pe_cmpR op_notIn_seq pe_bl (pv 2) (by rfl)))) pss_nil) (pss_one (ps_ret (pe_cmpR op_in_seq pe_bl (pv 2) (by rfl))))))))), ?_⟩
    rcases q with _ | ⟨ps, gap⟩ | q | ⟨o, qs⟩
    · obtain ⟨aq, us, rfl, haq, hus⟩ := dp_kind (show Dp K H v (.tuple [.str "all"]) from hq)
      refine ⟨_, rfl, aq, _, 0, _, rfl, rfl, haq, atI_nat (j := 0) rfl, rfl, _, rfl, strF (by decide) ?_⟩
      refine ⟨_, rfl, aq, _, 0, _, rfl, rfl, haq, atI_nat (j := 0) rfl, rfl, _, rfl, strT ?_⟩
      exact fin H (Same.refl H)
    · obtain ⟨ar, pa, pxs, rfl, har, hpa, hpx⟩ := dp_encRow (show Dp K H v (encRow ps gap) from hq)
      refine ⟨_, rfl, ar, _, 0, _, rfl, rfl, har, rfl, rfl, _, rfl, strT ?_⟩
      exact fin H (Same.refl H)
    · obtain ⟨aq, us, rfl, haq, hus⟩ := dp_kind (show Dp K H v (.tuple [.str "not", encQ n q]) from hq)
      obtain ⟨v1, us2, rfl, hv1, hnil⟩ := DpAll.consI hus
      refine ⟨_, rfl, aq, _, 0, _, rfl, rfl, haq, atI_nat (j := 0) rfl, rfl, _, rfl, strF (by decide) ?_⟩
      refine ⟨_, rfl, aq, _, 0, _, rfl, rfl, haq, atI_nat (j := 0) rfl, rfl, _, rfl, strF (by decide) ?_⟩
      refine ⟨_, rfl, aq, _, 0, _, rfl, rfl, haq, atI_nat (j := 0) rfl, rfl, _, rfl, strT ?_⟩
      exact ⟨_, rfl, aq, _, 1, _, rfl, rfl, haq, atI_nat (j := 1) rfl, v1, q, rfl, hv1, ok, fun H' s' => ⟨_, rfl, fin H' s'⟩⟩
    · obtain ⟨aq, us, rfl, haq, hus⟩ := dp_kind (show Dp K H v (.tuple [.str (if o = true then "or" else "and"), .tuple (qs.map (encQ n))]) from hq)
      obtain ⟨v1, us2, rfl, hv1, hnil⟩ := DpAll.consI hus
      obtain ⟨ap, xs, rfl, hap, hxs⟩ := Dp.tupI hv1
      have hl : xs.length = qs.length := by rw [DpAll.len hxs, List.length_map]
      have f1 : ("or" : Str) ≠ "row" := by decide
      have kd : ∀ z : Str, z = "row" ∨ z = "all" ∨ z = "not" → (if o = true then ("or" : Str) else "and") ≠ z := fun z hz e => by
        cases o <;> rcases hz with rfl | rfl | rfl <;> exact absurd e (by decide)
      refine ⟨_, rfl, aq, _, 0, _, rfl, rfl, haq, atI_nat (j := 0) rfl, rfl, _, rfl, strF (kd _ (.inl rfl)) ?_⟩
      refine ⟨_, rfl, aq, _, 0, _, rfl, rfl, haq, atI_nat (j := 0) rfl, rfl, _, rfl, strF (kd _ (.inr (.inl rfl))) ?_⟩
      refine ⟨_, rfl, aq, _, 0, _, rfl, rfl, haq, atI_nat (j := 0) rfl, rfl, _, rfl, strF (kd _ (.inr (.inr rfl))) ?_⟩
      refine ⟨_, rfl, aq, _, 1, _, rfl, rfl, haq, atI_nat (j := 1) rfl, ap, rfl, ⟨xs, hap⟩, fun DD hDD => ?_⟩
      have sD := same_new (o := .lst []) hDD
      have okp : ∀ q ∈ qs, okQ n q := ok.1
      obtain ⟨oke1, oke2⟩ : qs.length ≤ 10 ∧ ∀ q ∈ qs, okE n q := ok.2
      refine lc_it (walk_tup (xs := xs)) (fun i H' => Same H H' ∧ H' DD = some (.lst (((qs.take i).map (eB n)).map V.bl))) ⟨sD, upd_same⟩ (fun i H' _ h => (TK.same h.1).seq hap) ?_ ?_
      · rintro i x H' H2 hi ⟨s2, h2⟩ ⟨rfl, hx⟩
        rw [hl] at hi
        obtain ⟨u, hu, du⟩ := DpAll.get hxs (i := i) (d := encQ n qs[i]) (by rw [List.getElem?_map, List.getElem?_eq_getElem hi]; rfl)
        have ev : x = u := Option.some.inj (hx.symm.trans hu)
        subst ev
        refine ⟨rfl, _, rfl, x, qs[i], rfl, Dp.same s2 du, ⟨okp _ (List.getElem_mem hi), oke2 _ (List.getElem_mem hi)⟩, fun H3 s3 => ?_⟩
        refine ⟨_, s3 _ _ h2, ?_, same_upd (s2.trans s3) hDD, ?_⟩
        · rw [List.length_map, List.length_map, List.length_take]
          show min i qs.length < 16777216
          omega
        · rw [upd_same, List.take_add_one, List.getElem?_eq_getElem hi, List.map_append, List.map_append]
          rfl
      · rintro H2 ⟨s2, h2⟩
        rw [take_all (Nat.le_of_eq hl.symm)] at h2
        have fl : ((qs.map (eB n)).map V.bl).all flatV = true := List.all_eq_true.mpr fun x hx => by
          obtain ⟨b, _, rfl⟩ := List.mem_map.mp hx
          rfl
        have haq2 := (TK.same s2).seq haq
        cases o with
        | false =>
          refine ⟨_, rfl, aq, _, 0, _, rfl, rfl, haq2, atI_nat (j := 0) rfl, rfl, _, rfl, strT ?_⟩
          refine ⟨_, rfl, DD, _, rfl, .inl (SqL.of h2), rfl, fl, ?_⟩
          have e : (!inV (.bl false) ((qs.map (eB n)).map V.bl)) = eB (n + 1) (Qd.bin false qs) := by
            rw [inV_any]
            show _ = qs.all (eB n)
            rw [List.any_map, List.not_any_eq_all_not]
            exact congrArg _ (funext fun x => by show (!(eB n x == false)) = eB n x; cases eB n x <;> rfl)
          have f2 := fin H2 s2
          rw [← e] at f2
          exact f2
        | true =>
          refine ⟨_, rfl, aq, _, 0, _, rfl, rfl, haq2, atI_nat (j := 0) rfl, rfl, _, rfl, strF (by decide) ?_⟩
          refine ⟨_, rfl, DD, _, rfl, .inl (SqL.of h2), rfl, fl, ?_⟩
          have e : inV (.bl true) ((qs.map (eB n)).map V.bl) = eB (n + 1) (Qd.bin true qs) := by
            rw [inV_any]
            show _ = qs.any (eB n)
            rw [List.any_map]
            exact congrArg _ (funext fun x => by show (eB n x == true) = eB n x; cases eB n x <;> rfl)
          have f2 := fin H2 s2
          rw [← e] at f2
          exact f2
theorem ok_law (T : Txt K mg A D) {P1 P2 P3 : Addr} (TFm : TbF base mg (D 1) P1) (TFh : TbF base mg (D 2) P2) (TFs : TbF base mg (D 3) P3) : FnOk P w K mg base CX0 27 (A 14) (D 14) ["script"] (ySpLawT K [P1, P2, P3]) := by
  refine T.F_law.ok (k := 26) sc_law (fun vs H Q E h => ?_) (fun cdv A' outer s H vs Q E hr h => ?_)
  · obtain ⟨_, _, a, ns, rfl, _⟩ := h; rfl
  obtain ⟨hnd0, hT0, a, ns, rfl, hS, hn, fin⟩ := h
  have hT : TabsG H [(P1, some lamQ), (P2, none), (P3, none)] := TabsG.start hnd0 hT0
  have hnd := sc_law.nd
  have G_matches := ok_matches (P := P) (w := w) (base := base) (Ps := [(P1, some lamQ), (P2, none), (P3, none)]) T TFs (.tail _ (.tail _ (.head _))) TFh (.tail _ (.head _)) TFm (.head _) 4
  have G_needs_all := ok_needs_all (P := P) (w := w) (base := base) (Ps := [(P1, some lamQ), (P2, none), (P3, none)]) T TFs (.tail _ (.tail _ (.head _))) TFh (.tail _ (.head _)) TFm (.head _) 4
  have G__law_question := ok_q32 (P := P) (w := w) (base := base) T
  have G__law_empty := ok_emp32 (P := P) (w := w) (base := base) T 4
  refine ⟨_, (pss_cons (ps_for PassesOwn.never rfl (pi_range1 rfl T.z_range (pa_cons pe_int pa_nil)) (pg_name (i := 1) hnd rfl (Or.inl rfl)) (pss_cons (ps_set (i := 2) hnd rfl (Or.inl rfl) (pe_call G__law_question (hr.mono (by first | decide | omega)) rfl T.m__law_question T.F__law_question.kp T.b__law_question .nil pass0 (pa_cons (pv 0) (pa_cons (pv 1) pa_nil)))) (pss_cons (ps_if (pt_cmpR op_ne (pe_call G_needs_all (hr.mono (by first | decide | omega)) rfl T.m_needs_all T.F_needs_all.kp T.b_needs_all .nil pass0 (pa_cons (pv 2) pa_nil)) (pe_call G__law_empty (hr.mono (by first | decide | omega)) rfl T.m__law_empty T.F__law_empty.kp T.b__law_empty .nil pass0 (pa_cons (pv 2) pa_nil)) (nomark _)) (pss_one (ps_ret pe_bl)) pss_nil) (pss_one (ps_if (pt_cmpR op_ne (pe_call G_matches (hr.mono (by first | decide | omega)) rfl T.m_matches T.F_matches.kp T.b_matches .nil pass0 (pa_cons (pe_tup (pa_cons pe_str (pa_cons pe_str pa_nil))) (pa_cons (pv 2) pa_nil))) (pe_call G__law_empty (hr.mono (by first | decide | omega)) rfl T.m__law_empty T.F__law_empty.kp T.b__law_empty .nil pass0 (pa_cons (pv 2) pa_nil)) (nomark _)) (pss_one (ps_ret pe_bl)) pss_nil))))) (pss_one (ps_ret pe_bl))), ?_⟩
  refine ⟨_, rfl, by decide, by decide, ?_⟩
  refine for_range (n := 6) (fun i σ H' => (∃ c1 c2, σ = [some (.ref a), c1, c2]) ∧ KT [(P1, some lamQ), (P2, none), (P3, none)] H H') ⟨⟨_, _, rfl⟩, KT.refl hT⟩ ?_ ?_
  · rintro i σ H1 hi ⟨⟨c1, c2, rfl⟩, k1⟩
    refine ⟨_, rfl, _, rfl, a, ns, i, (by rw [Int.zero_add]; rfl), k1.seqL hT hS, (by omega), fun v q H2 s2 dq o1 o2 => ?_⟩
    have T2 := k1.1.same s2
    have eqA : qB [] 4 q = eB 4 q := by
      rw [qB_by]
      exact qBy_congr (fun ps gap _ _ => rfl) 4 q o1 o2
    have eqB : qB ["q7", "xyz"] 4 q = eB 4 q := by
      rw [qB_by]
      exact qBy_congr (fun ps gap h1 h2 => rowB_no gap h1 h2) 4 q o1 o2
    refine ⟨_, rfl, v, q, rfl, dq, o1, T2, fun H3 k3 => ?_⟩
    have d3 := Dp.keep (k3.tk T2) dq (imm_encQ 4 q)
    refine ⟨_, rfl, v, q, rfl, d3, ⟨o1, o2⟩, fun H4 s4 => ?_⟩
    have T4 := k3.1.same s4
    have d4 := Dp.same s4 d3
    rw [eqA]
    refine ⟨rfl, _, rfl, ?_⟩
    rw [decide_eq_true rfl]
    refine iteF ⟨(by show 2 ≤ sizeLine; decide), fun t ht => ?_⟩
    have st := same_new (o := .tup [.str "q7", .str "xyz"]) ht
    refine ⟨_, rfl, .ref t, v, ["q7", "xyz"], q, rfl, .tup (SqT.of upd_same) (.cons (.str _) (.cons (.str _) .nil)), Dp.same st d4, o1, T4.same st, (by decide), fun H5 k5 => ?_⟩
    have d5 := Dp.keep (k5.tk (T4.same st)) (Dp.same st d4) (imm_encQ 4 q)
    refine ⟨_, rfl, v, q, rfl, d5, ⟨o1, o2⟩, fun H6 s6 => ?_⟩
    rw [eqB]
    refine ⟨rfl, _, rfl, ?_⟩
    rw [decide_eq_true rfl]
    exact iteF ⟨⟨_, _, rfl⟩, ((((k1.same s2).trans k3).same s4).same st).trans (k5.same s6)⟩
  · rintro σ H1 ⟨⟨c1, c2, rfl⟩, k1⟩
    exact fin _
end

theorem all_mk {l : PySem.W.OpenLaw} {w : World} {K : PySem.W.Frag} {h : Heap} {mg : Str → Option Value} {fa f0 f1 f2 f3 f4 f5 f6 f7 f8 f9 f10 f11 f12 f13 f14 : Addr} (X : K.In h) (G : h.Ns mainGlobals mg) (hfa : mg "law" = some (.ref fa))
    {od0 od1 od2 od3 od4 od5 od6 od7 od8 od9 od10 od11 od12 od13 od14 an0 an1 an2 an3 an4 an5 an6 an7 an8 an9 an10 an11 an12 an13 an14 : Option Addr} {sl0 sl1 sl2 sl3 sl4 sl5 sl6 sl7 sl8 sl9 sl10 sl11 sl12 sl13 sl14 : Array (Option Value)} {oc0 oc1 oc2 oc3 oc4 oc5 oc6 oc7 oc8 oc9 oc10 oc11 oc12 oc13 oc14 kV0 kV1 kV2 kV3 kV4 kV5 kV6 kV7 kV8 kV9 kV10 kV11 kV12 kV13 kV14 dc0 dc1 dc2 dc3 dc4 dc5 dc6 dc7 dc8 dc9 dc10 dc11 dc12 dc13 dc14 pm0 pm1 pm2 pm3 pm4 pm5 pm6 pm7 pm8 pm9 pm10 pm11 pm12 pm13 pm14 cd0 cd1 cd2 cd3 cd4 cd5 cd6 cd7 cd8 cd9 cd10 cd11 cd12 cd13 cd14 ct0 ct1 ct2 ct3 ct4 ct5 ct6 ct7 ct8 ct9 ct10 ct11 ct12 ct13 ct14 : Value}
    (a0 : PySem.W.nsIn K mainGlobals "fits" = some (some (.ref f0))) (l0 : K.lookup f0 = some ⟨oc0, od0, .func (PySem.W.fnOf "fits" "fits" (defArgs s_fits) (defBody s_fits) (defScope s_fits) .none kV0 dc0 pm0 an0 cd0 ct0), sl0⟩) (c0 : PySem.W.codeIn K cd0 "fits" = true) (k0 : PySem.W.keepIn K (.ref f0) = true)
    (a1 : PySem.W.nsIn K mainGlobals "matches" = some (some (.ref f1))) (l1 : K.lookup f1 = some ⟨oc1, od1, .func (PySem.W.fnOf "matches" "matches" (defArgs s_matches) (defBody s_matches) (defScope s_matches) .none kV1 dc1 pm1 an1 cd1 ct1), sl1⟩) (c1 : PySem.W.codeIn K cd1 "matches" = true) (k1 : PySem.W.keepIn K (.ref f1) = true)
    (a2 : PySem.W.nsIn K mainGlobals "holds" = some (some (.ref f2))) (l2 : K.lookup f2 = some ⟨oc2, od2, .func (PySem.W.fnOf "holds" "holds" (defArgs s_holds) (defBody s_holds) (defScope s_holds) .none kV2 dc2 pm2 an2 cd2 ct2), sl2⟩) (c2 : PySem.W.codeIn K cd2 "holds" = true) (k2 : PySem.W.keepIn K (.ref f2) = true)
    (a3 : PySem.W.nsIn K mainGlobals "has_standing" = some (some (.ref f3))) (l3 : K.lookup f3 = some ⟨oc3, od3, .func (PySem.W.fnOf "has_standing" "has_standing" (defArgs s_has_standing) (defBody s_has_standing) (defScope s_has_standing) .none kV3 dc3 pm3 an3 cd3 ct3), sl3⟩) (c3 : PySem.W.codeIn K cd3 "has_standing" = true) (k3 : PySem.W.keepIn K (.ref f3) = true)
    (a4 : PySem.W.nsIn K mainGlobals "begins_standing" = some (some (.ref f4))) (l4 : K.lookup f4 = some ⟨oc4, od4, .func (PySem.W.fnOf "begins_standing" "begins_standing" (defArgs s_begins_standing) (defBody s_begins_standing) (defScope s_begins_standing) .none kV4 dc4 pm4 an4 cd4 ct4), sl4⟩) (c4 : PySem.W.codeIn K cd4 "begins_standing" = true) (k4 : PySem.W.keepIn K (.ref f4) = true)
    (a5 : PySem.W.nsIn K mainGlobals "end_behind" = some (some (.ref f5))) (l5 : K.lookup f5 = some ⟨oc5, od5, .func (PySem.W.fnOf "end_behind" "end_behind" (defArgs s_end_behind) (defBody s_end_behind) (defScope s_end_behind) .none kV5 dc5 pm5 an5 cd5 ct5), sl5⟩) (c5 : PySem.W.codeIn K cd5 "end_behind" = true) (k5 : PySem.W.keepIn K (.ref f5) = true)
    (a6 : PySem.W.nsIn K mainGlobals "needs_all" = some (some (.ref f6))) (l6 : K.lookup f6 = some ⟨oc6, od6, .func (PySem.W.fnOf "needs_all" "needs_all" (defArgs s_needs_all) (defBody s_needs_all) (defScope s_needs_all) .none kV6 dc6 pm6 an6 cd6 ct6), sl6⟩) (c6 : PySem.W.codeIn K cd6 "needs_all" = true) (k6 : PySem.W.keepIn K (.ref f6) = true)
    (a7 : PySem.W.nsIn K mainGlobals "_law_cell" = some (some (.ref f7))) (l7 : K.lookup f7 = some ⟨oc7, od7, .func (PySem.W.fnOf "_law_cell" "_law_cell" (defArgs s__law_cell) (defBody s__law_cell) (defScope s__law_cell) .none kV7 dc7 pm7 an7 cd7 ct7), sl7⟩) (c7 : PySem.W.codeIn K cd7 "_law_cell" = true) (k7 : PySem.W.keepIn K (.ref f7) = true)
    (a8 : PySem.W.nsIn K mainGlobals "_law_digits" = some (some (.ref f8))) (l8 : K.lookup f8 = some ⟨oc8, od8, .func (PySem.W.fnOf "_law_digits" "_law_digits" (defArgs s__law_digits) (defBody s__law_digits) (defScope s__law_digits) .none kV8 dc8 pm8 an8 cd8 ct8), sl8⟩) (c8 : PySem.W.codeIn K cd8 "_law_digits" = true) (k8 : PySem.W.keepIn K (.ref f8) = true)
    (a9 : PySem.W.nsIn K mainGlobals "_law_padded" = some (some (.ref f9))) (l9 : K.lookup f9 = some ⟨oc9, od9, .func (PySem.W.fnOf "_law_padded" "_law_padded" (defArgs s__law_padded) (defBody s__law_padded) (defScope s__law_padded) .none kV9 dc9 pm9 an9 cd9 ct9), sl9⟩) (c9 : PySem.W.codeIn K cd9 "_law_padded" = true) (k9 : PySem.W.keepIn K (.ref f9) = true)
    (a10 : PySem.W.nsIn K mainGlobals "_law_pattern" = some (some (.ref f10))) (l10 : K.lookup f10 = some ⟨oc10, od10, .func (PySem.W.fnOf "_law_pattern" "_law_pattern" (defArgs s__law_pattern) (defBody s__law_pattern) (defScope s__law_pattern) .none kV10 dc10 pm10 an10 cd10 ct10), sl10⟩) (c10 : PySem.W.codeIn K cd10 "_law_pattern" = true) (k10 : PySem.W.keepIn K (.ref f10) = true)
    (a11 : PySem.W.nsIn K mainGlobals "_law_row" = some (some (.ref f11))) (l11 : K.lookup f11 = some ⟨oc11, od11, .func (PySem.W.fnOf "_law_row" "_law_row" (defArgs s__law_row) (defBody s__law_row) (defScope s__law_row) .none kV11 dc11 pm11 an11 cd11 ct11), sl11⟩) (c11 : PySem.W.codeIn K cd11 "_law_row" = true) (k11 : PySem.W.keepIn K (.ref f11) = true)
    (a12 : PySem.W.nsIn K mainGlobals "_law_question" = some (some (.ref f12))) (l12 : K.lookup f12 = some ⟨oc12, od12, .func (PySem.W.fnOf "_law_question" "_law_question" (defArgs s__law_question) (defBody s__law_question) (defScope s__law_question) .none kV12 dc12 pm12 an12 cd12 ct12), sl12⟩) (c12 : PySem.W.codeIn K cd12 "_law_question" = true) (k12 : PySem.W.keepIn K (.ref f12) = true)
    (a13 : PySem.W.nsIn K mainGlobals "_law_empty" = some (some (.ref f13))) (l13 : K.lookup f13 = some ⟨oc13, od13, .func (PySem.W.fnOf "_law_empty" "_law_empty" (defArgs s__law_empty) (defBody s__law_empty) (defScope s__law_empty) .none kV13 dc13 pm13 an13 cd13 ct13), sl13⟩) (c13 : PySem.W.codeIn K cd13 "_law_empty" = true) (k13 : PySem.W.keepIn K (.ref f13) = true)
    (a14 : PySem.W.nsIn K mainGlobals "law" = some (some (.ref f14))) (l14 : K.lookup f14 = some ⟨oc14, od14, .func (PySem.W.fnOf "law" "law" (defArgs s_law) (defBody s_law) (defScope s_law) .none kV14 dc14 pm14 an14 cd14 ct14), sl14⟩) (c14 : PySem.W.codeIn K cd14 "law" = true) (k14 : PySem.W.keepIn K (.ref f14) = true)
    (z0 : PySem.W.nsIn K mainGlobals "all" = some none)
    (z1 : PySem.W.nsIn K mainGlobals "any" = some none)
    (z2 : PySem.W.nsIn K mainGlobals "int" = some none)
    (z3 : PySem.W.nsIn K mainGlobals "len" = some none)
    (z4 : PySem.W.nsIn K mainGlobals "min" = some none)
    (z5 : PySem.W.nsIn K mainGlobals "range" = some none)
    (z6 : PySem.W.nsIn K mainGlobals "tuple" = some none)
    {cG0 pG0 : Addr} (hG0 : cd1 = .ref cG0)
    {cG1 pG1 : Addr} (hG1 : cd2 = .ref cG1)
    {cG2 pG2 : Addr} (hG2 : cd3 = .ref cG2)
    : ∃ fd : FuncData, (∀ (s : Shared) (v : Value), BindsTo s fd ⟨[v], []⟩ [("script", v)]) ∧ ∀ base : Heap, K.In base → base.Ns mainGlobals mg → (∀ p ∈ [(cG0, pG0), (cG1, pG1), (cG2, pG2)], LamX.TabB base mg p.1 p.2) → FnOk l.prog w K mg base CX0 27 fa fd ["script"] (ySpLawT K ([(cG0, pG0), (cG1, pG1), (cG2, pG2)].map (·.2))) := by
  have e := hfa.symm.trans (PySem.W.mg_of X G a14)
  cases e
  have F0 := fun_mk (st := s_fits) l0 c0 k0
  have F1 := fun_mk (st := s_matches) l1 c1 k1
  have F2 := fun_mk (st := s_holds) l2 c2 k2
  have F3 := fun_mk (st := s_has_standing) l3 c3 k3
  have F4 := fun_mk (st := s_begins_standing) l4 c4 k4
  have F5 := fun_mk (st := s_end_behind) l5 c5 k5
  have F6 := fun_mk (st := s_needs_all) l6 c6 k6
  have F7 := fun_mk (st := s__law_cell) l7 c7 k7
  have F8 := fun_mk (st := s__law_digits) l8 c8 k8
  have F9 := fun_mk (st := s__law_padded) l9 c9 k9
  have F10 := fun_mk (st := s__law_pattern) l10 c10 k10
  have F11 := fun_mk (st := s__law_row) l11 c11 k11
  have F12 := fun_mk (st := s__law_question) l12 c12 k12
  have F13 := fun_mk (st := s__law_empty) l13 c13 k13
  have F14 := fun_mk (st := s_law) l14 c14 k14
  have b0 := F0.binds (ps := ["word", "pattern"]) fun _ _ _ _ _ _ us hl => match us, hl with | [_, _], _ => rfl
  have b1 := F1.binds (ps := ["document", "question"]) fun _ _ _ _ _ _ us hl => match us, hl with | [_, _], _ => rfl
  have b2 := F2.binds (ps := ["question", "is_met"]) fun _ _ _ _ _ _ us hl => match us, hl with | [_, _], _ => rfl
  have b3 := F3.binds (ps := ["document", "row"]) fun _ _ _ _ _ _ us hl => match us, hl with | [_, _], _ => rfl
  have b4 := F4.binds (ps := ["document", "row", "places"]) fun _ _ _ _ _ _ us hl => match us, hl with | [_, _, _], _ => rfl
  have b5 := F5.binds (ps := ["document", "row", "first"]) fun _ _ _ _ _ _ us hl => match us, hl with | [_, _, _], _ => rfl
  have b6 := F6.binds (ps := ["question"]) fun _ _ _ _ _ _ us hl => match us, hl with | [_], _ => rfl
  have b7 := F7.binds (ps := ["script", "k"]) fun _ _ _ _ _ _ us hl => match us, hl with | [_, _], _ => rfl
  have b8 := F8.binds (ps := ["cell", "k", "most"]) fun _ _ _ _ _ _ us hl => match us, hl with | [_, _, _], _ => rfl
  have b9 := F9.binds (ps := ["cell", "k"]) fun _ _ _ _ _ _ us hl => match us, hl with | [_, _], _ => rfl
  have b10 := F10.binds (ps := ["digit"]) fun _ _ _ _ _ _ us hl => match us, hl with | [_], _ => rfl
  have b11 := F11.binds (ps := ["d"]) fun _ _ _ _ _ _ us hl => match us, hl with | [_], _ => rfl
  have b12 := F12.binds (ps := ["script", "k"]) fun _ _ _ _ _ _ us hl => match us, hl with | [_, _], _ => rfl
  have b13 := F13.binds (ps := ["question"]) fun _ _ _ _ _ _ us hl => match us, hl with | [_], _ => rfl
  have b14 := F14.binds (ps := ["script"]) fun _ _ _ _ _ _ us hl => match us, hl with | [_], _ => rfl
  let AA : Nat → Addr := fun i => match i with | 0 => f0 | 1 => f1 | 2 => f2 | 3 => f3 | 4 => f4 | 5 => f5 | 6 => f6 | 7 => f7 | 8 => f8 | 9 => f9 | 10 => f10 | 11 => f11 | 12 => f12 | 13 => f13 | 14 => fa | _ => fa
  let DD : Nat → FuncData := fun i => match i with | 0 => PySem.W.fnOf "fits" "fits" (defArgs s_fits) (defBody s_fits) (defScope s_fits) .none kV0 dc0 pm0 an0 cd0 ct0 | 1 => PySem.W.fnOf "matches" "matches" (defArgs s_matches) (defBody s_matches) (defScope s_matches) .none kV1 dc1 pm1 an1 cd1 ct1 | 2 => PySem.W.fnOf "holds" "holds" (defArgs s_holds) (defBody s_holds) (defScope s_holds) .none kV2 dc2 pm2 an2 cd2 ct2 | 3 => PySem.W.fnOf "has_standing" "has_standing" (defArgs s_has_standing) (defBody s_has_standing) (defScope s_has_standing) .none kV3 dc3 pm3 an3 cd3 ct3 | 4 => PySem.W.fnOf "begins_standing" "begins_standing" (defArgs s_begins_standing) (defBody s_begins_standing) (defScope s_begins_standing) .none kV4 dc4 pm4 an4 cd4 ct4 | 5 => PySem.W.fnOf "end_behind" "end_behind" (defArgs s_end_behind) (defBody s_end_behind) (defScope s_end_behind) .none kV5 dc5 pm5 an5 cd5 ct5 | 6 => PySem.W.fnOf "needs_all" "needs_all" (defArgs s_needs_all) (defBody s_needs_all) (defScope s_needs_all) .none kV6 dc6 pm6 an6 cd6 ct6 | 7 => PySem.W.fnOf "_law_cell" "_law_cell" (defArgs s__law_cell) (defBody s__law_cell) (defScope s__law_cell) .none kV7 dc7 pm7 an7 cd7 ct7 | 8 => PySem.W.fnOf "_law_digits" "_law_digits" (defArgs s__law_digits) (defBody s__law_digits) (defScope s__law_digits) .none kV8 dc8 pm8 an8 cd8 ct8 | 9 => PySem.W.fnOf "_law_padded" "_law_padded" (defArgs s__law_padded) (defBody s__law_padded) (defScope s__law_padded) .none kV9 dc9 pm9 an9 cd9 ct9 | 10 => PySem.W.fnOf "_law_pattern" "_law_pattern" (defArgs s__law_pattern) (defBody s__law_pattern) (defScope s__law_pattern) .none kV10 dc10 pm10 an10 cd10 ct10 | 11 => PySem.W.fnOf "_law_row" "_law_row" (defArgs s__law_row) (defBody s__law_row) (defScope s__law_row) .none kV11 dc11 pm11 an11 cd11 ct11 | 12 => PySem.W.fnOf "_law_question" "_law_question" (defArgs s__law_question) (defBody s__law_question) (defScope s__law_question) .none kV12 dc12 pm12 an12 cd12 ct12 | 13 => PySem.W.fnOf "_law_empty" "_law_empty" (defArgs s__law_empty) (defBody s__law_empty) (defScope s__law_empty) .none kV13 dc13 pm13 an13 cd13 ct13 | 14 => PySem.W.fnOf "law" "law" (defArgs s_law) (defBody s_law) (defScope s_law) .none kV14 dc14 pm14 an14 cd14 ct14 | _ => PySem.W.fnOf "law" "law" (defArgs s_law) (defBody s_law) (defScope s_law) .none kV14 dc14 pm14 an14 cd14 ct14
  have T : Txt K mg AA DD := { F_fits := F0, b_fits := b0, m_fits := PySem.W.mg_of X G a0, F_matches := F1, b_matches := b1, m_matches := PySem.W.mg_of X G a1, F_holds := F2, b_holds := b2, m_holds := PySem.W.mg_of X G a2, F_has_standing := F3, b_has_standing := b3, m_has_standing := PySem.W.mg_of X G a3, F_begins_standing := F4, b_begins_standing := b4, m_begins_standing := PySem.W.mg_of X G a4, F_end_behind := F5, b_end_behind := b5, m_end_behind := PySem.W.mg_of X G a5, F_needs_all := F6, b_needs_all := b6, m_needs_all := PySem.W.mg_of X G a6, F__law_cell := F7, b__law_cell := b7, m__law_cell := PySem.W.mg_of X G a7, F__law_digits := F8, b__law_digits := b8, m__law_digits := PySem.W.mg_of X G a8, F__law_padded := F9, b__law_padded := b9, m__law_padded := PySem.W.mg_of X G a9, F__law_pattern := F10, b__law_pattern := b10, m__law_pattern := PySem.W.mg_of X G a10, F__law_row := F11, b__law_row := b11, m__law_row := PySem.W.mg_of X G a11, F__law_question := F12, b__law_question := b12, m__law_question := PySem.W.mg_of X G a12, F__law_empty := F13, b__law_empty := b13, m__law_empty := PySem.W.mg_of X G a13, F_law := F14, b_law := b14, m_law := PySem.W.mg_of X G a14, z_all := PySem.W.mg_none_of X G z0, z_any := PySem.W.mg_none_of X G z1, z_int := PySem.W.mg_none_of X G z2, z_len := PySem.W.mg_none_of X G z3, z_min := PySem.W.mg_none_of X G z4, z_range := PySem.W.mg_none_of X G z5, z_tuple := PySem.W.mg_none_of X G z6 }
  exact ⟨DD 14, fun s v => .of_eq rfl, fun base _ _ TB => ok_law (A := AA) (D := DD) T ⟨cG0, hG0, TB (cG0, pG0) (.head _)⟩ ⟨cG1, hG1, TB (cG1, pG1) (.tail _ (.head _))⟩ ⟨cG2, hG2, TB (cG2, pG2) (.tail _ (.tail _ (.head _)))⟩⟩
theorem walk {l : PySem.W.OpenLaw} {q : Program} {loose : List Str} {XP : (Str → Option Value) → Heap → Prop} {YP : World → Heap → Prop} {d : DefRec} {K : Params → PySem.W.Frag} (cs : List (Addr × Addr)) (hnd : (cs.map (·.2)).Nodup) (hn : l.most = some 63) (hdf : d.params.defaults = [])
    (hY : ∀ (w : World) (h : Heap), YP w h → (K w.params).In h) (hT : ∀ (w : World) (h : Heap), YP w h → ∀ p ∈ cs, h.get? p.2 = some { cls := .none, data := .fields #[] }) (nT : ∀ w : World, ∀ p ∈ cs, (K w.params).lookup p.2 = none) (cT : ∀ w : World, ∀ p ∈ cs, PySem.W.codeHdIn (K w.params) p.1 p.2 = true)
    (F : ∀ (w : World) (mg : Str → Option Value) (fa : Addr) (h : Heap), (K w.params).In h → h.Ns mainGlobals mg → mg d.name = some (.ref fa) →
      ∃ fd : FuncData, (∀ (s : Shared) (u : Value), BindsTo s fd ⟨[u], []⟩ [("script", u)]) ∧ ∀ base : Heap, (K w.params).In base → base.Ns mainGlobals mg → (∀ p ∈ cs, LamX.TabB base mg p.1 p.2) → FnOk l.prog w (K w.params) mg base CX0 27 fa fd ["script"] (ySpLawT (K w.params) (cs.map (·.2)))) :
    PySem.W.WalkO q loose XP YP l.row.toRowW d [] (fun f vs => PySem.call f vs) := by
  refine LamX.walk_ofTs (n := 63) (k := 27) (x := "script") (CX := fun _ => CX0) hn (by decide) hdf ⟨rfl, by decide, by decide⟩ hY (fun w mg fa h Y KX G hm => ?_) fun _ _ _ _ _ z => z
  obtain ⟨fd, hb, hF⟩ := F w mg fa h KX G hm
  exact ⟨fd, cs, ySpLawT (K w.params) (cs.map (·.2)), hT w h Y, nT w, fun p hp => PySem.W.codeHd_of_K KX (cT w p hp), hb, fun H a ns hl _ hH hS => ⟨hnd, fun P hP => by obtain ⟨p, hp, e⟩ := List.mem_map.mp hP; rw [← e]; exact hH p hp, a, ns, rfl, hS, hl, fun _ => rfl⟩, hF⟩
end Z
open PySem PySem.W PyProof.Rows
set_option maxRecDepth 100000 in
set_option maxHeartbeats 0 in
theorem PySem.Challenge.cw_timeshelf_k32_what_needs_all_holds : PySem.Challenge.rw_timeshelf_k32_what_needs_all.Holds := by
  w_on; o_law; k_head; (case hw => w_witness2)
  k_fill
  refine Z.walk (l := PySem.Challenge.rw_timeshelf_k32_what_needs_all) [(27, 23), (34, 30), (41, 37)] (by decide) rfl rfl (fun w h Y => PySem.W.km_in_of Y) (fun w h Y p hp => PySem.W.km_tabs_of Y _ (List.mem_map_of_mem (f := Prod.snd) hp)) (fun w => (Z.fa_cons ?nT0 (Z.fa_cons ?nT1 (Z.fa_cons ?nT2 Z.fa_nil)))) (fun w => (Z.fa_cons ?cT0 (Z.fa_cons ?cT1 (Z.fa_cons ?cT2 Z.fa_nil)))) ?F
  (case nT0 => first | k_is | rfl | kernel_rfl)
  (case nT1 => first | k_is | rfl | kernel_rfl)
  (case nT2 => first | k_is | rfl | kernel_rfl)
  (case cT0 => first | k_is | rfl | kernel_rfl)
  (case cT1 => first | k_is | rfl | kernel_rfl)
  (case cT2 => first | k_is | rfl | kernel_rfl)
  case F =>
    intro w mg fa h KX G hmg
    refine' Z.all_mk (cG0 := 27) (pG0 := 23) (cG1 := 34) (pG1 := 30) (cG2 := 41) (pG2 := 37) KX G hmg ?a0 ?l0 ?c0 ?k0 ?a1 ?l1 ?c1 ?k1 ?a2 ?l2 ?c2 ?k2 ?a3 ?l3 ?c3 ?k3 ?a4 ?l4 ?c4 ?k4 ?a5 ?l5 ?c5 ?k5 ?a6 ?l6 ?c6 ?k6 ?a7 ?l7 ?c7 ?k7 ?a8 ?l8 ?c8 ?k8 ?a9 ?l9 ?c9 ?k9 ?a10 ?l10 ?c10 ?k10 ?a11 ?l11 ?c11 ?k11 ?a12 ?l12 ?c12 ?k12 ?a13 ?l13 ?c13 ?k13 ?a14 ?l14 ?c14 ?k14 ?z0 ?z1 ?z2 ?z3 ?z4 ?z5 ?z6 ?hG0 ?hG1 ?hG2
    (case a0 => first | k_is | rfl | decide +kernel)
    (case l0 => first | k_is | rfl | decide +kernel)
    (case c0 => first | k_is | rfl | decide +kernel)
    (case k0 => first | k_is | rfl | decide +kernel)
    (case a1 => first | k_is | rfl | decide +kernel)
    (case l1 => first | k_is | rfl | decide +kernel)
    (case c1 => first | k_is | rfl | decide +kernel)
    (case k1 => first | k_is | rfl | decide +kernel)
    (case a2 => first | k_is | rfl | decide +kernel)
    (case l2 => first | k_is | rfl | decide +kernel)
    (case c2 => first | k_is | rfl | decide +kernel)
    (case k2 => first | k_is | rfl | decide +kernel)
    (case a3 => first | k_is | rfl | decide +kernel)
    (case l3 => first | k_is | rfl | decide +kernel)
    (case c3 => first | k_is | rfl | decide +kernel)
    (case k3 => first | k_is | rfl | decide +kernel)
    (case a4 => first | k_is | rfl | decide +kernel)
    (case l4 => first | k_is | rfl | decide +kernel)
    (case c4 => first | k_is | rfl | decide +kernel)
    (case k4 => first | k_is | rfl | decide +kernel)
    (case a5 => first | k_is | rfl | decide +kernel)
    (case l5 => first | k_is | rfl | decide +kernel)
    (case c5 => first | k_is | rfl | decide +kernel)
    (case k5 => first | k_is | rfl | decide +kernel)
    (case a6 => first | k_is | rfl | decide +kernel)
    (case l6 => first | k_is | rfl | decide +kernel)
    (case c6 => first | k_is | rfl | decide +kernel)
    (case k6 => first | k_is | rfl | decide +kernel)
    (case a7 => first | k_is | rfl | decide +kernel)
    (case l7 => first | k_is | rfl | decide +kernel)
    (case c7 => first | k_is | rfl | decide +kernel)
    (case k7 => first | k_is | rfl | decide +kernel)
    (case a8 => first | k_is | rfl | decide +kernel)
    (case l8 => first | k_is | rfl | decide +kernel)
    (case c8 => first | k_is | rfl | decide +kernel)
    (case k8 => first | k_is | rfl | decide +kernel)
    (case a9 => first | k_is | rfl | decide +kernel)
    (case l9 => first | k_is | rfl | decide +kernel)
    (case c9 => first | k_is | rfl | decide +kernel)
    (case k9 => first | k_is | rfl | decide +kernel)
    (case a10 => first | k_is | rfl | decide +kernel)
    (case l10 => first | k_is | rfl | decide +kernel)
    (case c10 => first | k_is | rfl | decide +kernel)
    (case k10 => first | k_is | rfl | decide +kernel)
    (case a11 => first | k_is | rfl | decide +kernel)
    (case l11 => first | k_is | rfl | decide +kernel)
    (case c11 => first | k_is | rfl | decide +kernel)
    (case k11 => first | k_is | rfl | decide +kernel)
    (case a12 => first | k_is | rfl | decide +kernel)
    (case l12 => first | k_is | rfl | decide +kernel)
    (case c12 => first | k_is | rfl | decide +kernel)
    (case k12 => first | k_is | rfl | decide +kernel)
    (case a13 => first | k_is | rfl | decide +kernel)
    (case l13 => first | k_is | rfl | decide +kernel)
    (case c13 => first | k_is | rfl | decide +kernel)
    (case k13 => first | k_is | rfl | decide +kernel)
    (case a14 => first | k_is | rfl | decide +kernel)
    (case l14 => first | k_is | rfl | decide +kernel)
    (case c14 => first | k_is | rfl | decide +kernel)
    (case k14 => first | k_is | rfl | decide +kernel)
    (case z0 => first | k_is | rfl | decide +kernel)
    (case z1 => first | k_is | rfl | decide +kernel)
    (case z2 => first | k_is | rfl | decide +kernel)
    (case z3 => first | k_is | rfl | decide +kernel)
    (case z4 => first | k_is | rfl | decide +kernel)
    (case z5 => first | k_is | rfl | decide +kernel)
    (case z6 => first | k_is | rfl | decide +kernel)
    (case hG0 => first | rfl | k_is)
    (case hG1 => first | rfl | k_is)
    (case hG2 => first | rfl | k_is)
