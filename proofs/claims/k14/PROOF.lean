import PyProof.Rows.All
import Wide.All
import OpenK.AllK
import Wide.FinOn
import HandS.ForMost
import HandS.IsInst
import HandS.TupAny
import HandS.Comp
import HandS.Iter
import HandS.Walk
import KE.SortData
import HandS.AnyAll
import HandS.GenList
import HandS.EndTab
import HandS.Nested
import HandS.Lambda
import KE.KNestM
import HandS.TupMul
import HandS.SetKeys
import HandS.TupSets
import HandS.Deep
import KE.GoesEnum
import HandS.DictComp
import HandS.Zip
import KE.KDictZip
import HandS.DictTup
import HandS.Conv
import KE.KDictSum
import HandS.SetBool
import HandS.ExcInit
import HandS.ExcField
import HandS.ExcOwn
import HandS.ForExc
import HandS.ExcIs
import KE.KExcIs
import HandS.HotCalls
import HandS.ExcInitHot
import HandS.ExcCtx
import KE.KeyNested
import HandS.Set
import HandS.SetFor
import HandS.DeepEq
import HandS.Text
import HandS.Iter
import HandS.TupAny
import HandS.SortKw
import KE.DatumOrd
import KE.SortKeyHeap
import KE.KDictCopyH
import KE.KRevSl
import KE.DataFind
import KE.KEqDict
import PySem.Challenge.RW_timeshelf_k14_candidates
set_option Elab.async false
set_option linter.all false
set_option maxRecDepth 100000
set_option maxHeartbeats 2000000
local macro_rules
  | `(tactic| o_head (kHook $k9 $a9 $e9)) => `(tactic| o_head (PySem.W.kmHook $k9 $a9 $e9 [54, 35]))
namespace Z
open PySem L2
def top (i : Nat) : Stmt := PySem.Challenge.pw_timeshelf_k14_candidates.main.body.getD i (.Pass ⟨0, 0, 0, 0⟩)
abbrev s_patterns_of : Stmt := top 3
abbrev N_patterns_of : List Str := ["question", "part", "row", "pattern", "rows"]
theorem sc_patterns_of : FnScope ["question", "part", "row", "pattern", "rows"] ["question"] (defScope s_patterns_of) := ⟨rfl, rfl, rfl, by decide +kernel, rfl, by decide +kernel, by decide +kernel⟩
abbrev s_questions_in : Stmt := top 4
abbrev N_questions_in : List Str := ["question", "found", "waiting", "part"]
theorem sc_questions_in : FnScope ["question", "found", "waiting", "part"] ["question"] (defScope s_questions_in) := ⟨rfl, rfl, rfl, by decide +kernel, rfl, by decide +kernel, by decide +kernel⟩
abbrev s_parts_of : Stmt := top 5
abbrev N_parts_of : List Str := ["question"]
theorem sc_parts_of : FnScope ["question"] ["question"] (defScope s_parts_of) := ⟨rfl, rfl, rfl, by decide +kernel, rfl, by decide +kernel, by decide +kernel⟩
abbrev s_is_simple : Stmt := top 7
abbrev N_is_simple : List Str := ["question", "part"]
theorem sc_is_simple : FnScope ["question", "part"] ["question"] (defScope s_is_simple) := ⟨rfl, rfl, rfl, by decide +kernel, rfl, by decide +kernel, by decide +kernel⟩
abbrev s_candidates : Stmt := top 8
abbrev N_candidates : List Str := ["one", "other", "_", "word", "words", "found"]
theorem sc_candidates : FnScope ["one", "other", "_", "word", "words", "found"] ["one", "other"] (defScope s_candidates) := ⟨rfl, rfl, rfl, by decide +kernel, rfl, by decide +kernel, by decide +kernel⟩
abbrev s_difference : Stmt := top 9
abbrev N_difference : List Str := ["one", "other"]
theorem sc_difference : FnScope ["one", "other"] ["one", "other"] (defScope s_difference) := ⟨rfl, rfl, rfl, by decide +kernel, rfl, by decide +kernel, by decide +kernel⟩
abbrev s_free_word : Stmt := top 10
abbrev N_free_word : List Str := ["word", "words", "told", "letter", "longer"]
theorem sc_free_word : FnScope ["word", "words", "told", "letter", "longer"] ["word", "words"] (defScope s_free_word) := ⟨rfl, rfl, rfl, by decide +kernel, rfl, by decide +kernel, by decide +kernel⟩
abbrev s__law_cell : Stmt := top 12
abbrev N__law_cell : List Str := ["script", "k"]
theorem sc__law_cell : FnScope ["script", "k"] ["script", "k"] (defScope s__law_cell) := ⟨rfl, rfl, rfl, by decide +kernel, rfl, by decide +kernel, by decide +kernel⟩
abbrev s__law_digits : Stmt := top 13
abbrev N__law_digits : List Str := ["script", "first", "last", "digits", "k", "cell", "turn", "seed"]
theorem sc__law_digits : FnScope ["script", "first", "last", "digits", "k", "cell", "turn", "seed"] ["script", "first", "last"] (defScope s__law_digits) := ⟨rfl, rfl, rfl, by decide +kernel, rfl, by decide +kernel, by decide +kernel⟩
abbrev s__law_draw : Stmt := top 14
abbrev N__law_draw : List Str := ["box", "many", "at"]
theorem sc__law_draw : FnScope ["box", "many", "at"] ["box", "many"] (defScope s__law_draw) := ⟨rfl, rfl, rfl, by decide +kernel, rfl, by decide +kernel, by decide +kernel⟩
abbrev s__law_same : Stmt := top 15
abbrev N__law_same : List Str := ["actual", "due", "k"]
theorem sc__law_same : FnScope ["actual", "due", "k"] ["actual", "due"] (defScope s__law_same) := ⟨rfl, rfl, rfl, by decide +kernel, rfl, by decide +kernel, by decide +kernel⟩
abbrev s__law_word : Stmt := top 16
abbrev N__law_word : List Str := ["box", "kind", "word", "k"]
theorem sc__law_word : FnScope ["box", "kind", "word", "k"] ["box"] (defScope s__law_word) := ⟨rfl, rfl, rfl, by decide +kernel, rfl, by decide +kernel, by decide +kernel⟩
abbrev s__law_pattern : Stmt := top 17
abbrev N__law_pattern : List Str := ["box"]
theorem sc__law_pattern : FnScope ["box"] ["box"] (defScope s__law_pattern) := ⟨rfl, rfl, rfl, by decide +kernel, rfl, by decide +kernel, by decide +kernel⟩
abbrev s__law_question : Stmt := top 18
abbrev N__law_question : List Str := ["box", "depth", "simple", "k", "kind", "many", "gap", "parts"]
theorem sc__law_question : FnScope ["box", "depth", "simple", "k", "kind", "many", "gap", "parts"] ["box", "depth", "simple"] (defScope s__law_question) := ⟨rfl, rfl, rfl, by decide +kernel, rfl, by decide +kernel, by decide +kernel⟩
abbrev s__law_fits : Stmt := top 19
abbrev N__law_fits : List Str := ["word", "pattern"]
theorem sc__law_fits : FnScope ["word", "pattern"] ["word", "pattern"] (defScope s__law_fits) := ⟨rfl, rfl, rfl, by decide +kernel, rfl, by decide +kernel, by decide +kernel⟩
abbrev s__law_patterns : Stmt := top 20
abbrev N__law_patterns : List Str := ["question", "found", "part"]
theorem sc__law_patterns : FnScope ["question", "found", "part"] ["question"] (defScope s__law_patterns) := ⟨rfl, rfl, rfl, by decide +kernel, rfl, by decide +kernel, by decide +kernel⟩
abbrev s__law_is_new : Stmt := top 21
abbrev N__law_is_new : List Str := ["word", "patterns", "pattern"]
theorem sc__law_is_new : FnScope ["word", "patterns", "pattern"] ["word", "patterns"] (defScope s__law_is_new) := ⟨rfl, rfl, rfl, by decide +kernel, rfl, by decide +kernel, by decide +kernel⟩
abbrev s__law_candidates : Stmt := top 22
abbrev N__law_candidates : List Str := ["one", "other", "pattern", "chars", "patterns", "found", "char", "fitting", "words", "word"]
theorem sc__law_candidates : FnScope ["one", "other", "pattern", "chars", "patterns", "found", "char", "fitting", "words", "word"] ["one", "other"] (defScope s__law_candidates) := ⟨rfl, rfl, rfl, by decide +kernel, rfl, by decide +kernel, by decide +kernel⟩
abbrev s__law_simple : Stmt := top 23
abbrev N__law_simple : List Str := ["question", "part"]
theorem sc__law_simple : FnScope ["question", "part"] ["question"] (defScope s__law_simple) := ⟨rfl, rfl, rfl, by decide +kernel, rfl, by decide +kernel, by decide +kernel⟩
abbrev s_law : Stmt := top 24
abbrev N_law : List Str := ["script", "box", "one", "other", "any_one"]
theorem sc_law : FnScope ["script", "box", "one", "other", "any_one"] ["script"] (defScope s_law) := ⟨rfl, rfl, rfl, by decide +kernel, rfl, by decide +kernel, by decide +kernel⟩
structure IsxC (K : PySem.W.Frag) (C : Addr) : Prop where
  ha : PySem.W.findIn K (.ref C) "__class__" = some (some (.builtin "object.__class__"))
  hn : PySem.W.specialIn K (.builtin "object.__class__") "__get__" = some (some (.builtin "getset_descriptor.__get__"))
  ht : PySem.W.takesIn K (.builtin "object.__class__") = some true
  hm : PySem.W.mroIn K C (.type "object") = some true
  hc : (PySem.W.clsIn K C).isSome = true
structure Txt (K : PySem.W.Frag) (mg : Str → Option Value) (A : Nat → Addr) (D : Nat → FuncData) : Prop where
  F_patterns_of : Fun K "patterns_of" "patterns_of" s_patterns_of (A 0) (D 0)
  b_patterns_of : Binds K (D 0) ["question"] []
  m_patterns_of : mg "patterns_of" = some (.ref (A 0))
  F_questions_in : Fun K "questions_in" "questions_in" s_questions_in (A 1) (D 1)
  b_questions_in : Binds K (D 1) ["question"] []
  m_questions_in : mg "questions_in" = some (.ref (A 1))
  F_parts_of : Fun K "parts_of" "parts_of" s_parts_of (A 2) (D 2)
  b_parts_of : Binds K (D 2) ["question"] []
  m_parts_of : mg "parts_of" = some (.ref (A 2))
  F_is_simple : Fun K "is_simple" "is_simple" s_is_simple (A 3) (D 3)
  b_is_simple : Binds K (D 3) ["question"] []
  m_is_simple : mg "is_simple" = some (.ref (A 3))
  F_candidates : Fun K "candidates" "candidates" s_candidates (A 4) (D 4)
  b_candidates : Binds K (D 4) ["one", "other"] []
  m_candidates : mg "candidates" = some (.ref (A 4))
  F_difference : Fun K "difference" "difference" s_difference (A 5) (D 5)
  b_difference : Binds K (D 5) ["one", "other"] []
  m_difference : mg "difference" = some (.ref (A 5))
  F_free_word : Fun K "free_word" "free_word" s_free_word (A 6) (D 6)
  b_free_word : Binds K (D 6) ["word", "words"] []
  m_free_word : mg "free_word" = some (.ref (A 6))
  F__law_cell : Fun K "_law_cell" "_law_cell" s__law_cell (A 7) (D 7)
  b__law_cell : Binds K (D 7) ["script", "k"] []
  m__law_cell : mg "_law_cell" = some (.ref (A 7))
  F__law_digits : Fun K "_law_digits" "_law_digits" s__law_digits (A 8) (D 8)
  b__law_digits : Binds K (D 8) ["script", "first", "last"] []
  m__law_digits : mg "_law_digits" = some (.ref (A 8))
  F__law_draw : Fun K "_law_draw" "_law_draw" s__law_draw (A 9) (D 9)
  b__law_draw : Binds K (D 9) ["box", "many"] []
  m__law_draw : mg "_law_draw" = some (.ref (A 9))
  F__law_same : Fun K "_law_same" "_law_same" s__law_same (A 10) (D 10)
  b__law_same : Binds K (D 10) ["actual", "due"] []
  m__law_same : mg "_law_same" = some (.ref (A 10))
  F__law_word : Fun K "_law_word" "_law_word" s__law_word (A 11) (D 11)
  b__law_word : Binds K (D 11) ["box"] []
  m__law_word : mg "_law_word" = some (.ref (A 11))
  F__law_pattern : Fun K "_law_pattern" "_law_pattern" s__law_pattern (A 12) (D 12)
  b__law_pattern : Binds K (D 12) ["box"] []
  m__law_pattern : mg "_law_pattern" = some (.ref (A 12))
  F__law_question : Fun K "_law_question" "_law_question" s__law_question (A 13) (D 13)
  b__law_question : Binds K (D 13) ["box", "depth", "simple"] []
  m__law_question : mg "_law_question" = some (.ref (A 13))
  F__law_fits : Fun K "_law_fits" "_law_fits" s__law_fits (A 14) (D 14)
  b__law_fits : Binds K (D 14) ["word", "pattern"] []
  m__law_fits : mg "_law_fits" = some (.ref (A 14))
  F__law_patterns : Fun K "_law_patterns" "_law_patterns" s__law_patterns (A 15) (D 15)
  b__law_patterns : Binds K (D 15) ["question"] []
  m__law_patterns : mg "_law_patterns" = some (.ref (A 15))
  F__law_is_new : Fun K "_law_is_new" "_law_is_new" s__law_is_new (A 16) (D 16)
  b__law_is_new : Binds K (D 16) ["word", "patterns"] []
  m__law_is_new : mg "_law_is_new" = some (.ref (A 16))
  F__law_candidates : Fun K "_law_candidates" "_law_candidates" s__law_candidates (A 17) (D 17)
  b__law_candidates : Binds K (D 17) ["one", "other"] []
  m__law_candidates : mg "_law_candidates" = some (.ref (A 17))
  F__law_simple : Fun K "_law_simple" "_law_simple" s__law_simple (A 18) (D 18)
  b__law_simple : Binds K (D 18) ["question"] []
  m__law_simple : mg "_law_simple" = some (.ref (A 18))
  F_law : Fun K "law" "law" s_law (A 19) (D 19)
  b_law : Binds K (D 19) ["script"] []
  m_law : mg "law" = some (.ref (A 19))
  c_SMALL : ∃ t, mg "SMALL" = some (.str "0123456789abcdefghijklmnopqrstuvwxyz" t)
  c_LONGEST : ∃ t, mg "LONGEST" = some (.int 12 t)
  z_all : mg "all" = none
  z_any : mg "any" = none
  z_bool : mg "bool" = none
  z_int : mg "int" = none
  z_isinstance : mg "isinstance" = none
  z_len : mg "len" = none
  z_list : mg "list" = none
  z_range : mg "range" = none
  z_set : mg "set" = none
  z_sorted : mg "sorted" = none
  z_str : mg "str" = none
  z_tuple : mg "tuple" = none
/-! ### a layer of states: views of the heap, slots with data, owned things -/
namespace Y
open PySem L2
def keyD : Key → PyData
  | .inl i => .int i
  | .inr z => .str z
mutual
/-- immutable or shared data in a view of the heap: lists and dicts there are tracked -/
inductive Dq (K : PySem.W.Frag) (M : Hp) : V → PyData → Prop
  | non : Dq K M .non .none
  | bl (b : Bool) : Dq K M (.bl b) (.bool b)
  | int (i : Int) : Dq K M (.int i) (.int i)
  | str (x : Str) : Dq K M (.str x) (.str x)
  | lst {a : Addr} {xs : List V} {ds : List PyData} : M a = some (.lst xs) → DqAll K M xs ds → Dq K M (.ref a) (.list ds)
  | tup {a : Addr} {xs : List V} {ds : List PyData} : SqT K M a xs → DqAll K M xs ds → Dq K M (.ref a) (.tuple ds)
  | dct {a : Addr} {kvs : List (Key × V)} {ds : List (PyData × PyData)} : M a = some (.dK kvs) → DqKV K M kvs ds → Dq K M (.ref a) (.dict ds)
inductive DqAll (K : PySem.W.Frag) (M : Hp) : List V → List PyData → Prop
  | nil : DqAll K M [] []
  | cons {v : V} {vs : List V} {d : PyData} {ds : List PyData} : Dq K M v d → DqAll K M vs ds → DqAll K M (v :: vs) (d :: ds)
inductive DqKV (K : PySem.W.Frag) (M : Hp) : List (Key × V) → List (PyData × PyData) → Prop
  | nil : DqKV K M [] []
  | cons {k : Key} {v : V} {d : PyData} {kvs : List (Key × V)} {ds : List (PyData × PyData)} : Dq K M v d → DqKV K M kvs ds → DqKV K M ((k, v) :: kvs) ((keyD k, d) :: ds)
end
theorem Same.sqT {K : PySem.W.Frag} {H H' : Hp} (k : Same H H') {a : Addr} {xs : List V} (h : SqT K H a xs) : SqT K H' a xs := by
  rcases h with (h | ⟨o, h⟩) | h
  · exact .inl (.inl (k _ _ h))
  · exact .inl (.inr ⟨o, k _ _ h⟩)
  · exact .inr h
theorem Same.sqL {K : PySem.W.Frag} {H H' : Hp} (k : Same H H') {a : Addr} {xs : List V} (h : SqL K H a xs) : SqL K H' a xs := by
  rcases h with (h | ⟨o, h⟩) | h
  · exact .inl (.inl (k _ _ h))
  · exact .inl (.inr ⟨o, k _ _ h⟩)
  · exact .inr h
section
variable {K : PySem.W.Frag} {H H' M M' : Hp}
mutual
theorem Dq.same (k : Same M M') : ∀ {v : V} {d : PyData}, Dq K M v d → Dq K M' v d
  | _, _, .non => .non
  | _, _, .bl b => .bl b
  | _, _, .int i => .int i
  | _, _, .str x => .str x
  | _, _, .lst h a => .lst (k _ _ h) (DqAll.same k a)
  | _, _, .tup h a => .tup (Same.sqT k h) (DqAll.same k a)
  | _, _, .dct h a => .dct (k _ _ h) (DqKV.same k a)
theorem DqAll.same (k : Same M M') : ∀ {vs : List V} {ds : List PyData}, DqAll K M vs ds → DqAll K M' vs ds
  | _, _, .nil => .nil
  | _, _, .cons a b => .cons (Dq.same k a) (DqAll.same k b)
theorem DqKV.same (k : Same M M') : ∀ {vs : List (Key × V)} {ds : List (PyData × PyData)}, DqKV K M vs ds → DqKV K M' vs ds
  | _, _, .nil => .nil
  | _, _, .cons a b => .cons (Dq.same k a) (DqKV.same k b)
end
mutual
theorem Dq.dp : ∀ {v : V} {d : PyData}, Dq K M v d → d.canLay0 = true → Dp K M v d
  | _, _, .non, _ => .non
  | _, _, .bl b, _ => .bl b
  | _, _, .int i, _ => .int i
  | _, _, .str x, _ => .str x
  | _, _, .lst h a, c => .lst (SqL.of h) (DqAll.dp a (by rw [PyData.canLay0] at c; exact c))
  | _, _, .tup h a, c => .tup h (DqAll.dp a (by rw [PyData.canLay0] at c; exact c))
  | _, _, .dct h a, c => by simp [PyData.canLay0] at c
theorem DqAll.dp : ∀ {vs : List V} {ds : List PyData}, DqAll K M vs ds → PyData.canLayAll0 ds = true → DpAll K M vs ds
  | _, _, .nil, _ => .nil
  | _, _, .cons a b, c => by
    rw [PyData.canLayAll0, Bool.and_eq_true] at c
    exact .cons (Dq.dp a c.1) (DqAll.dp b c.2)
end
theorem DqAll.len : ∀ {vs : List V} {ds : List PyData}, DqAll K M vs ds → vs.length = ds.length
  | _, _, .nil => rfl
  | _, _, .cons a b => by rw [List.length_cons, List.length_cons, DqAll.len b]
theorem DqAll.get : ∀ {vs : List V} {ds : List PyData}, DqAll K M vs ds → ∀ {i : Nat} {d : PyData}, ds[i]? = some d → ∃ v, vs[i]? = some v ∧ Dq K M v d
  | _, _, .nil, i, d, h => by simp at h
  | _, _, .cons a b, 0, d, h => by
    have e := Option.some.inj h
    subst e
    exact ⟨_, rfl, a⟩
  | _, _, .cons a b, i + 1, d, h => DqAll.get b (i := i) (by simpa using h)
theorem DqAll.getV : ∀ {vs : List V} {ds : List PyData}, DqAll K M vs ds → ∀ {i : Nat} {v : V}, vs[i]? = some v → ∃ d, ds[i]? = some d ∧ Dq K M v d
  | _, _, .nil, i, d, h => by simp at h
  | _, _, .cons a b, 0, d, h => by
    have e := Option.some.inj h
    subst e
    exact ⟨_, rfl, a⟩
  | _, _, .cons a b, i + 1, d, h => DqAll.getV b (i := i) (by simpa using h)
theorem DqAll.app : ∀ {vs ws : List V} {ds es : List PyData}, DqAll K M vs ds → DqAll K M ws es → DqAll K M (vs ++ ws) (ds ++ es)
  | _, _, _, _, .nil, h => h
  | _, _, _, _, .cons a b, h => .cons a (DqAll.app b h)
theorem DqAll.drop : ∀ {vs : List V} {ds : List PyData} (n : Nat), DqAll K M vs ds → DqAll K M (vs.drop n) (ds.drop n)
  | _, _, 0, h => h
  | _, _, _ + 1, .nil => .nil
  | _, _, n + 1, .cons _ h => DqAll.drop n h
theorem DqAll.take : ∀ {vs : List V} {ds : List PyData} (n : Nat), DqAll K M vs ds → DqAll K M (vs.take n) (ds.take n)
  | _, _, 0, _ => .nil
  | _, _, _ + 1, .nil => .nil
  | _, _, n + 1, .cons a h => .cons a (DqAll.take n h)
end
/-- what a slot holds: nothing that is known, data, a thing of its own with its addresses -/
inductive Sl where
  | unk
  | val (d : PyData)
  | res (P : V → Hp → Hp → List Addr → Prop)
def SlOk (K : PySem.W.Frag) (M H : Hp) : Sl → Option V → List Addr → Prop
  | .unk, _, fp => fp = []
  | .val d, o, fp => fp = [] ∧ ∃ v, o = some v ∧ Dq K M v d
  | .res P, o, fp => ∃ v, o = some v ∧ P v M H fp
inductive SlsOk (K : PySem.W.Frag) (M H : Hp) : List Sl → L2.St → List (List Addr) → Prop
  | nil : SlsOk K M H [] [] []
  | cons {s : Sl} {o : Option V} {fp : List Addr} {env : List Sl} {σ : L2.St} {fps : List (List Addr)} : SlOk K M H s o fp → SlsOk K M H env σ fps → SlsOk K M H (s :: env) (o :: σ) (fp :: fps)
/-- what of a thing's own stands by itself: it is stable while its addresses hold what they held and the view grows -/
def Stab : Sl → Prop
  | .unk => True
  | .val _ => True
  | .res P => ∀ v M H M' H' fp, Same M M' → (∀ a ∈ fp, H' a = H a) → P v M H fp → P v M' H' fp
structure Ok (K : PySem.W.Frag) (H0 M0 : Hp) (env : List Sl) (fps : List (List Addr)) (σ : L2.St) (H M : Hp) : Prop where
  base : Same H0 H
  sub : Same M H
  grow : Same M0 M
  new : ∀ a o, M a = some o → M0 a = some o ∨ H0 a = none
  sls : SlsOk K M H env σ fps
  nd : fps.flatten.Nodup
  own : ∀ a ∈ fps.flatten, H0 a = none ∧ M a = none ∧ H a ≠ none
  stab : ∀ s ∈ env, Stab s
section
variable {K : PySem.W.Frag} {H0 M0 H M H' M' : Hp} {env : List Sl} {fps : List (List Addr)} {σ : L2.St}
theorem SlOk.mono {s : Sl} {o : Option V} {fp : List Addr} (st : Stab s) (k : Same M M') (h : ∀ a ∈ fp, H' a = H a) (x : SlOk K M H s o fp) : SlOk K M' H' s o fp := by
  cases s with
  | unk => exact x
  | val d =>
    obtain ⟨e, v, e2, e3⟩ := x
    exact ⟨e, v, e2, Dq.same k e3⟩
  | res P =>
    obtain ⟨v, e2, e3⟩ := x
    exact ⟨v, e2, st _ _ _ _ _ _ k h e3⟩
theorem SlsOk.mono (k : Same M M') : ∀ {env : List Sl} {σ : L2.St} {fps : List (List Addr)}, (∀ s ∈ env, Stab s) → (∀ a ∈ fps.flatten, H' a = H a) → SlsOk K M H env σ fps → SlsOk K M' H' env σ fps
  | _, _, _, _, _, .nil => .nil
  | _, _, _, st, h, .cons a b => .cons (SlOk.mono (st _ List.mem_cons_self) k (fun x hx => h x (by rw [List.flatten_cons]; exact List.mem_append_left _ hx)) a)
      (SlsOk.mono k (fun s hs => st s (List.mem_cons_of_mem _ hs)) (fun x hx => h x (by rw [List.flatten_cons]; exact List.mem_append_right _ hx)) b)
/-- the heap and the view have grown -/
theorem Ok.grown (k : Ok K H0 M0 env fps σ H M) (h : Same H H') (m : Same M M') (s : Same M' H') (n : ∀ a o, M' a = some o → M a = some o ∨ H a = none) : Ok K H0 M0 env fps σ H' M' where
  base := k.base.trans h
  sub := s
  grow := k.grow.trans m
  new := fun a o e => by
    rcases n a o e with e | e
    · exact k.new a o e
    · refine .inr ?_
      cases c : H0 a with
      | none => rfl
      | some u => rw [k.base a u c] at e; cases e
  sls := SlsOk.mono m k.stab (fun a ha => by
    obtain ⟨_, _, e⟩ := k.own a ha
    cases c : H a with
    | none => exact absurd c e
    | some u => exact h a u c) k.sls
  nd := k.nd
  own := fun a ha => by
    obtain ⟨e1, e2, e3⟩ := k.own a ha
    refine ⟨e1, ?_, fun z => ?_⟩
    · cases c : M' a with
      | none => rfl
      | some u =>
        rcases n a u c with e | e
        · rw [e2] at e; cases e
        · exact absurd e e3
    · cases c : H a with
      | none => exact e3 c
      | some u => rw [h a u c] at z; cases z
  stab := k.stab
/-- a new object -/
theorem Ok.laid {p : Addr} {o : HO} (k : Ok K H0 M0 env fps σ H M) (hp : H p = none) : Ok K H0 M0 env fps σ (upd H p o) (upd M p o) ∧ Same M (upd M p o) := by
  have mp : M p = none := by
    cases c : M p with
    | none => rfl
    | some u => rw [k.sub p u c] at hp; cases hp
  have s1 : Same M (upd M p o) := fun a u e => by
    rw [upd_ne (fun z => by rw [z, mp] at e; cases e)]; exact e
  have s2 : Same H (upd H p o) := fun a u e => by
    rw [upd_ne (fun z => by rw [z, hp] at e; cases e)]; exact e
  refine ⟨k.grown s2 s1 (fun a u e => ?_) (fun a u e => ?_), s1⟩
  · by_cases z : a = p
    · subst z; rw [upd_same] at e ⊢; exact e
    · rw [upd_ne z] at e ⊢; exact k.sub a u e
  · by_cases z : a = p
    · subst z; exact .inr hp
    · rw [upd_ne z] at e; exact .inl e
theorem SlsOk.get : ∀ {env : List Sl} {σ : L2.St} {fps : List (List Addr)} {i : Nat} {d : PyData}, SlsOk K M H env σ fps → env[i]? = some (.val d) → ∃ v, σ[i]? = some (some v) ∧ Dq K M v d
  | _, _, _, 0, _, .cons a _, h => by
    have e := Option.some.inj h
    subst e
    obtain ⟨_, v, e2, e3⟩ := a
    exact ⟨v, by rw [e2]; rfl, e3⟩
  | _, _, _, i + 1, _, .cons _ b, h => SlsOk.get b (i := i) (by simpa using h)
  | _, _, _, i, _, .nil, h => by simp at h
theorem SlsOk.len : ∀ {env : List Sl} {σ : L2.St} {fps : List (List Addr)}, SlsOk K M H env σ fps → env.length = σ.length ∧ fps.length = σ.length
  | _, _, _, .nil => ⟨rfl, rfl⟩
  | _, _, _, .cons _ b => ⟨by rw [List.length_cons, List.length_cons, (SlsOk.len b).1], by rw [List.length_cons, List.length_cons, (SlsOk.len b).2]⟩
/-- a slot is stored anew -/
theorem SlsOk.set {s : Sl} {o : Option V} {fp : List Addr} (x : SlOk K M H s o fp) : ∀ {env : List Sl} {σ : L2.St} {fps : List (List Addr)} (i : Nat), SlsOk K M H env σ fps → SlsOk K M H (env.set i s) (σ.set i o) (fps.set i fp)
  | _, _, _, _, .nil => .nil
  | _, _, _, 0, .cons _ b => .cons x b
  | _, _, _, i + 1, .cons a b => .cons a (SlsOk.set x i b)
theorem flat_set : ∀ {fps : List (List Addr)} {i : Nat} {a : Addr}, a ∈ (fps.set i []).flatten → a ∈ fps.flatten
  | [], _, _, h => h
  | f :: fps, 0, a, h => by
    rw [List.set_cons_zero, List.flatten_cons, List.nil_append] at h
    rw [List.flatten_cons]; exact List.mem_append_right _ h
  | f :: fps, i + 1, a, h => by
    rw [List.set_cons_succ, List.flatten_cons, List.mem_append] at h
    rw [List.flatten_cons, List.mem_append]
    exact h.imp id flat_set
theorem flat_nodup : ∀ {fps : List (List Addr)} {i : Nat}, fps.flatten.Nodup → (fps.set i []).flatten.Nodup
  | [], _, h => h
  | f :: fps, 0, h => by
    rw [List.flatten_cons, List.nodup_append] at h
    rw [List.set_cons_zero, List.flatten_cons, List.nil_append]; exact h.2.1
  | f :: fps, i + 1, h => by
    rw [List.flatten_cons, List.nodup_append] at h
    rw [List.set_cons_succ, List.flatten_cons, List.nodup_append]
    exact ⟨h.1, flat_nodup h.2.1, fun x hx y hy => h.2.2 x hx y (flat_set hy)⟩
theorem stab_set {s : Sl} (hs : Stab s) {i : Nat} (h : ∀ s ∈ env, Stab s) : ∀ t ∈ env.set i s, Stab t := fun t ht => by
  rcases List.mem_or_eq_of_mem_set ht with ht | rfl
  · exact h t ht
  · exact hs
theorem Ok.setV {i : Nat} {v : V} {d : PyData} (k : Ok K H0 M0 env fps σ H M) (h : Dq K M v d) : Ok K H0 M0 (env.set i (.val d)) (fps.set i []) (σ.set i (some v)) H M where
  base := k.base
  sub := k.sub
  grow := k.grow
  new := k.new
  sls := SlsOk.set (s := .val d) (o := some v) (fp := []) ⟨rfl, v, rfl, h⟩ i k.sls
  nd := flat_nodup k.nd
  own := fun a ha => k.own a (flat_set ha)
  stab := stab_set (s := .val d) True.intro k.stab
theorem Ok.setU {i : Nat} {o : Option V} (k : Ok K H0 M0 env fps σ H M) : Ok K H0 M0 (env.set i .unk) (fps.set i []) (σ.set i o) H M where
  base := k.base
  sub := k.sub
  grow := k.grow
  new := k.new
  sls := SlsOk.set (s := .unk) (o := o) (fp := []) rfl i k.sls
  nd := flat_nodup k.nd
  own := fun a ha => k.own a (flat_set ha)
  stab := stab_set (s := .unk) True.intro k.stab
end
end Y

/-! ### expressions, tests, arguments over such states -/
namespace Y
open PySem L2
structure Ext (H M H' M' : Hp) : Prop where
  h : Same H H'
  m : Same M M'
  s : Same M' H'
  n : ∀ a o, M' a = some o → M a = some o ∨ H a = none
theorem Ext.refl {H M : Hp} (s : Same M H) : Ext H M H M := ⟨Same.refl H, Same.refl M, s, fun _ _ e => .inl e⟩
theorem none_of {H H' : Hp} (k : Same H H') {a : Addr} (e : H' a = none) : H a = none := by
  cases c : H a with
  | none => rfl
  | some u => rw [k a u c] at e; cases e
theorem Ext.trans {H M H1 M1 H2 M2 : Hp} (a : Ext H M H1 M1) (b : Ext H1 M1 H2 M2) : Ext H M H2 M2 :=
  ⟨a.h.trans b.h, a.m.trans b.m, b.s, fun x o e => by
    rcases b.n x o e with e | e
    · exact a.n x o e
    · exact .inr (none_of a.h e)⟩
theorem Ext.laid {H M : Hp} (s : Same M H) {p : Addr} {o : HO} (hp : H p = none) : Ext H M (upd H p o) (upd M p o) := by
  have mp := none_of s hp
  refine ⟨fun a u e => ?_, fun a u e => ?_, fun a u e => ?_, fun a u e => ?_⟩
  · rw [upd_ne (fun z => by rw [z, hp] at e; cases e)]; exact e
  · rw [upd_ne (fun z => by rw [z, mp] at e; cases e)]; exact e
  · by_cases z : a = p
    · subst z; rw [upd_same] at e ⊢; exact e
    · rw [upd_ne z] at e ⊢; exact s a u e
  · by_cases z : a = p
    · subst z; exact .inr hp
    · rw [upd_ne z] at e; exact .inl e
section
variable {K : PySem.W.Frag} {H0 M0 H M H' M' : Hp} {env : List Sl} {fps : List (List Addr)} {σ : L2.St}
theorem Ok.ext (k : Ok K H0 M0 env fps σ H M) (e : Ext H M H' M') : Ok K H0 M0 env fps σ H' M' := k.grown e.h e.m e.s e.n
theorem Ok.out (k : Ok K H0 M0 env fps σ H M) : Ext H0 M0 H M := ⟨k.base, k.grow, k.sub, k.new⟩
end
def Pe (K : PySem.W.Frag) (t : TE) (env : List Sl) (d : PyData) : Prop := ∀ (H0 M0 H M : Hp) (fps : List (List Addr)) (σ : L2.St) (Q : VK), Ok K H0 M0 env fps σ H M →
  (∀ v H' M', Ext H M H' M' → Dq K M' v d → Q v H') → t σ H Q
def Pt (K : PySem.W.Frag) (t : TT) (env : List Sl) (b : Bool) : Prop := ∀ (H0 M0 H M : Hp) (fps : List (List Addr)) (σ : L2.St) (Q : Bool → Hp → Prop), Ok K H0 M0 env fps σ H M →
  (∀ H' M', Ext H M H' M' → Q b H') → t σ H Q
def Pa (K : PySem.W.Frag) (t : TA) (env : List Sl) (ds : List PyData) : Prop := ∀ (H0 M0 H M : Hp) (fps : List (List Addr)) (σ : L2.St) (Q : List V → Hp → Prop), Ok K H0 M0 env fps σ H M →
  (∀ vs H' M', Ext H M H' M' → DqAll K M' vs ds → Q vs H') → t σ H Q
/-- by values -/
def Po (K : PySem.W.Frag) (r : R2) (d e c : PyData) : Prop := ∀ (H M : Hp) (x y : V) (Q : VK), Same M H → Dq K M x d → Dq K M y e → (∀ v H' M', Ext H M H' M' → Dq K M' v c → Q v H') → r x y H Q
def Pc (K : PySem.W.Frag) (r : List V → Hp → VK → Prop) (ds : List PyData) (c : PyData) : Prop := ∀ (H M : Hp) (vs : List V) (Q : VK), Same M H → DqAll K M vs ds → (∀ v H' M', Ext H M H' M' → Dq K M' v c → Q v H') → r vs H Q
def Pm (K : PySem.W.Frag) (r : V → List V → Hp → VK → Prop) (d : PyData) (ds : List PyData) (c : PyData) : Prop := ∀ (H M : Hp) (x : V) (vs : List V) (Q : VK), Same M H → Dq K M x d → DqAll K M vs ds → (∀ v H' M', Ext H M H' M' → Dq K M' v c → Q v H') → r x vs H Q
def Pu (K : PySem.W.Frag) (r : V → Hp → VK → Prop) (d c : PyData) : Prop := ∀ (H M : Hp) (x : V) (Q : VK), Same M H → Dq K M x d → (∀ v H' M', Ext H M H' M' → Dq K M' v c → Q v H') → r x H Q
/-- a def's promise: told data to told data -/
def PF (K : PySem.W.Frag) (R : List PyData → PyData → Prop) : Sp := fun vs H Q _ => ∃ M ds d, Same M H ∧ DqAll K M vs ds ∧ R ds d ∧ ∀ v H' M', Ext H M H' M' → Dq K M' v d → Q v H'
section
variable {K : PySem.W.Frag} {env : List Sl}
theorem e_var {i : Nat} {d : PyData} (h : env[i]? = some (.val d)) : Pe K (tVar i) env d := fun H0 M0 H M fps σ Q k q => by
  obtain ⟨v, e1, e2⟩ := k.sls.get h
  exact ⟨v, e1, q v H M (Ext.refl k.sub) e2⟩
theorem e_int {i : Int} : Pe K (tC (.int i)) env (.int i) := fun H0 M0 H M fps σ Q k q => q _ H M (Ext.refl k.sub) (.int i)
theorem e_str {i : Str} : Pe K (tC (.str i)) env (.str i) := fun H0 M0 H M fps σ Q k q => q _ H M (Ext.refl k.sub) (.str i)
theorem e_bl {i : Bool} : Pe K (tC (.bl i)) env (.bool i) := fun H0 M0 H M fps σ Q k q => q _ H M (Ext.refl k.sub) (.bl i)
theorem e_non : Pe K (tC .non) env .none := fun H0 M0 H M fps σ Q k q => q _ H M (Ext.refl k.sub) .non
theorem e_as {t : TE} {d d' : PyData} (h : Pe K t env d) (e : d = d') : Pe K t env d' := by rw [← e]; exact h
theorem t_as {t : TT} {b b' : Bool} (h : Pt K t env b) (e : b = b') : Pt K t env b' := by rw [← e]; exact h
theorem e_op {r : R2} {ta tb : TE} {d e c : PyData} (ha : Pe K ta env d) (hb : Pe K tb env e) (hr : Po K r d e c) : Pe K (tOp r ta tb) env c := fun H0 M0 H M fps σ Q k q =>
  ha H0 M0 H M fps σ _ k fun x H1 M1 x1 dx => hb H0 M0 H1 M1 fps σ _ (k.ext x1) fun y H2 M2 x2 dy => hr H2 M2 x y Q x2.s (Dq.same x2.m dx) dy fun v H3 M3 x3 dv => q v H3 M3 ((x1.trans x2).trans x3) dv
theorem e_un {r : V → Hp → VK → Prop} {ta : TE} {d c : PyData} (ha : Pe K ta env d) (hr : Pu K r d c) : Pe K (tUn r ta) env c := fun H0 M0 H M fps σ Q k q =>
  ha H0 M0 H M fps σ _ k fun x H1 M1 x1 dx => hr H1 M1 x Q x1.s dx fun v H3 M3 x3 dv => q v H3 M3 (x1.trans x3) dv
theorem a_nil : Pa K tNil env [] := fun H0 M0 H M fps σ Q k q => q [] H M (Ext.refl k.sub) .nil
theorem a_cons {ta : TE} {tr : TA} {d : PyData} {ds : List PyData} (ha : Pe K ta env d) (hb : Pa K tr env ds) : Pa K (tCons ta tr) env (d :: ds) := fun H0 M0 H M fps σ Q k q =>
  ha H0 M0 H M fps σ _ k fun x H1 M1 x1 dx => hb H0 M0 H1 M1 fps σ _ (k.ext x1) fun xs H2 M2 x2 dxs => q _ H2 M2 (x1.trans x2) (.cons (Dq.same x2.m dx) dxs)
theorem e_tup {ta : TA} {ds : List PyData} (ha : Pa K ta env ds) (hl : ds.length ≤ sizeLine) : Pe K (tTup ta) env (.tuple ds) := fun H0 M0 H M fps σ Q k q =>
  ha H0 M0 H M fps σ _ k fun xs H1 M1 x1 dx => ⟨by rw [DqAll.len dx]; exact hl, fun p hp => q _ _ (upd M1 p (.tup xs)) (x1.trans (Ext.laid x1.s hp)) (.tup (SqT.of upd_same) (DqAll.same (Ext.laid x1.s hp).m dx))⟩
theorem e_lst {ta : TA} {ds : List PyData} (ha : Pa K ta env ds) (hl : ds.length ≤ sizeLine) : Pe K (tLst ta) env (.list ds) := fun H0 M0 H M fps σ Q k q =>
  ha H0 M0 H M fps σ _ k fun xs H1 M1 x1 dx => ⟨by rw [DqAll.len dx]; exact hl, fun p hp => q _ _ (upd M1 p (.lst xs)) (x1.trans (Ext.laid x1.s hp)) (.lst upd_same (DqAll.same (Ext.laid x1.s hp).m dx))⟩
theorem e_call {R : List PyData → PyData → Prop} {E : XK} {ta : TA} {ds : List PyData} {d : PyData} (ha : Pa K ta env ds) (hr : R ds d) : Pe K (tCall (PF K R) [] E ta) env d := fun H0 M0 H M fps σ Q k q =>
  ha H0 M0 H M fps σ _ k fun xs H1 M1 x1 dx => ⟨M1, ds, d, x1.s, by rw [List.append_nil]; exact dx, hr, fun v H2 M2 x2 dv => q v H2 M2 (x1.trans x2) dv⟩
theorem e_cb {r : List V → Hp → VK → Prop} {ta : TA} {ds : List PyData} {c : PyData} (ha : Pa K ta env ds) (hr : Pc K r ds c) : Pe K (tCB r ta) env c := fun H0 M0 H M fps σ Q k q =>
  ha H0 M0 H M fps σ _ k fun xs H1 M1 x1 dx => hr H1 M1 xs Q x1.s dx fun v H2 M2 x2 dv => q v H2 M2 (x1.trans x2) dv
theorem e_if {c : TT} {ta tb : TE} {b : Bool} {d e : PyData} (hc : Pt K c env b) (ha : b = true → Pe K ta env d) (hb : b = false → Pe K tb env e) : Pe K (tIf c ta tb) env (if b = true then d else e) := fun H0 M0 H M fps σ Q k q => by
  refine hc H0 M0 H M fps σ _ k fun H1 M1 x1 => ?_
  cases b with
  | true => rw [if_pos rfl] at q ⊢; exact ha rfl H0 M0 H1 M1 fps σ Q (k.ext x1) fun v H2 M2 x2 dv => q v H2 M2 (x1.trans x2) dv
  | false => rw [if_neg Bool.false_ne_true] at q ⊢; exact hb rfl H0 M0 H1 M1 fps σ Q (k.ext x1) fun v H2 M2 x2 dv => q v H2 M2 (x1.trans x2) dv
theorem e_ifS {c : TT} {ta tb : TE} {b : Bool} {d : PyData} (hc : Pt K c env b) (ha : b = true → Pe K ta env d) (hb : b = false → Pe K tb env d) : Pe K (tIf c ta tb) env d := fun H0 M0 H M fps σ Q k q => by
  refine hc H0 M0 H M fps σ _ k fun H1 M1 x1 => ?_
  cases b with
  | true => exact ha rfl H0 M0 H1 M1 fps σ Q (k.ext x1) fun v H2 M2 x2 dv => q v H2 M2 (x1.trans x2) dv
  | false => exact hb rfl H0 M0 H1 M1 fps σ Q (k.ext x1) fun v H2 M2 x2 dv => q v H2 M2 (x1.trans x2) dv
theorem dq_bool {M : Hp} {v : V} {b : Bool} (h : Dq K M v (.bool b)) : v = .bl b := by cases h; rfl
theorem dq_int {M : Hp} {v : V} {b : Int} (h : Dq K M v (.int b)) : v = .int b := by cases h; rfl
theorem dq_str {M : Hp} {v : V} {b : Str} (h : Dq K M v (.str b)) : v = .str b := by cases h; rfl
theorem dq_non {M : Hp} {v : V} (h : Dq K M v .none) : v = .non := by cases h; rfl
theorem t_test {ta : TE} {b : Bool} (ha : Pe K ta env (.bool b)) : Pt K (tTest ta) env b := fun H0 M0 H M fps σ Q k q =>
  ha H0 M0 H M fps σ _ k fun x H1 M1 x1 dx => ⟨b, dq_bool dx, q H1 M1 x1⟩
theorem t_b {ta : TE} {b : Bool} (ha : Pe K ta env (.bool b)) : Pt K (tB ta) env b := fun H0 M0 H M fps σ Q k q =>
  ha H0 M0 H M fps σ _ k fun x H1 M1 x1 dx => ⟨b, dq_bool dx, q H1 M1 x1⟩
theorem t_and {t u : TT} {b c : Bool} (ha : Pt K t env b) (hb : b = true → Pt K u env c) : Pt K (tAnd t u) env (b && c) := fun H0 M0 H M fps σ Q k q => by
  refine ha H0 M0 H M fps σ _ k fun H1 M1 x1 => ?_
  cases b with
  | true => exact hb rfl H0 M0 H1 M1 fps σ Q (k.ext x1) fun H2 M2 x2 => q H2 M2 (x1.trans x2)
  | false => exact q H1 M1 x1
theorem t_or {t u : TT} {b c : Bool} (ha : Pt K t env b) (hb : b = false → Pt K u env c) : Pt K (tOr t u) env (b || c) := fun H0 M0 H M fps σ Q k q => by
  refine ha H0 M0 H M fps σ _ k fun H1 M1 x1 => ?_
  cases b with
  | false => exact hb rfl H0 M0 H1 M1 fps σ Q (k.ext x1) fun H2 M2 x2 => q H2 M2 (x1.trans x2)
  | true => exact q H1 M1 x1
theorem t_not {t : TT} {b : Bool} (ha : Pt K t env b) : Pt K (tNot t) env (!b) := fun H0 M0 H M fps σ Q k q => ha H0 M0 H M fps σ _ k q
theorem t_yes : Pt K tYes env true := fun H0 M0 H M fps σ Q k q => q H M (Ext.refl k.sub)
theorem e_and {ta tb : TE} {b c : Bool} (ha : Pe K ta env (.bool b)) (hb : b = true → Pe K tb env (.bool c)) : Pe K (tAndV ta tb) env (.bool (b && c)) := fun H0 M0 H M fps σ Q k q => by
  refine ha H0 M0 H M fps σ _ k fun x H1 M1 x1 dx => ⟨b, dq_bool dx, ?_⟩
  cases b with
  | true => exact hb rfl H0 M0 H1 M1 fps σ Q (k.ext x1) fun v H2 M2 x2 dv => q v H2 M2 (x1.trans x2) dv
  | false => exact q _ H1 M1 x1 (.bl _)
theorem e_or {ta tb : TE} {b c : Bool} (ha : Pe K ta env (.bool b)) (hb : b = false → Pe K tb env (.bool c)) : Pe K (tOrV ta tb) env (.bool (b || c)) := fun H0 M0 H M fps σ Q k q => by
  refine ha H0 M0 H M fps σ _ k fun x H1 M1 x1 dx => ⟨b, dq_bool dx, ?_⟩
  cases b with
  | false => exact hb rfl H0 M0 H1 M1 fps σ Q (k.ext x1) fun v H2 M2 x2 dv => q v H2 M2 (x1.trans x2) dv
  | true => exact q _ H1 M1 x1 (.bl _)
theorem e_not {ta : TE} {b : Bool} (ha : Pe K ta env (.bool b)) : Pe K (tNotV ta) env (.bool (!b)) := fun H0 M0 H M fps σ Q k q =>
  ha H0 M0 H M fps σ _ k fun x H1 M1 x1 dx => ⟨b, dq_bool dx, q _ H1 M1 x1 (.bl _)⟩
theorem e_chain {r r' : R2} {ta tb tc : TE} {d e f : PyData} {b c : Bool} (ha : Pe K ta env d) (hb : Pe K tb env e) (hr : Po K r d e (.bool b)) (hc : b = true → Pe K tc env f) (hr' : b = true → Po K r' e f (.bool c)) : Pe K (tChain r r' ta tb tc) env (.bool (b && c)) := fun H0 M0 H M fps σ Q k q => by
  refine ha H0 M0 H M fps σ _ k fun x H1 M1 x1 dx => hb H0 M0 H1 M1 fps σ _ (k.ext x1) fun y H2 M2 x2 dy => hr H2 M2 x y _ x2.s (Dq.same x2.m dx) dy fun v H3 M3 x3 dv => ⟨b, dq_bool dv, ?_⟩
  cases b with
  | true => exact hc rfl H0 M0 H3 M3 fps σ _ (k.ext ((x1.trans x2).trans x3)) fun w H4 M4 x4 dw => hr' rfl H4 M4 y w Q x4.s (Dq.same (x3.m.trans x4.m) dy) dw fun z H5 M5 x5 dz => q z H5 M5 ((((x1.trans x2).trans x3).trans x4).trans x5) dz
  | false => exact q _ H3 M3 ((x1.trans x2).trans x3) (.bl _)
end
/-! ### operators -/
section
variable {K : PySem.W.Frag}
theorem o_i0 {f : Int → Int → Int} {i j : Int} : Po K (rI0 fun i j => .int (f i j)) (.int i) (.int j) (.int (f i j)) := fun H M x y Q s hx hy q => ⟨i, j, dq_int hx, dq_int hy, q _ H M (Ext.refl s) (.int _)⟩
theorem o_b0 {f : Int → Int → Bool} {i j : Int} : Po K (rI0 fun i j => .bl (f i j)) (.int i) (.int j) (.bool (f i j)) := fun H M x y Q s hx hy q => ⟨i, j, dq_int hx, dq_int hy, q _ H M (Ext.refl s) (.bl _)⟩
theorem o_iC {C : Int → Int → Prop} {f : Int → Int → Int} {i j : Int} (h : C i j) : Po K (rI C fun i j => .int (f i j)) (.int i) (.int j) (.int (f i j)) := fun H M x y Q s hx hy q => ⟨i, j, dq_int hx, dq_int hy, h, q _ H M (Ext.refl s) (.int _)⟩
theorem o_eqI {i j : Int} : Po K rEq (.int i) (.int j) (.bool (decide (i = j))) := fun H M x y Q s hx hy q => by
  rw [dq_int hx, dq_int hy]
  refine ⟨rfl, ?_⟩
  rw [show decide (V.int i = V.int j) = decide (i = j) by
    by_cases c : i = j
    · subst c; simp
    · rw [decide_eq_false c]; exact decide_eq_false fun z => c (V.int.inj z)]
  exact q _ H M (Ext.refl s) (.bl _)
theorem o_neI {i j : Int} : Po K rNe (.int i) (.int j) (.bool (!decide (i = j))) := fun H M x y Q s hx hy q => by
  rw [dq_int hx, dq_int hy]
  refine ⟨rfl, ?_⟩
  rw [show decide (V.int i = V.int j) = decide (i = j) by
    by_cases c : i = j
    · subst c; simp
    · rw [decide_eq_false c]; exact decide_eq_false fun z => c (V.int.inj z)]
  exact q _ H M (Ext.refl s) (.bl _)
theorem o_eqS {i j : Str} : Po K rEq (.str i) (.str j) (.bool (decide (i = j))) := fun H M x y Q s hx hy q => by
  rw [dq_str hx, dq_str hy]
  refine ⟨rfl, ?_⟩
  rw [show decide (V.str i = V.str j) = decide (i = j) by
    by_cases c : i = j
    · subst c; simp
    · rw [decide_eq_false c]; exact decide_eq_false fun z => c (V.str.inj z)]
  exact q _ H M (Ext.refl s) (.bl _)
theorem o_neS {i j : Str} : Po K rNe (.str i) (.str j) (.bool (!decide (i = j))) := fun H M x y Q s hx hy q => by
  rw [dq_str hx, dq_str hy]
  refine ⟨rfl, ?_⟩
  rw [show decide (V.str i = V.str j) = decide (i = j) by
    by_cases c : i = j
    · subst c; simp
    · rw [decide_eq_false c]; exact decide_eq_false fun z => c (V.str.inj z)]
  exact q _ H M (Ext.refl s) (.bl _)
theorem o_eqB {i j : Bool} : Po K rEq (.bool i) (.bool j) (.bool (decide (i = j))) := fun H M x y Q s hx hy q => by
  rw [dq_bool hx, dq_bool hy]
  refine ⟨rfl, ?_⟩
  rw [show decide (V.bl i = V.bl j) = decide (i = j) by cases i <;> cases j <;> rfl]
  exact q _ H M (Ext.refl s) (.bl _)
theorem o_neB {i j : Bool} : Po K rNe (.bool i) (.bool j) (.bool (!decide (i = j))) := fun H M x y Q s hx hy q => by
  rw [dq_bool hx, dq_bool hy]
  refine ⟨rfl, ?_⟩
  rw [show decide (V.bl i = V.bl j) = decide (i = j) by cases i <;> cases j <;> rfl]
  exact q _ H M (Ext.refl s) (.bl _)
def isN : PyData → Bool
  | .none => true
  | _ => false
theorem isN_iff {M : Hp} {v : V} {d : PyData} (h : Dq K M v d) : decide (v = .non) = isN d := by
  cases h <;> rfl
theorem o_isN {d : PyData} : Po K (fun x y H Q => y = .non ∧ Q (.bl (decide (x = .non))) H) d .none (.bool (isN d)) := fun H M x y Q s hx hy q => ⟨dq_non hy, by rw [isN_iff hx]; exact q _ H M (Ext.refl s) (.bl _)⟩
theorem o_notN {d : PyData} : Po K (fun x y H Q => y = .non ∧ Q (.bl (!decide (x = .non))) H) d .none (.bool (!isN d)) := fun H M x y Q s hx hy q => ⟨dq_non hy, by rw [isN_iff hx]; exact q _ H M (Ext.refl s) (.bl _)⟩
theorem o_addS {a b : Str} (h : a.length + b.length ≤ sizeLine) : Po K (fun x y H Q => ∃ i j, x = .str i ∧ y = .str j ∧ i.length + j.length ≤ sizeLine ∧ Q (.str (i ++ j)) H) (.str a) (.str b) (.str (a ++ b)) := fun H M x y Q s hx hy q =>
  ⟨a, b, dq_str hx, dq_str hy, h, q _ H M (Ext.refl s) (.str _)⟩
theorem o_inS {c : Nat} {z : Str} : Po K (fun x y H Q => ∃ (c : Nat) (z : Str), x = .str ⟨#[c]⟩ ∧ y = .str z ∧ Q (.bl (decide (c ∈ z.cps.toList))) H) (.str ⟨#[c]⟩) (.str z) (.bool (decide (c ∈ z.cps.toList))) := fun H M x y Q s hx hy q =>
  ⟨c, z, dq_str hx, dq_str hy, q _ H M (Ext.refl s) (.bl _)⟩
theorem dq_lstI {M : Hp} {v : V} {ds : List PyData} (h : Dq K M v (.list ds)) : ∃ a xs, v = .ref a ∧ M a = some (.lst xs) ∧ DqAll K M xs ds := by
  cases h with | lst h a => exact ⟨_, _, rfl, h, a⟩
theorem dq_tupI {M : Hp} {v : V} {ds : List PyData} (h : Dq K M v (.tuple ds)) : ∃ a xs, v = .ref a ∧ SqT K M a xs ∧ DqAll K M xs ds := by
  cases h with | tup h a => exact ⟨_, _, rfl, h, a⟩
theorem o_cat {ds es : List PyData} (h : ds.length + es.length ≤ sizeLine) : Po K rCat (.list ds) (.list es) (.list (ds ++ es)) := fun H M x y Q s hx hy q => by
  obtain ⟨a, xs, rfl, h1, h2⟩ := dq_lstI hx
  obtain ⟨b, ys, rfl, h3, h4⟩ := dq_lstI hy
  refine ⟨a, b, xs, ys, rfl, rfl, s _ _ h1, s _ _ h3, by rw [DqAll.len h2, DqAll.len h4]; exact h, fun p hp => ?_⟩
  exact q _ _ _ (Ext.laid s hp) (.lst upd_same (DqAll.same (Ext.laid s hp).m (DqAll.app h2 h4)))
theorem o_catA {ds es : List PyData} (h : ds.length + es.length ≤ sizeLine) : Po K (rCatA K) (.tuple ds) (.tuple es) (.tuple (ds ++ es)) := fun H M x y Q s hx hy q => by
  obtain ⟨a, xs, rfl, h1, h2⟩ := dq_tupI hx
  obtain ⟨b, ys, rfl, h3, h4⟩ := dq_tupI hy
  refine ⟨a, b, xs, ys, rfl, rfl, Same.sqT s h1, Same.sqT s h3, by rw [DqAll.len h2, DqAll.len h4]; exact h, fun e => ?_, fun _ e => ?_, fun _ _ p hp => ?_⟩
  · subst e
    cases h2
    exact q _ H M (Ext.refl s) (.tup h3 h4)
  · subst e
    cases h4
    rw [List.append_nil] at q
    exact q _ H M (Ext.refl s) (.tup h1 h2)
  · exact q _ _ _ (Ext.laid s hp) (.tup (SqT.of upd_same) (DqAll.same (Ext.laid s hp).m (DqAll.app h2 h4)))
theorem dq_at {M : Hp} {vs : List V} {ds : List PyData} {i : Int} {d : PyData} (h : DqAll K M vs ds) (e : atI ds i = some d) : ∃ v, atI vs i = some v ∧ Dq K M v d := by
  unfold atI at e ⊢
  rw [DqAll.len h]
  cases c : ixN ds.length i with
  | none => rw [c] at e; cases e
  | some j =>
    rw [c] at e
    obtain ⟨v, h1, h2⟩ := DqAll.get h (show ds[j]? = some d from e)
    exact ⟨v, h1, h2⟩
theorem o_ixL {ds : List PyData} {i : Int} {d : PyData} (e : atI ds i = some d) : Po K (rIxL K) (.list ds) (.int i) d := fun H M x y Q s hx hy q => by
  obtain ⟨a, xs, rfl, h1, h2⟩ := dq_lstI hx
  obtain ⟨v, e1, e2⟩ := dq_at h2 e
  exact ⟨a, xs, i, v, rfl, dq_int hy, SqL.of (s _ _ h1), e1, q v H M (Ext.refl s) e2⟩
theorem o_ixT {ds : List PyData} {i : Int} {d : PyData} (e : atI ds i = some d) : Po K (rIxT K) (.tuple ds) (.int i) d := fun H M x y Q s hx hy q => by
  obtain ⟨a, xs, rfl, h1, h2⟩ := dq_tupI hx
  obtain ⟨v, e1, e2⟩ := dq_at h2 e
  exact ⟨a, xs, i, v, rfl, dq_int hy, Same.sqT s h1, e1, q v H M (Ext.refl s) e2⟩
theorem o_ixS {z : Str} {i : Int} {c : Nat} (hz : z.length ≤ sizeLine) (e : atI z.cps.toList i = some c) : Po K rIxS (.str z) (.int i) (.str ⟨#[c]⟩) := fun H M x y Q s hx hy q =>
  ⟨z, i, c, dq_str hx, dq_int hy, hz, e, q _ H M (Ext.refl s) (.str _)⟩
theorem o_eqD {d e : PyData} (hd : SeqAt.shaped d = true) (he : SeqAt.shaped e = true) : Po K (rEqD K) d e (.bool (PyData.eqv d e)) := fun H M x y Q s hx hy q =>
  ⟨d, e, Dq.dp (Dq.same s hx) (SeqAt.canLay_of_shaped hd), Dq.dp (Dq.same s hy) (SeqAt.canLay_of_shaped he), hd, he, q _ H M (Ext.refl s) (.bl _)⟩
theorem o_neD {d e : PyData} (hd : SeqAt.shaped d = true) (he : SeqAt.shaped e = true) : Po K (rNeD K) d e (.bool (!PyData.eqv d e)) := fun H M x y Q s hx hy q =>
  ⟨d, e, Dq.dp (Dq.same s hx) (SeqAt.canLay_of_shaped hd), Dq.dp (Dq.same s hy) (SeqAt.canLay_of_shaped he), hd, he, q _ H M (Ext.refl s) (.bl _)⟩
theorem u_i {f : Int → Int} {i : Int} : Pu K (rU fun i => .int (f i)) (.int i) (.int (f i)) := fun H M x Q s hx q => ⟨i, dq_int hx, q _ H M (Ext.refl s) (.int _)⟩
/-! ### builtins -/
theorem dqA_nil {M : Hp} {vs : List V} (h : DqAll K M vs []) : vs = [] := by cases h; rfl
theorem dqA_one {M : Hp} {vs : List V} {d : PyData} (h : DqAll K M vs [d]) : ∃ v, vs = [v] ∧ Dq K M v d := by
  cases h with | cons a b => rw [dqA_nil b]; exact ⟨_, rfl, a⟩
theorem dqA_two {M : Hp} {vs : List V} {d e : PyData} (h : DqAll K M vs [d, e]) : ∃ v w, vs = [v, w] ∧ Dq K M v d ∧ Dq K M w e := by
  cases h with | cons a b =>
    obtain ⟨w, e1, e2⟩ := dqA_one b
    rw [e1]; exact ⟨_, w, rfl, a, e2⟩
theorem c_lenL {ds : List PyData} : Pc K (fun xs H Q => ∃ p ys, xs = [.ref p] ∧ (SqL K H p ys ∨ SqT K H p ys) ∧ Q (.int ys.length) H) [.list ds] (.int ds.length) := fun H M vs Q s h0 q => by
  obtain ⟨v, rfl, h⟩ := dqA_one h0
  obtain ⟨a, xs, rfl, h1, h2⟩ := dq_lstI h
  refine ⟨a, xs, rfl, .inl (SqL.of (s _ _ h1)), ?_⟩
  rw [DqAll.len h2]; exact q _ H M (Ext.refl s) (.int _)
theorem c_lenT {ds : List PyData} : Pc K (fun xs H Q => ∃ p ys, xs = [.ref p] ∧ (SqL K H p ys ∨ SqT K H p ys) ∧ Q (.int ys.length) H) [.tuple ds] (.int ds.length) := fun H M vs Q s h0 q => by
  obtain ⟨v, rfl, h⟩ := dqA_one h0
  obtain ⟨a, xs, rfl, h1, h2⟩ := dq_tupI h
  refine ⟨a, xs, rfl, .inr (Same.sqT s h1), ?_⟩
  rw [DqAll.len h2]; exact q _ H M (Ext.refl s) (.int _)
theorem c_lenS {z : Str} (hz : z.length ≤ sizeLine) : Pc K (fun xs H Q => ∃ z, xs = [.str z] ∧ z.length ≤ sizeLine ∧ Q (.int z.length) H) [.str z] (.int z.length) := fun H M vs Q s h0 q => by
  obtain ⟨v, rfl, h⟩ := dqA_one h0
  rw [dq_str h]
  exact ⟨z, rfl, hz, q _ H M (Ext.refl s) (.int _)⟩
theorem c_int {i : Int} : Pc K (fun xs H Q => (∃ i, xs = [.int i] ∧ Q (.int i) H) ∨ ∃ k, xs = [.bl k] ∧ Q (.int (if k then 1 else 0)) H) [.int i] (.int i) := fun H M vs Q s h0 q => by
  obtain ⟨v, rfl, h⟩ := dqA_one h0
  rw [dq_int h]
  exact .inl ⟨i, rfl, q _ H M (Ext.refl s) (.int _)⟩
theorem c_intB {b : Bool} : Pc K (fun xs H Q => (∃ i, xs = [.int i] ∧ Q (.int i) H) ∨ ∃ k, xs = [.bl k] ∧ Q (.int (if k then 1 else 0)) H) [.bool b] (.int (if b = true then 1 else 0)) := fun H M vs Q s h0 q => by
  obtain ⟨v, rfl, h⟩ := dqA_one h0
  rw [dq_bool h]
  exact .inr ⟨b, rfl, q _ H M (Ext.refl s) (.int _)⟩
theorem c_ord {z : Str} (hz : z.length = 1) : Pc K (fun xs H Q => ∃ x, xs = [.str x] ∧ x.length = 1 ∧ Q (.int (x.cps.getD 0 0 : Nat)) H) [.str z] (.int (z.cps.getD 0 0 : Nat)) := fun H M vs Q s h0 q => by
  obtain ⟨v, rfl, h⟩ := dqA_one h0
  rw [dq_str h]
  exact ⟨z, rfl, hz, q _ H M (Ext.refl s) (.int _)⟩
theorem c_max2 {i j : Int} : Pc K (fun xs H Q => ∃ i j, xs = [.int i, .int j] ∧ Q (.int (if j > i then j else i)) H) [.int i, .int j] (.int (if j > i then j else i)) := fun H M vs Q s h0 q => by
  obtain ⟨v, w, rfl, h, h'⟩ := dqA_two h0
  rw [dq_int h, dq_int h']
  exact ⟨i, j, rfl, q _ H M (Ext.refl s) (.int _)⟩
theorem c_min2 {i j : Int} : Pc K (fun xs H Q => ∃ i j, xs = [.int i, .int j] ∧ Q (.int (if j < i then j else i)) H) [.int i, .int j] (.int (if j < i then j else i)) := fun H M vs Q s h0 q => by
  obtain ⟨v, w, rfl, h, h'⟩ := dqA_two h0
  rw [dq_int h, dq_int h']
  exact ⟨i, j, rfl, q _ H M (Ext.refl s) (.int _)⟩
theorem c_listL {ds : List PyData} : Pc K (fun xs H Q => ∃ p ys, xs = [.ref p] ∧ (SqL K H p ys ∨ SqT K H p ys) ∧ ∀ l, H l = none → Q (.ref l) (upd H l (.lst ys))) [.list ds] (.list ds) := fun H M vs Q s h0 q => by
  obtain ⟨v, rfl, h⟩ := dqA_one h0
  obtain ⟨a, xs, rfl, h1, h2⟩ := dq_lstI h
  exact ⟨a, xs, rfl, .inl (SqL.of (s _ _ h1)), fun p hp => q _ _ _ (Ext.laid s hp) (.lst upd_same (DqAll.same (Ext.laid s hp).m h2))⟩
theorem c_listT {ds : List PyData} : Pc K (fun xs H Q => ∃ p ys, xs = [.ref p] ∧ (SqL K H p ys ∨ SqT K H p ys) ∧ ∀ l, H l = none → Q (.ref l) (upd H l (.lst ys))) [.tuple ds] (.list ds) := fun H M vs Q s h0 q => by
  obtain ⟨v, rfl, h⟩ := dqA_one h0
  obtain ⟨a, xs, rfl, h1, h2⟩ := dq_tupI h
  exact ⟨a, xs, rfl, .inr (Same.sqT s h1), fun p hp => q _ _ _ (Ext.laid s hp) (.lst upd_same (DqAll.same (Ext.laid s hp).m h2))⟩
theorem c_tupL {ds : List PyData} : Pc K (fun xs H Q => ∃ p ys, xs = [.ref p] ∧ ((SqL K H p ys ∧ ∀ l, H l = none → Q (.ref l) (upd H l (.tup ys))) ∨ (SqT K H p ys ∧ Q (.ref p) H))) [.list ds] (.tuple ds) := fun H M vs Q s h0 q => by
  obtain ⟨v, rfl, h⟩ := dqA_one h0
  obtain ⟨a, xs, rfl, h1, h2⟩ := dq_lstI h
  exact ⟨a, xs, rfl, .inl ⟨SqL.of (s _ _ h1), fun p hp => q _ _ _ (Ext.laid s hp) (.tup (SqT.of upd_same) (DqAll.same (Ext.laid s hp).m h2))⟩⟩
theorem c_tupT {ds : List PyData} : Pc K (fun xs H Q => ∃ p ys, xs = [.ref p] ∧ ((SqL K H p ys ∧ ∀ l, H l = none → Q (.ref l) (upd H l (.tup ys))) ∨ (SqT K H p ys ∧ Q (.ref p) H))) [.tuple ds] (.tuple ds) := fun H M vs Q s h0 q => by
  obtain ⟨v, rfl, h⟩ := dqA_one h0
  obtain ⟨a, xs, rfl, h1, h2⟩ := dq_tupI h
  exact ⟨a, xs, rfl, .inr ⟨Same.sqT s h1, q _ H M (Ext.refl s) (.tup h1 h2)⟩⟩
end
end Y

/-! ### statements over such states -/
namespace Y
open PySem L2
abbrev EnvP := List Sl → Prop
def NxOk (K : PySem.W.Frag) (H0 M0 : Hp) (N : L2.St → Hp → Prop) (E : EnvP) : Prop := ∀ env σ H M fps, E env → Ok K H0 M0 env fps σ H M → N σ H
/-- what a def gives: data, or a new list of its own -/
inductive Rt where
  | dat (R : PyData → Prop)
  | lst (R : List PyData → Prop)
def RtOk (K : PySem.W.Frag) (H0 M0 : Hp) (rt : VK) : Rt → Prop
  | .dat R => ∀ v d H' M', R d → Ext H0 M0 H' M' → Dq K M' v d → rt v H'
  | .lst R => ∀ p vs ds H' M', R ds → Ext H0 M0 H' M' → H0 p = none → M' p = none → H' p = some (.lst vs) → DqAll K M' vs ds → rt (.ref p) H'
/-- a block: from env it comes to an env of N, breaks with one of B, goes on with one of C, or returns data of R -/
def Ps (K : PySem.W.Frag) (R : Rt) (B C : EnvP) (t : TS) (env : List Sl) (N : EnvP) : Prop := ∀ (H0 M0 : Hp) (D : Ends) (σ : L2.St) (H M : Hp) (fps : List (List Addr)), Ok K H0 M0 env fps σ H M →
  RtOk K H0 M0 D.rt R → NxOk K H0 M0 D.nx N → NxOk K H0 M0 D.bk B → NxOk K H0 M0 D.ct C → t D σ H
section
variable {K : PySem.W.Frag} {R : Rt} {B C N : EnvP} {env : List Sl} {t u v : TS}
theorem s_assoc (h : Ps K R B C (tSeq t (tSeq u v)) env N) : Ps K R B C (tSeq (tSeq t u) v) env N := fun H0 M0 D σ H M fps k r n b c => h H0 M0 D σ H M fps k r n b c
theorem s_next (h : N env) : Ps K R B C tNext env N := fun H0 M0 D σ H M fps k r n b c => n env σ H M fps h k
theorem s_seq_next (h : Ps K R B C u env N) : Ps K R B C (tSeq tNext u) env N := fun H0 M0 D σ H M fps k r n b c => h H0 M0 D σ H M fps k r n b c
theorem s_brk (h : B env) : Ps K R B C tBreak env N := fun H0 M0 D σ H M fps k r n b c => b env σ H M fps h k
theorem s_cont (h : C env) : Ps K R B C tCont env N := fun H0 M0 D σ H M fps k r n b c => c env σ H M fps h k
theorem s_seq_brk (h : B env) : Ps K R B C (tSeq tBreak u) env N := fun H0 M0 D σ H M fps k r n b c => b env σ H M fps h k
theorem s_seq_cont (h : C env) : Ps K R B C (tSeq tCont u) env N := fun H0 M0 D σ H M fps k r n b c => c env σ H M fps h k
theorem s_ret {R : PyData → Prop} {te : TE} {d : PyData} (he : Pe K te env d) (hR : R d) : Ps K (.dat R) B C (tRet te) env N := fun H0 M0 D σ H M fps k r n b c =>
  he H0 M0 H M fps σ _ k fun v H1 M1 x1 dv => r v d H1 M1 hR (k.out.trans x1) dv
theorem s_seq_ret {R : PyData → Prop} {te : TE} {d : PyData} (he : Pe K te env d) (hR : R d) : Ps K (.dat R) B C (tSeq (tRet te) u) env N := fun H0 M0 D σ H M fps k r n b c =>
  he H0 M0 H M fps σ _ k fun v H1 M1 x1 dv => r v d H1 M1 hR (k.out.trans x1) dv
theorem s_set {i : Nat} {te : TE} {d : PyData} (he : Pe K te env d) (h : N (env.set i (.val d))) : Ps K R B C (tAsg te (gName i)) env N := fun H0 M0 D σ H M fps k r n b c =>
  he H0 M0 H M fps σ _ k fun v H1 M1 x1 dv => n _ _ _ _ _ h ((k.ext x1).setV dv)
theorem s_seq_set {i : Nat} {te : TE} {d : PyData} (he : Pe K te env d) (h : Ps K R B C u (env.set i (.val d)) N) : Ps K R B C (tSeq (tAsg te (gName i)) u) env N := fun H0 M0 D σ H M fps k r n b c =>
  he H0 M0 H M fps σ _ k fun v H1 M1 x1 dv => h H0 M0 D _ _ _ _ ((k.ext x1).setV dv) r n b c
theorem s_drop {te : TE} {d : PyData} (he : Pe K te env d) (h : N env) : Ps K R B C (tDrop te) env N := fun H0 M0 D σ H M fps k r n b c =>
  he H0 M0 H M fps σ _ k fun v H1 M1 x1 dv => n _ _ _ _ _ h (k.ext x1)
theorem s_seq_drop {te : TE} {d : PyData} (he : Pe K te env d) (h : Ps K R B C u env N) : Ps K R B C (tSeq (tDrop te) u) env N := fun H0 M0 D σ H M fps k r n b c =>
  he H0 M0 H M fps σ _ k fun v H1 M1 x1 dv => h H0 M0 D _ _ _ _ (k.ext x1) r n b c
theorem s_if {c : TT} {b : Bool} (hc : Pt K c env b) (ht : b = true → Ps K R B C t env N) (hu : b = false → Ps K R B C u env N) : Ps K R B C (tIfS c t u) env N := fun H0 M0 D σ H M fps k r n bb cc => by
  refine hc H0 M0 H M fps σ _ k fun H1 M1 x1 => ?_
  cases b with
  | true => exact ht rfl H0 M0 D σ H1 M1 fps (k.ext x1) r n bb cc
  | false => exact hu rfl H0 M0 D σ H1 M1 fps (k.ext x1) r n bb cc
theorem s_seq_if {c : TT} {b : Bool} (hc : Pt K c env b) (ht : b = true → Ps K R B C (tSeq t v) env N) (hu : b = false → Ps K R B C (tSeq u v) env N) : Ps K R B C (tSeq (tIfS c t u) v) env N := fun H0 M0 D σ H M fps k r n bb cc => by
  refine hc H0 M0 H M fps σ _ k fun H1 M1 x1 => ?_
  cases b with
  | true => exact ht rfl H0 M0 D σ H1 M1 fps (k.ext x1) r n bb cc
  | false => exact hu rfl H0 M0 D σ H1 M1 fps (k.ext x1) r n bb cc
/-- a cut: what holds behind t -/
theorem s_mid (Mid : EnvP) (h : Ps K R B C t env Mid) (h2 : ∀ e, Mid e → Ps K R B C u e N) : Ps K R B C (tSeq t u) env N := fun H0 M0 D σ H M fps k r n b c =>
  h H0 M0 { D with nx := u D } σ H M fps k r (fun e σ1 H1 M1 fps1 he k1 => h2 e he H0 M0 D σ1 H1 M1 fps1 k1 r n b c) b c
theorem s_aug {i : Nat} {te : TE} {ti : TIp} {d e c : PyData} (hi : env[i]? = some (.val d)) (he : Pe K te env e) (hr : Po K ti d e c) (h : N (env.set i (.val c))) : Ps K R B C (tAug i te ti) env N := fun H0 M0 D σ H M fps k r n b cc => by
  obtain ⟨v, e1, e2⟩ := k.sls.get hi
  refine ⟨v, e1, he H0 M0 H M fps σ _ k fun y H1 M1 x1 dy => hr H1 M1 v y _ x1.s (Dq.same x1.m e2) dy fun z H2 M2 x2 dz => n _ _ _ _ _ h (((k.ext x1).ext x2).setV dz)⟩
theorem s_seq_aug {i : Nat} {te : TE} {ti : TIp} {d e c : PyData} (hi : env[i]? = some (.val d)) (he : Pe K te env e) (hr : Po K ti d e c) (h : Ps K R B C u (env.set i (.val c)) N) : Ps K R B C (tSeq (tAug i te ti) u) env N := fun H0 M0 D σ H M fps k r n b cc => by
  obtain ⟨v, e1, e2⟩ := k.sls.get hi
  refine ⟨v, e1, he H0 M0 H M fps σ _ k fun y H1 M1 x1 dy => hr H1 M1 v y _ x1.s (Dq.same x1.m e2) dy fun z H2 M2 x2 dz => h H0 M0 D _ _ _ _ (((k.ext x1).ext x2).setV dz) r n b cc⟩
theorem o_ip {f : Int → Int → Int} {i j : Int} : Po K (ipI f) (.int i) (.int j) (.int (f i j)) := fun H M x y Q s hx hy q => ⟨i, j, dq_int hx, dq_int hy, q _ H M (Ext.refl s) (.int _)⟩
end
/-! ### own lists -/
def ownL (K : PySem.W.Frag) (ds : List PyData) : Sl := .res fun v M H fp => ∃ p vs, v = .ref p ∧ fp = [p] ∧ H p = some (.lst vs) ∧ DqAll K M vs ds
theorem stab_own {K : PySem.W.Frag} {ds : List PyData} : Stab (ownL K ds) := fun v M H M' H' fp m h ⟨p, vs, e1, e2, e3, e4⟩ => ⟨p, vs, e1, e2, by rw [h p (by rw [e2]; exact List.mem_singleton.mpr rfl)]; exact e3, DqAll.same m e4⟩
section
variable {K : PySem.W.Frag} {H0 M0 H M H' M' : Hp} {env : List Sl} {fps : List (List Addr)} {σ : L2.St}
theorem SlsOk.getR : ∀ {env : List Sl} {σ : L2.St} {fps : List (List Addr)} {i : Nat} {P}, SlsOk K M H env σ fps → env[i]? = some (.res P) → ∃ v fp, σ[i]? = some (some v) ∧ fps[i]? = some fp ∧ P v M H fp
  | _, _, _, 0, _, .cons a _, h => by
    have e := Option.some.inj h
    subst e
    obtain ⟨v, e2, e3⟩ := a
    exact ⟨v, _, by rw [e2]; rfl, rfl, e3⟩
  | _, _, _, i + 1, _, .cons _ b, h => SlsOk.getR b (i := i) (by simpa using h)
  | _, _, _, i, _, .nil, h => by simp at h
theorem mem_flat {fps : List (List Addr)} {i : Nat} {fp : List Addr} {a : Addr} (h : fps[i]? = some fp) (ha : a ∈ fp) : a ∈ fps.flatten := List.mem_flatten.mpr ⟨fp, List.mem_of_getElem? h, ha⟩
/-- the addresses of other slots are others -/
theorem flat_other : ∀ {fps : List (List Addr)} {i : Nat} {fp : List Addr} {a b : Addr}, fps.flatten.Nodup → fps[i]? = some fp → a ∈ fp → b ∈ (fps.set i []).flatten → b ≠ a
  | f :: fps, 0, fp, a, b, nd, h, ha, hb, z => by
    have e := Option.some.inj h
    subst e
    rw [List.set_cons_zero, List.flatten_cons, List.nil_append] at hb
    rw [List.flatten_cons, List.nodup_append] at nd
    exact nd.2.2 a ha b hb z.symm
  | f :: fps, i + 1, fp, a, b, nd, h, ha, hb, z => by
    have h' : fps[i]? = some fp := by simpa using h
    rw [List.set_cons_succ, List.flatten_cons, List.mem_append] at hb
    rw [List.flatten_cons, List.nodup_append] at nd
    rcases hb with hb | hb
    · exact nd.2.2 b hb a (mem_flat h' ha) z
    · exact flat_other nd.2.1 h' ha hb z
theorem SlsOk.monoAt {s : Sl} (k : Same M M') : ∀ {env : List Sl} {σ : L2.St} {fps : List (List Addr)} {i : Nat} {fp' : List Addr}, (∀ s ∈ env, Stab s) → (∀ a ∈ (fps.set i []).flatten, H' a = H a) → SlsOk K M H env σ fps → (∀ o, σ[i]? = some o → SlOk K M' H' s o fp') → SlsOk K M' H' (env.set i s) σ (fps.set i fp')
  | _, _, _, _, _, _, _, .nil, _ => .nil
  | _, _, _, 0, _, st, h, .cons a b, x => .cons (x _ rfl) (SlsOk.mono k (fun s hs => st s (List.mem_cons_of_mem _ hs)) (fun y hy => h y (by rw [List.set_cons_zero, List.flatten_cons, List.nil_append]; exact hy)) b)
  | _, _, _, i + 1, _, st, h, .cons a b, x => .cons (SlOk.mono (st _ List.mem_cons_self) k (fun y hy => h y (by rw [List.set_cons_succ, List.flatten_cons]; exact List.mem_append_left _ hy)) a)
      (SlsOk.monoAt k (fun s hs => st s (List.mem_cons_of_mem _ hs)) (fun y hy => h y (by rw [List.set_cons_succ, List.flatten_cons]; exact List.mem_append_right _ hy)) b (fun o ho => x o (by simpa using ho)))
theorem set_same_mem : ∀ {fps : List (List Addr)} {i : Nat} {fp : List Addr}, fps[i]? = some fp → fps.set i fp = fps
  | f :: fps, 0, fp, h => by rw [List.set_cons_zero, ← Option.some.inj h]
  | f :: fps, i + 1, fp, h => by rw [List.set_cons_succ, set_same_mem (by simpa using h)]
/-- an own list changes -/
theorem Ok.put {i : Nat} {ds es : List PyData} {p : Addr} {vs ws : List V} (k : Ok K H0 M0 env fps σ H M) (hp : σ[i]? = some (some (.ref p))) (hf : fps[i]? = some [p]) (hw : DqAll K M ws es) :
    Ok K H0 M0 (env.set i (ownL K es)) fps σ (upd H p (.lst ws)) M := by
  obtain ⟨e1, e2, e3⟩ := k.own p (mem_flat hf (List.mem_singleton.mpr rfl))
  have hs : Same H0 (upd H p (.lst ws)) := fun a u e => by
    rw [upd_ne (fun z => by rw [z, e1] at e; cases e)]; exact k.base a u e
  refine ⟨hs, fun a u e => ?_, k.grow, k.new, ?_, k.nd, fun a ha => ?_, stab_set stab_own k.stab⟩
  · rw [upd_ne (fun z => by rw [z, e2] at e; cases e)]; exact k.sub a u e
  · have := SlsOk.monoAt (s := ownL K es) (H' := upd H p (.lst ws)) (i := i) (fp' := [p]) (Same.refl M) k.stab (fun a ha => upd_ne (flat_other k.nd hf (List.mem_singleton.mpr rfl) ha)) k.sls (fun o ho => ?_)
    · rw [set_same_mem hf] at this; exact this
    · rw [hp] at ho
      exact ⟨.ref p, (Option.some.inj ho).symm, p, ws, rfl, rfl, upd_same, hw⟩
  · obtain ⟨f1, f2, f3⟩ := k.own a ha
    refine ⟨f1, f2, fun z => ?_⟩
    by_cases c : a = p
    · subst c; rw [upd_same] at z; cases z
    · rw [upd_ne c] at z; exact f3 z
theorem flat_memP {p : Addr} : ∀ {fps : List (List Addr)} {i : Nat} {a : Addr}, a ∈ (fps.set i [p]).flatten → a = p ∨ a ∈ (fps.set i []).flatten := by
    intro fps
    induction fps with
    | nil => intro i a h; exact nomatch h
    | cons f fps ih =>
      intro i a h
      cases i with
      | zero =>
        rw [List.set_cons_zero, List.flatten_cons, List.mem_append] at h
        rw [List.set_cons_zero, List.flatten_cons, List.nil_append]
        exact h.imp List.mem_singleton.mp id
      | succ i =>
        rw [List.set_cons_succ, List.flatten_cons, List.mem_append] at h
        rw [List.set_cons_succ, List.flatten_cons, List.mem_append]
        rcases h with h | h
        · exact .inr (.inl h)
        · exact (ih h).imp id .inr
theorem flat_ndP {p : Addr} : ∀ {fps : List (List Addr)} {i : Nat}, fps.flatten.Nodup → (∀ a ∈ fps.flatten, a ≠ p) → (fps.set i [p]).flatten.Nodup := by
    intro fps
    induction fps with
    | nil => intro i h _; exact h
    | cons f fps ih =>
      intro i h hne
      rw [List.flatten_cons, List.nodup_append] at h
      have hne2 : ∀ a ∈ fps.flatten, a ≠ p := fun a ha => hne a (by rw [List.flatten_cons]; exact List.mem_append_right _ ha)
      cases i with
      | zero =>
        rw [List.set_cons_zero, List.flatten_cons, List.nodup_append]
        exact ⟨List.pairwise_singleton _ _, h.2.1, fun x hx y hy e => hne2 y hy (by rw [← e]; exact List.mem_singleton.mp hx)⟩
      | succ i =>
        rw [List.set_cons_succ, List.flatten_cons, List.nodup_append]
        refine ⟨h.1, ih h.2.1 hne2, fun x hx y hy e => ?_⟩
        rcases flat_memP hy with z | z
        · exact hne x (by rw [List.flatten_cons]; exact List.mem_append_left _ hx) (e.trans z)
        · exact h.2.2 x hx y (flat_set z) e
/-- a new own list goes to slot i -/
theorem Ok.setO {i : Nat} {ds : List PyData} {p : Addr} {vs : List V} (k : Ok K H0 M0 env fps σ H M) (hp : H p = none) (hw : DqAll K M vs ds) (hi : i < σ.length) :
    Ok K H0 M0 (env.set i (ownL K ds)) (fps.set i [p]) (σ.set i (some (.ref p))) (upd H p (.lst vs)) M := by
  have mp := none_of k.sub hp
  have bp := none_of k.base hp
  have hfl : ∀ a ∈ fps.flatten, a ≠ p := fun a ha z => by
    subst z
    exact (k.own a ha).2.2 hp
  have hmem := @flat_memP p
  have hnd := @flat_ndP p
  refine ⟨fun a u e => ?_, fun a u e => ?_, k.grow, k.new, ?_, hnd k.nd hfl, fun a ha => ?_, stab_set stab_own k.stab⟩
  · rw [upd_ne (fun z => by rw [z, bp] at e; cases e)]; exact k.base a u e
  · rw [upd_ne (fun z => by rw [z, mp] at e; cases e)]; exact k.sub a u e
  · have h1 : SlsOk K M (upd H p (.lst vs)) env σ fps := SlsOk.mono (Same.refl M) k.stab (fun a ha => upd_ne (hfl a ha)) k.sls
    exact SlsOk.set (s := ownL K ds) (o := some (.ref p)) (fp := [p]) ⟨.ref p, rfl, p, vs, rfl, rfl, upd_same, hw⟩ i h1
  · rcases hmem ha with z | z
    · subst z; exact ⟨bp, mp, by rw [upd_same]; exact fun z => by cases z⟩
    · obtain ⟨f1, f2, f3⟩ := k.own a (flat_set z)
      refine ⟨f1, f2, ?_⟩
      rw [upd_ne (hfl a (flat_set z))]; exact f3
/-- an own list is handed over: it becomes data -/
theorem Ok.froz {i : Nat} {ds : List PyData} (k : Ok K H0 M0 env fps σ H M) (hi : env[i]? = some (ownL K ds)) : ∃ p vs, σ[i]? = some (some (.ref p)) ∧ H p = some (.lst vs) ∧ M p = none ∧ H0 p = none ∧ DqAll K M vs ds ∧ fps[i]? = some [p] ∧
    Ok K H0 M0 (env.set i (.val (.list ds))) (fps.set i []) σ H (upd M p (.lst vs)) := by
  obtain ⟨v, fp, e1, e2, p, vs, rfl, rfl, e3, e4⟩ := k.sls.getR hi
  obtain ⟨f1, f2, f3⟩ := k.own p (mem_flat e2 (List.mem_singleton.mpr rfl))
  have hM : Same M (upd M p (.lst vs)) := fun a u e => by
    rw [upd_ne (fun z => by rw [z, f2] at e; cases e)]; exact e
  refine ⟨p, vs, e1, e3, f2, f1, e4, e2, ⟨k.base, fun a u e => ?_, k.grow.trans hM, fun a u e => ?_, ?_, flat_nodup k.nd, fun a ha => ?_, stab_set (s := .val (.list ds)) True.intro k.stab⟩⟩
  · by_cases z : a = p
    · subst z; rw [upd_same] at e; rw [← Option.some.inj e]; exact e3
    · rw [upd_ne z] at e; exact k.sub a u e
  · by_cases z : a = p
    · subst z; exact .inr f1
    · rw [upd_ne z] at e; exact k.new a u e
  · refine SlsOk.monoAt (s := .val (.list ds)) hM k.stab (fun a ha => rfl) k.sls fun o ho => ?_
    rw [e1] at ho
    exact ⟨rfl, .ref p, (Option.some.inj ho).symm, .lst upd_same (DqAll.same hM e4)⟩
  · obtain ⟨g1, g2, g3⟩ := k.own a (flat_set ha)
    exact ⟨g1, by rw [upd_ne (flat_other k.nd e2 (List.mem_singleton.mpr rfl) ha)]; exact g2, g3⟩
end
section
variable {K : PySem.W.Frag} {R : Rt} {B C N : EnvP} {env : List Sl} {t u v : TS}
/-- from here on the own list at i is data -/
theorem s_froz (i : Nat) {ds : List PyData} (hi : env[i]? = some (ownL K ds)) (h : Ps K R B C t (env.set i (.val (.list ds))) N) : Ps K R B C t env N := fun H0 M0 D σ H M fps k r n b c => by
  obtain ⟨p, vs, e1, e2, e3, e4, e5, e6, k'⟩ := k.froz hi
  exact h H0 M0 D σ H _ _ k' r n b c
/-- i is forgotten -/
theorem s_forget (i : Nat) (h : Ps K R B C t (env.set i .unk) N) : Ps K R B C t env N := fun H0 M0 D σ H M fps k r n b c => by
  have k' := k.setU (i := i) (o := (σ[i]?).getD none)
  rw [show σ.set i ((σ[i]?).getD none) = σ by
    by_cases c : i < σ.length
    · rw [List.getElem?_eq_getElem c]; exact List.set_getElem_self c
    · exact List.set_eq_of_length_le (by omega)] at k'
  exact h H0 M0 D σ H M _ k' r n b c
theorem s_seq_new {i : Nat} {ta : TA} {ds : List PyData} (ha : Pa K ta env ds) (h : Ps K R B C u (env.set i (ownL K ds)) N) (hi : i < env.length) (hl : ds.length ≤ sizeLine) : Ps K R B C (tSeq (tAsg (tLst ta) (gName i)) u) env N := fun H0 M0 D σ H M fps k r n b c =>
  ha H0 M0 H M fps σ _ k fun xs H1 M1 x1 dx => ⟨by rw [DqAll.len dx]; exact hl, fun p hp => h H0 M0 D _ _ M1 _ ((k.ext x1).setO hp dx (by rw [← k.sls.len.1]; exact hi)) r n b c⟩
theorem s_app {i : Nat} {ds : List PyData} {te : TE} {d : PyData} (hi : env[i]? = some (ownL K ds)) (he : Pe K te env d) (hl : ds.length < sizeLine) (h : N (env.set i (ownL K (ds ++ [d])))) : Ps K R B C (tDrop (tBM K "list" rAppend (tVar i) (tCons te tNil))) env N := fun H0 M0 D σ H M fps k r n b c => by
  obtain ⟨v, fp, e1, e2, p, vs, rfl, rfl, e3, e4⟩ := k.sls.getR hi
  refine ⟨.ref p, e1, .inl ⟨rfl, vs, SqL.of e3⟩, he H0 M0 H M fps σ _ k fun y H1 M1 x1 dy => ?_⟩
  refine ⟨p, vs, y, rfl, rfl, x1.h _ _ e3, by rw [DqAll.len e4]; exact hl, n _ _ _ _ _ h ((k.ext x1).put (ds := ds) (vs := vs) e1 e2 (DqAll.app (DqAll.same x1.m e4) (.cons dy .nil)))⟩
theorem s_seq_app {i : Nat} {ds : List PyData} {te : TE} {d : PyData} (hi : env[i]? = some (ownL K ds)) (he : Pe K te env d) (hl : ds.length < sizeLine) (h : Ps K R B C u (env.set i (ownL K (ds ++ [d]))) N) : Ps K R B C (tSeq (tDrop (tBM K "list" rAppend (tVar i) (tCons te tNil))) u) env N :=
  s_mid (fun e => e = env.set i (ownL K (ds ++ [d]))) (s_app hi he hl rfl) fun e he => by rw [he]; exact h
/-- an own list is returned -/
theorem s_retO {R : List PyData → Prop} {i : Nat} {ds : List PyData} (hi : env[i]? = some (ownL K ds)) (hR : R ds) : Ps K (.lst R) B C (tRet (tVar i)) env N := fun H0 M0 D σ H M fps k r n b c => by
  obtain ⟨v, fp, e1, e2, p, vs, rfl, rfl, e3, e4⟩ := k.sls.getR hi
  obtain ⟨f1, f2, f3⟩ := k.own p (mem_flat e2 (List.mem_singleton.mpr rfl))
  exact ⟨.ref p, e1, r p vs ds H M hR k.out f1 f2 e3 e4⟩
theorem s_seq_retO {R : List PyData → Prop} {i : Nat} {ds : List PyData} (hi : env[i]? = some (ownL K ds)) (hR : R ds) : Ps K (.lst R) B C (tSeq (tRet (tVar i)) u) env N := fun H0 M0 D σ H M fps k r n b c => by
  obtain ⟨v, fp, e1, e2, p, vs, rfl, rfl, e3, e4⟩ := k.sls.getR hi
  obtain ⟨f1, f2, f3⟩ := k.own p (mem_flat e2 (List.mem_singleton.mpr rfl))
  exact ⟨.ref p, e1, r p vs ds H M hR k.out f1 f2 e3 e4⟩
/-- an expression that makes a new list -/
def Pf (K : PySem.W.Frag) (t : TE) (env : List Sl) (ds : List PyData) : Prop := ∀ (H0 M0 H M : Hp) (fps : List (List Addr)) (σ : L2.St) (Q : VK), Ok K H0 M0 env fps σ H M →
  (∀ p vs H' M', Ext H M H' M' → H p = none → M' p = none → H' p = some (.lst vs) → DqAll K M' vs ds → Q (.ref p) H') → t σ H Q
/-- a def's promise: told data to a new list -/
def PFO (K : PySem.W.Frag) (R : List PyData → List PyData → Prop) : Sp := fun vs H Q _ => ∃ M ds es, Same M H ∧ DqAll K M vs ds ∧ R ds es ∧ ∀ p ws H' M', Ext H M H' M' → H p = none → M' p = none → H' p = some (.lst ws) → DqAll K M' ws es → Q (.ref p) H'
theorem f_call {R : List PyData → List PyData → Prop} {E : XK} {ta : TA} {ds es : List PyData} (ha : Pa K ta env ds) (hr : R ds es) : Pf K (tCall (PFO K R) [] E ta) env es := fun H0 M0 H M fps σ Q k q =>
  ha H0 M0 H M fps σ _ k fun xs H1 M1 x1 dx => ⟨M1, ds, es, x1.s, by rw [List.append_nil]; exact dx, hr, fun p ws H2 M2 x2 a1 a2 a3 a4 => q p ws H2 M2 (x1.trans x2) (none_of x1.h a1) a2 a3 a4⟩
theorem froz_ext {H M H' M' : Hp} {p : Addr} {vs : List V} {ds : List PyData} (x : Ext H M H' M') (h1 : H p = none) (h2 : M' p = none) (h3 : H' p = some (.lst vs)) (h4 : DqAll K M' vs ds) : Ext H M H' (upd M' p (.lst vs)) ∧ Dq K (upd M' p (.lst vs)) (.ref p) (.list ds) := by
  have hM : Same M' (upd M' p (.lst vs)) := fun a u e => by
    rw [upd_ne (fun z => by rw [z, h2] at e; cases e)]; exact e
  refine ⟨⟨x.h, x.m.trans hM, fun a u e => ?_, fun a u e => ?_⟩, .lst upd_same (DqAll.same hM h4)⟩
  · by_cases z : a = p
    · subst z; rw [upd_same] at e; rw [← Option.some.inj e]; exact h3
    · rw [upd_ne z] at e; exact x.s a u e
  · by_cases z : a = p
    · subst z; exact .inr h1
    · rw [upd_ne z] at e; exact x.n a u e
/-- a new list as data -/
theorem e_of {te : TE} {ds : List PyData} (h : Pf K te env ds) : Pe K te env (.list ds) := fun H0 M0 H M fps σ Q k q =>
  h H0 M0 H M fps σ Q k fun p vs H' M' x h1 h2 h3 h4 => by
    obtain ⟨a, b⟩ := froz_ext x h1 h2 h3 h4
    exact q _ H' _ a b
theorem f_lst {ta : TA} {ds : List PyData} (ha : Pa K ta env ds) (hl : ds.length ≤ sizeLine) : Pf K (tLst ta) env ds := fun H0 M0 H M fps σ Q k q =>
  ha H0 M0 H M fps σ _ k fun xs H1 M1 x1 dx => ⟨by rw [DqAll.len dx]; exact hl, fun p hp => by
    have mp := none_of x1.s hp
    refine q p xs _ M1 ⟨fun a u e => ?_, x1.m, fun a u e => ?_, x1.n⟩ (none_of x1.h hp) mp upd_same dx
    · have e' := x1.h a u e
      rw [upd_ne (fun z => by rw [z, hp] at e'; cases e')]; exact e'
    · rw [upd_ne (fun z => by rw [z, mp] at e; cases e)]; exact x1.s a u e⟩
theorem f_cat {ta tb : TE} {ds es : List PyData} (ha : Pe K ta env (.list ds)) (hb : Pe K tb env (.list es)) (hl : ds.length + es.length ≤ sizeLine) : Pf K (tOp rCat ta tb) env (ds ++ es) := fun H0 M0 H M fps σ Q k q =>
  ha H0 M0 H M fps σ _ k fun x H1 M1 x1 dx => hb H0 M0 H1 M1 fps σ _ (k.ext x1) fun y H2 M2 x2 dy => by
    obtain ⟨a, xs, rfl, h1, h2⟩ := dq_lstI (Dq.same x2.m dx)
    obtain ⟨b, ys, rfl, h3, h4⟩ := dq_lstI dy
    have x12 := x1.trans x2
    refine ⟨a, b, xs, ys, rfl, rfl, x2.s _ _ h1, x2.s _ _ h3, by rw [DqAll.len h2, DqAll.len h4]; exact hl, fun p hp => ?_⟩
    have mp := none_of x2.s hp
    refine q p _ _ M2 ⟨fun a u e => ?_, x12.m, fun a u e => ?_, x12.n⟩ (none_of x12.h hp) mp upd_same (DqAll.app h2 h4)
    · have e' := x12.h a u e
      rw [upd_ne (fun z => by rw [z, hp] at e'; cases e')]; exact e'
    · rw [upd_ne (fun z => by rw [z, mp] at e; cases e)]; exact x12.s a u e
/-- a new list goes to a name: it is the def's own -/
theorem s_seq_setF {i : Nat} {te : TE} {ds : List PyData} (he : Pf K te env ds) (h : Ps K R B C u (env.set i (ownL K ds)) N) (hi : i < env.length) : Ps K R B C (tSeq (tAsg te (gName i)) u) env N := fun H0 M0 D σ H M fps k r n b c =>
  he H0 M0 H M fps σ _ k fun p vs H1 M1 x1 h1 h2 h3 h4 => by
    have nf : ∀ a ∈ fps.flatten, a ≠ p := fun a ha z => (k.own a ha).2.2 (by rw [z]; exact h1)
    refine h H0 M0 D _ _ M1 (fps.set i [p]) ?_ r n b c
    have k1 := k.ext x1
    have z1 : ∀ a ∈ (fps.set i [p]).flatten, a = p ∨ a ∈ fps.flatten := fun a ha => (flat_memP ha).imp id flat_set
    have z2 := flat_ndP (p := p) (i := i) k.nd nf
    exact ⟨k1.base, k1.sub, k1.grow, k1.new, SlsOk.set (s := ownL K ds) (o := some (.ref p)) (fp := [p]) ⟨.ref p, rfl, p, vs, rfl, rfl, h3, h4⟩ i k1.sls, z2, fun a ha => (z1 a ha).elim (fun e => by rw [e]; exact ⟨none_of k.base h1, h2, by rw [h3]; exact fun z => by cases z⟩) (k1.own a), stab_set stab_own k1.stab⟩
theorem s_seq_new0 {i : Nat} (hi : i < env.length) (h : Ps K R B C u (env.set i (ownL K [])) N) : Ps K R B C (tSeq (tAsg (tLst tNil) (gName i)) u) env N :=
  s_seq_setF (f_lst a_nil (by decide)) h hi
theorem s_seq_callF {i : Nat} {Rl : List PyData → List PyData → Prop} {E : XK} {ta : TA} {ds es : List PyData} (ha : Pa K ta env ds) (hr : Rl ds es) (hi : i < env.length) (h : Ps K R B C u (env.set i (ownL K es)) N) : Ps K R B C (tSeq (tAsg (tCall (PFO K Rl) [] E ta) (gName i)) u) env N :=
  s_seq_setF (f_call ha hr) h hi
/-- data without lists in it -/
inductive Fl : PyData → Prop
  | non : Fl .none
  | bl (b : Bool) : Fl (.bool b)
  | int (i : Int) : Fl (.int i)
  | str (x : Str) : Fl (.str x)
  | tup {ds : List PyData} : (∀ d ∈ ds, Fl d) → Fl (.tuple ds)
mutual
theorem Dq.less {M M' : Hp} {p : Addr} {vs : List V} (hp : M p = some (.lst vs)) (h : ∀ a u, a ≠ p → M a = some u → M' a = some u) : ∀ {v : V} {d : PyData}, Dq K M v d → Fl d → Dq K M' v d
  | _, _, .non, _ => .non
  | _, _, .bl b, _ => .bl b
  | _, _, .int i, _ => .int i
  | _, _, .str x, _ => .str x
  | _, _, .lst _ _, f => nomatch f
  | _, _, .dct _ _, f => nomatch f
  | _, _, .tup s a, f => .tup (by
      rcases s with (s | ⟨o, s⟩) | s
      · exact .inl (.inl (h _ _ (fun z => by rw [z, hp] at s; cases s) s))
      · exact .inl (.inr ⟨o, h _ _ (fun z => by rw [z, hp] at s; cases s) s⟩)
      · exact .inr s) (DqAll.less hp h a (match f with | .tup g => g))
theorem DqAll.less {M M' : Hp} {p : Addr} {vs : List V} (hp : M p = some (.lst vs)) (h : ∀ a u, a ≠ p → M a = some u → M' a = some u) : ∀ {vs : List V} {ds : List PyData}, DqAll K M vs ds → (∀ d ∈ ds, Fl d) → DqAll K M' vs ds
  | _, _, .nil, _ => .nil
  | _, _, .cons a b, f => .cons (Dq.less hp h a (f _ List.mem_cons_self)) (DqAll.less hp h b fun d hd => f d (List.mem_cons_of_mem _ hd))
end
open Classical in
/-- an own list is read: the expression is reckoned as if it were data -/
theorem e_read (i : Nat) {te : TE} {ds : List PyData} {d : PyData} (hi : env[i]? = some (ownL K ds)) (h : Pe K te (env.set i (.val (.list ds))) d) (f : Fl d) : Pe K te env d := fun H0 M0 H M fps σ Q k q => by
  obtain ⟨p, vs, e1, e2, e3, e4, e5, e6, k'⟩ := k.froz hi
  refine h H0 M0 H _ _ σ Q k' fun v H' M' x dv => ?_
  have hp' : M' p = some (.lst vs) := x.m _ _ upd_same
  refine q v H' (fun a => if a = p then none else M' a) ⟨x.h, fun a u e => ?_, fun a u e => ?_, fun a u e => ?_⟩ (Dq.less hp' (fun a u n e => by show (if a = p then none else M' a) = _; rw [if_neg n]; exact e) dv f)
  · have n : a ≠ p := fun z => by rw [z, e3] at e; cases e
    show (if a = p then none else M' a) = _
    rw [if_neg n]; exact x.m a u (by rw [upd_ne n]; exact e)
  · by_cases c : a = p
    · rw [if_pos c] at e; cases e
    · rw [if_neg c] at e; exact x.s a u e
  · by_cases c : a = p
    · rw [if_pos c] at e; cases e
    · rw [if_neg c] at e
      rcases x.n a u e with g | g
      · rw [upd_ne c] at g; exact .inl g
      · exact .inr g
theorem t_read (i : Nat) {te : TT} {ds : List PyData} {b : Bool} (hi : env[i]? = some (ownL K ds)) (h : Pt K te (env.set i (.val (.list ds))) b) : Pt K te env b := fun H0 M0 H M fps σ Q k q => by
  obtain ⟨p, vs, e1, e2, e3, e4, e5, e6, k'⟩ := k.froz hi
  refine h H0 M0 H _ _ σ Q k' fun H' M' x => ?_
  refine q H' (fun a => if a = p then none else M' a) ⟨x.h, fun a u e => ?_, fun a u e => ?_, fun a u e => ?_⟩
  · have n : a ≠ p := fun z => by rw [z, e3] at e; cases e
    show (if a = p then none else M' a) = _
    rw [if_neg n]; exact x.m a u (by rw [upd_ne n]; exact e)
  · by_cases c : a = p
    · rw [if_pos c] at e; cases e
    · rw [if_neg c] at e; exact x.s a u e
  · by_cases c : a = p
    · rw [if_pos c] at e; cases e
    · rw [if_neg c] at e
      rcases x.n a u e with g | g
      · rw [upd_ne c] at g; exact .inl g
      · exact .inr g
end
end Y

/-! ### targets, walks, loops, comprehensions, slices -/
namespace Y
open PySem L2
section
variable {K : PySem.W.Frag} {H0 M0 H M H' M' : Hp} {env : List Sl} {fps : List (List Addr)} {σ : L2.St}
/-- the view as the new start -/
theorem Ok.re (k : Ok K H0 M0 env fps σ H M) : Ok K H0 M env fps σ H M := ⟨k.base, k.sub, Same.refl M, fun _ _ e => .inl e, k.sls, k.nd, k.own, k.stab⟩
theorem Ok.back {M1 : Hp} {env1 : List Sl} {fps1 : List (List Addr)} {σ1 : L2.St} {H1 : Hp} (k : Ok K H0 M0 env fps σ H M) (k1 : Ok K H0 M env1 fps1 σ1 H1 M1) : Ok K H0 M0 env1 fps1 σ1 H1 M1 :=
  ⟨k1.base, k1.sub, k.grow.trans k1.grow, fun a o e => (k1.new a o e).elim (k.new a o) .inr, k1.sls, k1.nd, k1.own, k1.stab⟩
theorem RtOk.re {rt : VK} {R : Rt} (k : Ok K H0 M0 env fps σ H M) (r : RtOk K H0 M0 rt R) : RtOk K H0 M rt R := by
  cases R with
  | dat R => exact fun v d H' M' hR x dv => r v d H' M' hR ⟨x.h, k.grow.trans x.m, x.s, fun a o e => (x.n a o e).elim (k.new a o) .inr⟩ dv
  | lst R => exact fun p vs ds H' M' hR x => r p vs ds H' M' hR ⟨x.h, k.grow.trans x.m, x.s, fun a o e => (x.n a o e).elim (k.new a o) .inr⟩
/-- a thing beside: neither in the view nor owned -/
theorem Ok.side {p : Addr} {o : HO} (k : Ok K H0 M0 env fps σ H M) (h0 : H0 p = none) (hm : M p = none) (hf : p ∉ fps.flatten) : Ok K H0 M0 env fps σ (upd H p o) M := by
  have ne : ∀ a ∈ fps.flatten, a ≠ p := fun a ha z => hf (by rw [← z]; exact ha)
  refine ⟨fun a u e => ?_, fun a u e => ?_, k.grow, k.new, SlsOk.mono (Same.refl M) k.stab (fun a ha => upd_ne (ne a ha)) k.sls, k.nd, fun a ha => ?_, k.stab⟩
  · rw [upd_ne (fun z => by rw [z, h0] at e; cases e)]; exact k.base a u e
  · rw [upd_ne (fun z => by rw [z, hm] at e; cases e)]; exact k.sub a u e
  · obtain ⟨f1, f2, f3⟩ := k.own a ha
    exact ⟨f1, f2, by rw [upd_ne (ne a ha)]; exact f3⟩
end
/-! targets -/
def Pg (K : PySem.W.Frag) (g : TG) (env : List Sl) (d : PyData) (env' : List Sl) (is : List Nat) : Prop := ∀ (H0 M0 H M : Hp) (fps : List (List Addr)) (σ : L2.St) (v : V) (Q : L2.St → Hp → Prop), Ok K H0 M0 env fps σ H M → Dq K M v d →
  (∀ σ' fps', Ok K H0 M0 env' fps' σ' H M → (∀ j, j ∉ is → σ'[j]? = σ[j]?) → σ'.length = σ.length → (∀ a ∈ fps'.flatten, a ∈ fps.flatten) → Q σ' H) → g v σ H Q
def Pgs (K : PySem.W.Frag) (g : TGs) (env : List Sl) (ds : List PyData) (env' : List Sl) (is : List Nat) : Prop := ∀ (H0 M0 H M : Hp) (fps : List (List Addr)) (σ : L2.St) (vs : List V) (Q : L2.St → Hp → Prop), Ok K H0 M0 env fps σ H M → DqAll K M vs ds →
  (∀ σ' fps', Ok K H0 M0 env' fps' σ' H M → (∀ j, j ∉ is → σ'[j]? = σ[j]?) → σ'.length = σ.length → (∀ a ∈ fps'.flatten, a ∈ fps.flatten) → Q σ' H) → g vs σ H Q
section
variable {K : PySem.W.Frag} {env : List Sl}
theorem g_name {i : Nat} {d : PyData} : Pg K (gName i) env d (env.set i (.val d)) [i] := fun H0 M0 H M fps σ v Q k hv q =>
  q _ _ (k.setV hv) (fun j hj => List.getElem?_set_ne (fun e => hj (by rw [e]; exact List.mem_singleton.mpr rfl))) List.length_set (fun a ha => flat_set ha)
theorem gs_nil : Pgs K gNil env [] env [] := fun H0 M0 H M fps σ vs Q k hv q => ⟨dqA_nil hv, q σ fps k (fun _ _ => rfl) rfl (fun _ h => h)⟩
theorem gs_cons {g : TG} {gs : TGs} {d : PyData} {ds : List PyData} {env1 env2 : List Sl} {is1 is2 : List Nat} (h1 : Pg K g env d env1 is1) (h2 : Pgs K gs env1 ds env2 is2) : Pgs K (gCons g gs) env (d :: ds) env2 (is1 ++ is2) := fun H0 M0 H M fps σ vs Q k hv q => by
  cases hv with | cons a b =>
  refine ⟨_, _, rfl, h1 H0 M0 H M fps σ _ _ k a fun σ1 fps1 k1 e1 l1 f1 => h2 H0 M0 H M fps1 σ1 _ _ k1 b fun σ2 fps2 k2 e2 l2 f2 => q σ2 fps2 k2 (fun j hj => ?_) (l2.trans l1) fun a ha => f1 a (f2 a ha)⟩
  rw [List.mem_append, not_or] at hj
  exact (e2 j hj.2).trans (e1 j hj.1)
theorem g_tup {n : Nat} {gs : TGs} {ds : List PyData} {env' : List Sl} {is : List Nat} (h : Pgs K gs env ds env' is) (hn : ds.length = n) : Pg K (gTup K n gs) env (.tuple ds) env' is := fun H0 M0 H M fps σ v Q k hv q => by
  obtain ⟨a, xs, rfl, h1, h2⟩ := dq_tupI hv
  exact ⟨a, xs, rfl, Same.sqT k.sub h1, by rw [DqAll.len h2]; exact hn, h H0 M0 H M fps σ xs Q k h2 q⟩
/-- target = e -/
theorem s_asg {R : Rt} {B C N : EnvP} {te : TE} {g : TG} {d : PyData} {env' : List Sl} {is : List Nat} (he : Pe K te env d) (hg : Pg K g env d env' is) (h : N env') : Ps K R B C (tAsg te g) env N := fun H0 M0 D σ H M fps k r n b c =>
  he H0 M0 H M fps σ _ k fun v H1 M1 x1 dv => hg H0 M0 H1 M1 fps σ v _ (k.ext x1) dv fun σ' fps' k' _ _ _ => n _ _ _ _ _ h k'
theorem s_seq_asg {R : Rt} {B C N : EnvP} {u : TS} {te : TE} {g : TG} {d : PyData} {env' : List Sl} {is : List Nat} (he : Pe K te env d) (hg : Pg K g env d env' is) (h : Ps K R B C u env' N) : Ps K R B C (tSeq (tAsg te g) u) env N := fun H0 M0 D σ H M fps k r n b c =>
  he H0 M0 H M fps σ _ k fun v H1 M1 x1 dv => hg H0 M0 H1 M1 fps σ v _ (k.ext x1) dv fun σ' fps' k' _ _ _ => h H0 M0 D _ _ _ _ k' r n b c
end
/-! walks -/
def Wk (K : PySem.W.Frag) (J : It) (ys : List PyData) (M0 : Hp) : Prop := ∃ (G : Hp → Prop) (Y : Nat → Hp → V → Hp → Prop), Walk J ys.length G Y ∧ (∀ H M, Same M0 M → Same M H → G H) ∧
  ∀ i H M x H', i < ys.length → Same M0 M → Same M H → Y i H x H' → ∃ M' d, Ext H M H' M' ∧ ys[i]? = some d ∧ Dq K M' x d
def Pw (K : PySem.W.Frag) (wi : TI) (env : List Sl) (ys : List PyData) : Prop := ∀ (H0 M0 H M : Hp) (fps : List (List Addr)) (σ : L2.St) (Q : It → Hp → Prop), Ok K H0 M0 env fps σ H M →
  (∀ J H' M', Ext H M H' M' → Wk K J ys M' → Q J H') → wi σ H Q
section
variable {K : PySem.W.Frag} {env : List Sl}
theorem w_list {te : TE} {ds : List PyData} (he : Pe K te env (.list ds)) : Pw K (iList K te) env ds := fun H0 M0 H M fps σ Q k q => by
  refine he H0 M0 H M fps σ _ k fun v H1 M1 x1 dv => ?_
  obtain ⟨a, xs, rfl, h1, h2⟩ := dq_lstI dv
  refine ⟨a, rfl, ⟨xs, SqL.of (x1.s _ _ h1)⟩, q _ _ M1 x1 ⟨_, _, by rw [← DqAll.len h2]; exact walk_list (xs := xs), fun H M a b => SqL.of (b _ _ (a _ _ h1)), ?_⟩⟩
  rintro i H M x H' hi a b ⟨rfl, hx⟩
  obtain ⟨d, e1, e2⟩ := DqAll.getV h2 hx
  exact ⟨M, d, Ext.refl b, e1, Dq.same a e2⟩
theorem w_tup {te : TE} {ds : List PyData} (he : Pe K te env (.tuple ds)) : Pw K (iTup K te) env ds := fun H0 M0 H M fps σ Q k q => by
  refine he H0 M0 H M fps σ _ k fun v H1 M1 x1 dv => ?_
  obtain ⟨a, xs, rfl, h1, h2⟩ := dq_tupI dv
  refine ⟨a, rfl, ⟨xs, Same.sqT x1.s h1⟩, q _ _ M1 x1 ⟨_, _, by rw [← DqAll.len h2]; exact walk_tup (xs := xs), fun H M a b => Same.sqT b (Same.sqT a h1), ?_⟩⟩
  rintro i H M x H' hi a b ⟨rfl, hx⟩
  obtain ⟨d, e1, e2⟩ := DqAll.getV h2 hx
  exact ⟨M, d, Ext.refl b, e1, Dq.same a e2⟩

abbrev encS (c : Nat) : PyData := .str ⟨#[c]⟩
theorem w_str {te : TE} {z : Str} (he : Pe K te env (.str z)) : Pw K (iStr te) env (z.cps.toList.map encS) := fun H0 M0 H M fps σ Q k q => by
  refine he H0 M0 H M fps σ _ k fun v H1 M1 x1 dv => ?_
  rw [dq_str dv]
  refine ⟨z, rfl, q _ _ M1 x1 ⟨_, _, by rw [List.length_map, Array.length_toList]; exact walk_str (z := z), fun _ _ _ _ => True.intro, ?_⟩⟩
  rintro i H M x H' hi a b ⟨rfl, c, e1, rfl⟩
  refine ⟨M, .str ⟨#[c]⟩, Ext.refl b, ?_, .str _⟩
  rw [List.getElem?_map, Array.getElem?_toList, e1]; rfl
abbrev encR (lo : Int) (i : Nat) : PyData := .int (lo + (i : Nat))
abbrev intsD (lo : Int) (n : Nat) : List PyData := (List.range n).map (encR lo)
theorem ints_len (lo : Int) (n : Nat) : (intsD lo n).length = n := by unfold intsD; rw [List.length_map, List.length_range]
theorem wk_range {lo : Int} {n : Nat} {M0 : Hp} : Wk K (Itr lo n) (intsD lo n) M0 := by
  refine ⟨_, _, by rw [ints_len]; exact walk_range, fun _ _ _ _ => True.intro, ?_⟩
  rintro i H M x H' hi a b ⟨rfl, rfl⟩
  rw [ints_len] at hi
  refine ⟨M, .int (lo + (i : Nat)), Ext.refl b, ?_, .int _⟩
  unfold intsD
  rw [List.getElem?_map, List.getElem?_range hi]; rfl
theorem w_range1 {ta : TA} {j : Int} (ha : Pa K ta env [.int j]) (h1 : -(2 ^ 62) ≤ j) (h2 : j < 2 ^ 62) : Pw K (iRng1 ta) env (intsD 0 j.toNat) := fun H0 M0 H M fps σ Q k q => by
  refine ha H0 M0 H M fps σ _ k fun vs H1 M1 x1 dv => ?_
  obtain ⟨v, rfl, h⟩ := dqA_one dv
  rw [dq_int h]
  exact ⟨j, rfl, h1, h2, q _ _ M1 x1 wk_range⟩
theorem w_range2 {ta : TA} {i j : Int} (ha : Pa K ta env [.int i, .int j]) (h1 : -(2 ^ 62) ≤ i) (h2 : i < 2 ^ 62) (h3 : -(2 ^ 62) ≤ j) (h4 : j < 2 ^ 62) : Pw K (iRng2 ta) env (intsD i (j - i).toNat) := fun H0 M0 H M fps σ Q k q => by
  refine ha H0 M0 H M fps σ _ k fun vs H1 M1 x1 dv => ?_
  obtain ⟨v, w, rfl, h, h'⟩ := dqA_two dv
  rw [dq_int h, dq_int h']
  exact ⟨i, j, rfl, ⟨h1, h2, h3, h4⟩, q _ _ M1 x1 wk_range⟩
/-- a new pair in each turn -/
theorem wk_pair {J : It} {n : Nat} {G : Hp → Prop} {xs ys : Nat → Option V} {ds : List PyData} {M0 : Hp} (w : Walk J n G (YPair xs ys)) (hn : ds.length = n) (hG : ∀ H M, Same M0 M → Same M H → G H)
    (h : ∀ i x y, xs i = some x → ys i = some y → ∃ d e, ds[i]? = some (.tuple [d, e]) ∧ Dq K M0 x d ∧ Dq K M0 y e) : Wk K J ds M0 := by
  refine ⟨G, _, by rw [hn]; exact w, hG, ?_⟩
  rintro i H M x H' hi a b ⟨T, u, v, rfl, hT, rfl, e1, e2⟩
  obtain ⟨d, e, h1, h2, h3⟩ := h i u v e1 e2
  have x1 := Ext.laid b (o := .tup [u, v]) hT
  exact ⟨_, _, x1, h1, .tup (SqT.of upd_same) (.cons (Dq.same (a.trans x1.m) h2) (.cons (Dq.same (a.trans x1.m) h3) .nil))⟩
def enums (ds : List PyData) : List PyData := (List.range ds.length).zipWith (fun i d => .tuple [.int (i : Nat), d]) ds
theorem enums_len (ds : List PyData) : (enums ds).length = ds.length := by unfold enums; simp
theorem enums_get {ds : List PyData} {i : Nat} {d : PyData} (h : ds[i]? = some d) : (enums ds)[i]? = some (.tuple [.int (i : Nat), d]) := by
  have hi : i < ds.length := (List.getElem?_eq_some_iff.mp h).1
  unfold enums
  rw [List.getElem?_zipWith, List.getElem?_range hi, h]
theorem w_enum {ta : TA} {ds : List PyData} (ha : Pa K ta env [.list ds]) : Pw K (iEnum K ta) env (enums ds) := fun H0 M0 H M fps σ Q k q => by
  refine ha H0 M0 H M fps σ _ k fun vs H1 M1 x1 dv => ?_
  obtain ⟨v, rfl, h⟩ := dqA_one dv
  obtain ⟨a, xs, rfl, h1, h2⟩ := dq_lstI h
  refine ⟨a, xs, rfl, SqL.of (x1.s _ _ h1), q _ _ M1 x1 (wk_pair (walk_enum (xs := xs)) (by rw [enums_len, DqAll.len h2]) (fun H M a b => SqL.of (b _ _ (a _ _ h1))) ?_)⟩
  intro i x y e1 e2
  obtain ⟨d, f1, f2⟩ := DqAll.getV h2 e2
  rw [← Option.some.inj e1]
  exact ⟨_, d, enums_get f1, .int _, f2⟩
def zips (ds es : List PyData) : List PyData := ds.zipWith (fun d e => .tuple [d, e]) es
theorem zips_get {ds es : List PyData} {i : Nat} {d e : PyData} (h : ds[i]? = some d) (h2 : es[i]? = some e) : (zips ds es)[i]? = some (.tuple [d, e]) := by
  unfold zips
  rw [List.getElem?_zipWith, h, h2]
theorem w_zip {ta : TA} {ds es : List PyData} (ha : Pa K ta env [.list ds, .list es]) : Pw K (iZip K ta) env (zips ds es) := fun H0 M0 H M fps σ Q k q => by
  refine ha H0 M0 H M fps σ _ k fun vs H1 M1 x1 dv => ?_
  obtain ⟨v, w, rfl, h, h'⟩ := dqA_two dv
  obtain ⟨a, xs, rfl, h1, h2⟩ := dq_lstI h
  obtain ⟨b, ys, rfl, h3, h4⟩ := dq_lstI h'
  refine ⟨a, b, xs, ys, rfl, SqL.of (x1.s _ _ h1), SqL.of (x1.s _ _ h3), q _ _ M1 x1 (wk_pair (walk_zip (xs := xs) (ys := ys) rfl) (by unfold zips; rw [List.length_zipWith, DqAll.len h2, DqAll.len h4]) (fun H M a b => ⟨SqL.of (b _ _ (a _ _ h1)), SqL.of (b _ _ (a _ _ h3))⟩) ?_)⟩
  intro i x y e1 e2
  obtain ⟨d, f1, f2⟩ := DqAll.getV h2 e1
  obtain ⟨e, f3, f4⟩ := DqAll.getV h4 e2
  exact ⟨d, e, zips_get f1 f3, f2, f4⟩
end
/-! loops -/
section
variable {K : PySem.W.Frag} {R : Rt} {B C N : EnvP} {env : List Sl}
theorem s_for {wi : TI} {g : TG} {tb : TS} {α : Type} {xs : List α} {enc : α → PyData} (I : Nat → EnvP) (BP : EnvP) (hw : Pw K wi env (xs.map enc)) (h0 : I 0 env)
    (hs : ∀ (i : Nat) (a : α) (env1 : List Sl), xs[i]? = some a → I i env1 → ∃ (env2 : List Sl) (is : List Nat), Pg K g env1 (enc a) env2 is ∧ Ps K R BP (I (i + 1)) tb env2 (I (i + 1))) (hd : ∀ e, I xs.length e → N e) (hb : ∀ e, BP e → N e) : Ps K R B C (tFor wi g tb) env N := fun H0 M0 D σ H M fps k r n b c => by
  refine hw H0 M0 H M fps σ _ k fun J H1 M1 x1 ⟨G, Y, w, hG, hY⟩ => ?_
  rw [List.length_map] at w hY
  have k1 := k.ext x1
  have r1 := r.re k1
  refine for_it w (fun i σ H => ∃ e f M2, I i e ∧ Ok K H0 M1 e f σ H M2) ⟨env, fps, M1, h0, k1.re⟩ ?_ ?_ ?_
  · rintro i σ H hi ⟨e, f, M2, _, k2⟩
    exact hG H M2 k2.grow k2.sub
  · rintro i x σ2 H2 H3 hi ⟨e, f, M2, hI, k2⟩ y
    obtain ⟨M3, d, x3, hd', dv⟩ := hY i H2 M2 x H3 hi k2.grow k2.sub y
    rw [List.getElem?_map] at hd'
    cases ca : xs[i]? with
    | none => rw [ca] at hd'; cases hd'
    | some a =>
    rw [ca] at hd'
    have ed : enc a = d := Option.some.inj hd'
    subst ed
    obtain ⟨env2, is, hg, hbody⟩ := hs i a e ca hI
    refine hg H0 M1 H3 M3 f σ2 x _ (k2.ext x3) dv fun σ4 f4 k4 _ _ _ => ?_
    refine hbody H0 M1 _ σ4 H3 M3 f4 k4 r1 ?_ ?_ ?_
    · exact fun e5 σ5 H5 M5 f5 he5 k5 => ⟨e5, f5, M5, he5, k5⟩
    · exact fun e5 σ5 H5 M5 f5 he5 k5 => n e5 σ5 H5 M5 f5 (hb e5 he5) (k1.back k5)
    · exact fun e5 σ5 H5 M5 f5 he5 k5 => ⟨e5, f5, M5, he5, k5⟩
  · rintro σ2 H2 ⟨e, f, M2, hI, k2⟩
    exact n e σ2 H2 M2 f (hd e hI) (k1.back k2)
theorem s_seq_for {wi : TI} {g : TG} {tb u : TS} {α : Type} {xs : List α} {enc : α → PyData} (I : Nat → EnvP) (BP : EnvP) (hw : Pw K wi env (xs.map enc)) (h0 : I 0 env)
    (hs : ∀ (i : Nat) (a : α) (env1 : List Sl), xs[i]? = some a → I i env1 → ∃ (env2 : List Sl) (is : List Nat), Pg K g env1 (enc a) env2 is ∧ Ps K R BP (I (i + 1)) tb env2 (I (i + 1))) (hd : ∀ e, I xs.length e → Ps K R B C u e N) (hb : ∀ e, BP e → Ps K R B C u e N) : Ps K R B C (tSeq (tFor wi g tb) u) env N :=
  s_mid (fun e => I xs.length e ∨ BP e) (s_for I BP hw h0 hs (fun _ h => .inl h) (fun _ h => .inr h)) fun e h => h.elim (hd e) (hb e)
theorem s_while {c : TT} {tb : TS} (I : Nat → EnvP) (m : Nat) (h0 : I m env)
    (hs : ∀ m e, I m e → ∃ b, Pt K c e b ∧ (b = true → Ps K R N (fun e => ∃ m', m' < m ∧ I m' e) tb e (fun e => ∃ m', m' < m ∧ I m' e)) ∧ (b = false → N e)) : Ps K R B C (tWhile c tb) env N := fun H0 M0 D σ H M fps k r n b c => by
  refine ⟨fun m σ H => ∃ e f M1, I m e ∧ Ok K H0 M0 e f σ H M1, ⟨m, env, fps, M, h0, k⟩, ?_⟩
  rintro m σ H ⟨e, f, M1, hI, k1⟩
  obtain ⟨b', hc, ht, hf⟩ := hs m e hI
  refine hc H0 M0 H M1 f σ _ k1 fun H2 M2 x2 => ?_
  cases b' with
  | true =>
    rw [if_pos rfl]
    refine ⟨fun σ H => ∃ m', m' < m ∧ ∃ e f M1, I m' e ∧ Ok K H0 M0 e f σ H M1, fun _ _ h => h, ht rfl H0 M0 _ σ H2 M2 f (k1.ext x2) r ?_ ?_ ?_⟩
    · exact fun e5 σ5 H5 M5 f5 ⟨m', hm, hI'⟩ k5 => ⟨m', hm, e5, f5, M5, hI', k5⟩
    · exact fun e5 σ5 H5 M5 f5 he5 k5 => n e5 σ5 H5 M5 f5 he5 k5
    · exact fun e5 σ5 H5 M5 f5 ⟨m', hm, hI'⟩ k5 => ⟨m', hm, e5, f5, M5, hI', k5⟩
  | false =>
    rw [if_neg Bool.false_ne_true]
    exact n e σ H2 M2 f (hf rfl) (k1.ext x2)
end
/-! comprehensions -/
def wipeE (env : List Sl) : List Nat → List Sl
  | [] => env
  | v :: vs => (wipeE env vs).set v .unk
section
variable {K : PySem.W.Frag} {H0 M0 H M : Hp} {env : List Sl} {fps : List (List Addr)} {σ : L2.St}
theorem Ok.wiped (k : Ok K H0 M0 env fps σ H M) : ∀ vs : List Nat, ∃ f, Ok K H0 M0 (wipeE env vs) f (wipe σ vs) H M ∧ ∀ a ∈ f.flatten, a ∈ fps.flatten
  | [] => ⟨fps, k, fun _ h => h⟩
  | v :: vs => by
    obtain ⟨f, h, hf⟩ := Ok.wiped k vs
    exact ⟨_, h.setU, fun a ha => hf a (flat_set ha)⟩
theorem wipe_get : ∀ (vs : List Nat) (σ : L2.St) (j : Nat), (wipe σ vs)[j]? = if j ∈ vs then (σ[j]?).map fun _ => none else σ[j]?
  | [], σ, j => by simp [wipe]
  | v :: vs, σ, j => by
    show ((wipe σ vs).set v none)[j]? = _
    rw [List.getElem?_set]
    have ih := wipe_get vs σ j
    by_cases c : v = j
    · subst c
      rw [if_pos rfl, if_pos List.mem_cons_self]
      have hl : (wipe σ vs).length = σ.length := by
        have : ∀ vs : List Nat, (wipe σ vs).length = σ.length := by
          intro vs
          induction vs with
          | nil => rfl
          | cons v vs ih => show ((wipe σ vs).set v none).length = _; rw [List.length_set, ih]
        exact this vs
      by_cases d : v < σ.length
      · rw [if_pos (by rw [hl]; exact d), List.getElem?_eq_getElem d]; rfl
      · rw [if_neg (by rw [hl]; exact d), List.getElem?_eq_none (by omega)]; rfl
    · rw [if_neg c, ih]
      by_cases d : j ∈ vs
      · rw [if_pos d, if_pos (List.mem_cons_of_mem _ d)]
      · rw [if_neg d, if_neg (fun z => (List.mem_cons.mp z).elim (fun e => c e.symm) d)]
theorem wipe_eq {vs is : List Nat} {σ' : L2.St} (h : ∀ j, j ∉ is → σ'[j]? = (wipe σ vs)[j]?) (hl : σ'.length = (wipe σ vs).length) (hi : ∀ j ∈ is, j ∈ vs) : wipe σ' vs = wipe σ vs := by
  refine List.ext_getElem? fun j => ?_
  rw [wipe_get]
  by_cases c : j ∈ vs
  · rw [if_pos c]
    have e1 : (wipe σ vs)[j]? = if j ∈ vs then (σ[j]?).map fun _ => none else σ[j]? := wipe_get vs σ j
    have e3 : j < σ'.length ↔ j < (wipe σ vs).length := by rw [hl]
    rw [e1, if_pos c]
    by_cases d : j < σ'.length
    · have d' := e3.mp d
      rw [List.getElem?_eq_getElem d]
      have e4 := List.getElem?_eq_getElem d'
      rw [e1, if_pos c] at e4
      cases q : σ[j]? with
      | none => rw [q] at e4; cases e4
      | some _ => rfl
    · rw [List.getElem?_eq_none (by omega)]
      have e4 : (wipe σ vs)[j]? = none := List.getElem?_eq_none (by omega)
      rw [e1, if_pos c] at e4
      rw [e4]; rfl
  · rw [if_neg c]
    exact h j fun z => c (hi j z)
end
section
variable {K : PySem.W.Frag} {env : List Sl}
theorem take_snoc {α : Type} {l : List α} {i : Nat} {x : α} (h : l[i]? = some x) : l.take (i + 1) = l.take i ++ [x] := by
  rw [List.take_add_one, h]; rfl
theorem mapget {α β : Type} {f : α → β} {l : List α} {i : Nat} {d : β} (h : (l.map f)[i]? = some d) : ∃ a, l[i]? = some a ∧ d = f a := by
  rw [List.getElem?_map] at h
  cases c : l[i]? with
  | none => rw [c] at h; cases h
  | some a => rw [c] at h; exact ⟨a, rfl, (Option.some.inj h).symm⟩
theorem e_lc {wi : TI} {g : TG} {tt : TT} {te : TE} {vs : List Nat} {α : Type} {xs : List α} {enc : α → PyData} (p : α → Bool) (f : α → PyData) (hw : Pw K wi env (xs.map enc))
    (hs : ∀ (i : Nat) (a : α), xs[i]? = some a → ∃ (env2 : List Sl) (is : List Nat), Pg K g (wipeE env vs) (enc a) env2 is ∧ (∀ j ∈ is, j ∈ vs) ∧ Pt K tt env2 (p a) ∧ (p a = true → Pe K te env2 (f a))) (hl : xs.length < sizeLine) : Pe K (tLc wi g tt te vs) env (.list ((xs.filter p).map f)) := fun H0 M0 H M fps σ Q k q => by
  refine hw H0 M0 H M fps σ _ k fun J H1 M1 x1 ⟨G, Y, w, hG, hY⟩ => ?_
  rw [List.length_map] at w hY
  have k1 := k.ext x1
  intro D hD
  have mD := none_of x1.s hD
  have zD := none_of k1.base hD
  obtain ⟨fw, kw, hfw⟩ := k1.wiped vs
  have nD : D ∉ fw.flatten := fun z => (kw.own D z).2.2 hD
  refine lc_it w (fun i H => ∃ M2 acc, Ext H1 M1 H M2 ∧ M2 D = none ∧ H D = some (.lst acc) ∧ DqAll K M2 acc (((xs.take i).filter p).map f) ∧ Ok K H0 M0 (wipeE env vs) fw (wipe σ vs) H M2) ?_ ?_ ?_ ?_
  · refine ⟨M1, [], ⟨fun a u e => ?_, Same.refl M1, fun a u e => ?_, fun _ _ e => .inl e⟩, mD, upd_same, .nil, kw.side zD mD nD⟩
    · rw [upd_ne (fun z => by rw [z, hD] at e; cases e)]; exact e
    · rw [upd_ne (fun z => by rw [z, mD] at e; cases e)]; exact x1.s a u e
  · rintro i H hi ⟨M2, acc, x2, _⟩
    exact hG H M2 x2.m x2.s
  · rintro i x H2 H3 hi ⟨M2, acc, x2, m2, h2, a2, k2⟩ y
    obtain ⟨M3, d, x3, hd', dv⟩ := hY i H2 M2 x H3 hi x2.m x2.s y
    obtain ⟨a, hda, rfl⟩ := mapget hd'
    clear hd'
    have hd' := hda
    obtain ⟨env2, is, hg, his, ht, he⟩ := hs i a hd'
    refine hg H0 M0 H3 M3 fw (wipe σ vs) x _ (k2.ext x3) dv fun σ4 f4 k4 e4 l4 ff4 => ⟨wipe_eq e4 l4 his, ?_⟩
    have out : ∀ {H' M'}, Ext H2 M2 H' M' → M' D = none := fun {H' M'} z => by
      cases c : M' D with
      | none => rfl
      | some u =>
        rcases z.n D u c with e | e
        · rw [m2] at e; cases e
        · rw [h2] at e; cases e
    refine ht H0 M0 H3 M3 f4 σ4 _ k4 fun H5 M5 x5 => ?_
    cases c : p a with
    | false =>
      rw [if_neg Bool.false_ne_true]
      have x35 := x3.trans x5
      refine ⟨M5, acc, x2.trans x35, out x35, x35.h _ _ h2, ?_, k2.ext x35⟩
      rw [take_snoc hd', List.filter_append, List.filter_cons_of_neg (by rw [c]; exact Bool.false_ne_true), List.filter_nil, List.append_nil]
      exact DqAll.same x35.m a2
    | true =>
      rw [if_pos rfl]
      refine he c H0 M0 H5 M5 f4 σ4 _ (k4.ext x5) fun y H6 M6 x6 dy => ?_
      have x36 := (x3.trans x5).trans x6
      have m6 := out x36
      have hlen : acc.length ≤ i := by
        rw [DqAll.len a2, List.length_map]
        exact Nat.le_trans (List.length_filter_le _ _) (List.length_take_le _ _)
      refine ⟨acc, x36.h _ _ h2, by omega, M6, acc ++ [y], ?_, m6, upd_same, ?_, ?_⟩
      · have z := x2.trans x36
        refine ⟨fun a u e => ?_, z.m, fun a u e => ?_, z.n⟩
        · rw [upd_ne (fun z => by rw [z, hD] at e; cases e)]; exact z.h a u e
        · rw [upd_ne (fun z => by rw [z, m6] at e; cases e)]; exact z.s a u e
      · rw [take_snoc hd', List.filter_append, List.filter_cons_of_pos c, List.filter_nil, List.map_append]
        exact DqAll.app (DqAll.same x36.m a2) (.cons dy .nil)
      · exact (k2.ext x36).side zD m6 nD
  · rintro H2 ⟨M2, acc, x2, m2, h2, a2, k2⟩
    rw [List.take_of_length_le (Nat.le_refl _)] at a2
    refine q _ H2 (upd M2 D (.lst acc)) (x1.trans ⟨x2.h, fun a u e => ?_, fun a u e => ?_, fun a u e => ?_⟩) (.lst upd_same (DqAll.same (fun a u e => ?_) a2))
    · rw [upd_ne (fun z => by rw [z, mD] at e; cases e)]; exact x2.m a u e
    · by_cases z : a = D
      · subst z; rw [upd_same] at e; rw [← Option.some.inj e]; exact h2
      · rw [upd_ne z] at e; exact x2.s a u e
    · by_cases z : a = D
      · subst z; exact .inr hD
      · rw [upd_ne z] at e; exact x2.n a u e
    · rw [upd_ne (fun z => by rw [z, m2] at e; cases e)]; exact e
/-- without a test, all of them -/
theorem e_map {wi : TI} {g : TG} {te : TE} {vs : List Nat} {α : Type} {xs : List α} {enc : α → PyData} (f : α → PyData) (hw : Pw K wi env (xs.map enc))
    (hs : ∀ (i : Nat) (a : α), xs[i]? = some a → ∃ (env2 : List Sl) (is : List Nat), Pg K g (wipeE env vs) (enc a) env2 is ∧ (∀ j ∈ is, j ∈ vs) ∧ Pe K te env2 (f a)) (hl : xs.length < sizeLine) : Pe K (tLc wi g tYes te vs) env (.list (xs.map f)) := by
  have h := e_lc (K := K) (env := env) (tt := tYes) (fun _ => true) f hw (fun i a ha => by
    obtain ⟨e, is, h1, h2, h3⟩ := hs i a ha
    exact ⟨e, is, h1, h2, (fun H0 M0 H M fps σ Q k q => q H M (Ext.refl k.sub)), fun _ => h3⟩) hl
  rw [List.filter_eq_self.mpr (fun _ _ => rfl)] at h
  exact h
/-! slices -/
def cutG {α : Type} (xs : List α) (lo hi : Option Int) : List α := (xs.drop (HT.sIx xs.length 0 lo)).take (HT.sIx xs.length xs.length hi - HT.sIx xs.length 0 lo)
def Psl (K : PySem.W.Frag) (t : TO) (env : List Sl) (o : Option Int) : Prop := ∀ (H0 M0 H M : Hp) (fps : List (List Addr)) (σ : L2.St) (Q : Option Int → Hp → Prop), Ok K H0 M0 env fps σ H M → (∀ H' M', Ext H M H' M' → Q o H') → t σ H Q
theorem p_no : Psl K tNoPart env none := fun H0 M0 H M fps σ Q k q => q H M (Ext.refl k.sub)
theorem p_at {te : TE} {i : Int} (h : Pe K te env (.int i)) : Psl K (tPart te) env (some i) := fun H0 M0 H M fps σ Q k q =>
  h H0 M0 H M fps σ _ k fun v H1 M1 x1 dv => ⟨i, dq_int dv, q H1 M1 x1⟩
def Psr (K : PySem.W.Frag) (r : V → Option Int → Option Int → Hp → VK → Prop) (d : PyData) (lo hi : Option Int) (c : PyData) : Prop := ∀ (H M : Hp) (x : V) (Q : VK), Same M H → Dq K M x d → (∀ v H' M', Ext H M H' M' → Dq K M' v c → Q v H') → r x lo hi H Q
theorem e_sl {r : V → Option Int → Option Int → Hp → VK → Prop} {te : TE} {tl th : TO} {d c : PyData} {lo hi : Option Int} (he : Pe K te env d) (hl : Psl K tl env lo) (hh : Psl K th env hi) (hr : Psr K r d lo hi c) : Pe K (tSl r te tl th) env c := fun H0 M0 H M fps σ Q k q =>
  he H0 M0 H M fps σ _ k fun x H1 M1 x1 dx => hl H0 M0 H1 M1 fps σ _ (k.ext x1) fun H2 M2 x2 => hh H0 M0 H2 M2 fps σ _ (k.ext (x1.trans x2)) fun H3 M3 x3 => hr H3 M3 x Q x3.s (Dq.same (x2.m.trans x3.m) dx) fun v H4 M4 x4 dv => q v H4 M4 (((x1.trans x2).trans x3).trans x4) dv
theorem dqA_cut {M : Hp} {vs : List V} {ds : List PyData} {lo hi : Option Int} (h : DqAll K M vs ds) : DqAll K M (cutV vs lo hi) (cutG ds lo hi) := by
  unfold cutV cutG
  rw [DqAll.len h]
  exact DqAll.take _ (DqAll.drop _ h)
theorem sl_L {ds : List PyData} {lo hi : Option Int} : Psr K (rSlL K) (.list ds) lo hi (.list (cutG ds lo hi)) := fun H M x Q s hx q => by
  obtain ⟨a, xs, rfl, h1, h2⟩ := dq_lstI hx
  exact ⟨a, xs, rfl, SqL.of (s _ _ h1), fun p hp => q _ _ _ (Ext.laid s hp) (.lst upd_same (DqAll.same (Ext.laid s hp).m (dqA_cut h2)))⟩
theorem sl_T {ds : List PyData} {lo hi : Option Int} : Psr K (rSlA K) (.tuple ds) lo hi (.tuple (cutG ds lo hi)) := fun H M x Q s hx q => by
  obtain ⟨a, xs, rfl, h1, h2⟩ := dq_tupI hx
  refine ⟨a, xs, rfl, Same.sqT s h1, fun ⟨e1, e2⟩ => ?_, fun _ p hp => q _ _ _ (Ext.laid s hp) (.tup (SqT.of upd_same) (DqAll.same (Ext.laid s hp).m (dqA_cut h2)))⟩
  have e : cutG ds lo hi = ds := by
    rw [DqAll.len h2] at e1 e2
    unfold cutG
    rw [e1, e2, List.drop_zero, Nat.sub_zero, List.take_of_length_le (Nat.le_refl _)]
  rw [e] at q
  exact q _ H M (Ext.refl s) (.tup h1 h2)
theorem sl_S {z : Str} {lo hi : Option Int} (hz : z.length ≤ sizeLine) : Psr K rSlS (.str z) lo hi (.str (cutS z lo hi)) := fun H M x Q s hx q => by
  rw [dq_str hx]
  exact ⟨z, rfl, hz, q _ H M (Ext.refl s) (.str _)⟩
end
/-! a def -/
theorem slots_ok {K : PySem.W.Frag} {M H : Hp} : ∀ {vs : List V} {ds : List PyData} (n : Nat), DqAll K M vs ds → SlsOk K M H (ds.map Sl.val ++ List.replicate n .unk) (vs.map some ++ List.replicate n none) ((ds.map fun _ => []) ++ List.replicate n [])
  | _, _, 0, .nil => .nil
  | _, _, n + 1, .nil => .cons (s := .unk) rfl (slots_ok n .nil)
  | _, _, n, .cons a b => .cons (s := .val _) ⟨rfl, _, rfl, a⟩ (slots_ok n b)
theorem stab_vals {ds : List PyData} {n : Nat} : ∀ s ∈ (ds.map Sl.val ++ List.replicate n .unk), Stab s := fun s hs => by
  rcases List.mem_append.mp hs with h | h
  · obtain ⟨d, _, rfl⟩ := List.mem_map.mp h; exact True.intro
  · rw [(List.mem_replicate.mp h).2]; exact True.intro
theorem flat_nil {α : Type} {ds : List α} {n : Nat} : ((ds.map fun _ => ([] : List Addr)) ++ List.replicate n []).flatten = [] := by
  rw [List.flatten_eq_nil_iff]
  intro l hl
  rcases List.mem_append.mp hl with h | h
  · obtain ⟨d, _, rfl⟩ := List.mem_map.mp h; rfl
  · exact (List.mem_replicate.mp h).2
/-- the start of a def's body: its slots hold the arguments' data -/
theorem Ok.start {K : PySem.W.Frag} {H M : Hp} {vs : List V} {ds : List PyData} (n : Nat) (s : Same M H) (h : DqAll K M vs ds) : Ok K H M (ds.map Sl.val ++ List.replicate n .unk) ((ds.map fun _ => []) ++ List.replicate n []) (vs.map some ++ List.replicate n none) H M :=
  ⟨Same.refl H, s, Same.refl M, fun _ _ e => .inl e, slots_ok n h, (by rw [flat_nil]; exact List.nodup_nil), (fun a ha => by rw [flat_nil] at ha; exact (nomatch ha)), stab_vals⟩
/-- a body is walked from told data to the promise -/
theorem run {K : PySem.W.Frag} {R : List PyData → PyData → Prop} {t : TS} {vs : List V} {H : Hp} {Q : VK} {E : XK} {N : List Str} (h : PF K R vs H Q E)
    (hb : ∀ ds d, R ds d → Ps K (.dat fun d' => d' = d) (fun _ => False) (fun _ => False) t (ds.map Sl.val ++ List.replicate (N.length - ds.length) .unk) (fun _ => d = .none)) : t { nx := fun _ H' => Q .non H', rt := Q } (L2.start N vs) H := by
  obtain ⟨M, ds, d, s, hv, hR, q⟩ := h
  unfold L2.start
  rw [DqAll.len hv]
  refine hb ds d hR H M _ _ H M _ (Ok.start _ s hv) (fun v d' H' M' e x dv => by rw [e] at dv; exact q v H' M' x dv) (fun env σ H' M' f e k => q _ H' M' k.out (by rw [e]; exact .non)) (fun _ _ _ _ _ z => z.elim) (fun _ _ _ _ _ z => z.elim)
theorem PF.len {K : PySem.W.Frag} {R : List PyData → PyData → Prop} {n : Nat} (h : ∀ ds d, R ds d → ds.length = n) : ∀ vs H Q E, PF K R vs H Q E → vs.length = n := fun vs H Q E ⟨M, ds, d, s, hv, hR, _⟩ => by rw [DqAll.len hv]; exact h ds d hR
/-- .. of a def that gives a new list -/
theorem runO {K : PySem.W.Frag} {R : List PyData → List PyData → Prop} {t : TS} {vs : List V} {H : Hp} {Q : VK} {E : XK} {N : List Str} {nx : L2.St → Hp → Prop} (h : PFO K R vs H Q E)
    (hb : ∀ ds d, R ds d → Ps K (.lst fun d' => d' = d) (fun _ => False) (fun _ => False) t (ds.map Sl.val ++ List.replicate (N.length - ds.length) .unk) (fun _ => False)) : t { nx := nx, rt := Q } (L2.start N vs) H := by
  obtain ⟨M, ds, d, s, hv, hR, q⟩ := h
  unfold L2.start
  rw [DqAll.len hv]
  refine hb ds d hR H M _ _ H M _ (Ok.start _ s hv) (fun p ws d' H' M' e x h1 h2 h3 h4 => by rw [e] at h4; exact q p ws H' M' x h1 h2 h3 h4) (fun _ _ _ _ _ z => z.elim) (fun _ _ _ _ _ z => z.elim) (fun _ _ _ _ _ z => z.elim)
theorem PFO.len {K : PySem.W.Frag} {R : List PyData → List PyData → Prop} {n : Nat} (h : ∀ ds d, R ds d → ds.length = n) : ∀ vs H Q E, PFO K R vs H Q E → vs.length = n := fun vs H Q E ⟨M, ds, d, s, hv, hR, _⟩ => by rw [DqAll.len hv]; exact h ds d hR
/-! the script: a list of ints that is read -/
def scr (K : PySem.W.Frag) (ns : List Int) : Sl := .res fun v M H fp => fp = [] ∧ ∃ a, v = .ref a ∧ SqL K M a (ns.map V.int)
theorem stab_scr {K : PySem.W.Frag} {ns : List Int} : Stab (scr K ns) := fun v M H M' H' fp m h ⟨e, a, e1, e2⟩ => ⟨e, a, e1, Same.sqL m e2⟩
/-- a promise of a def whose first argument is the script -/
def PFS (K : PySem.W.Frag) (R : List Int → List PyData → PyData → Prop) : Sp := fun vs H Q _ => ∃ M a ns ws ds d, vs = .ref a :: ws ∧ SqL K M a (ns.map V.int) ∧ Same M H ∧ DqAll K M ws ds ∧ R ns ds d ∧ ∀ v H' M', Ext H M H' M' → Dq K M' v d → Q v H'
theorem e_callS {K : PySem.W.Frag} {env : List Sl} {R : List Int → List PyData → PyData → Prop} {E : XK} {ta : TA} {i : Nat} {ns : List Int} {ds : List PyData} {d : PyData} (hi : env[i]? = some (scr K ns)) (ha : Pa K ta env ds) (hr : R ns ds d) : Pe K (tCall (PFS K R) [] E (tCons (tVar i) ta)) env d := fun H0 M0 H M fps σ Q k q => by
  obtain ⟨v, fp, e1, e2, e3, a, rfl, e4⟩ := k.sls.getR hi
  refine ⟨_, e1, ha H0 M0 H M fps σ _ k fun ws H1 M1 x1 dw => ⟨M1, a, ns, ws, ds, d, by rw [List.append_nil], Same.sqL x1.m e4, x1.s, dw, hr, fun v H2 M2 x2 dv => q v H2 M2 (x1.trans x2) dv⟩⟩
theorem runS {K : PySem.W.Frag} {R : List Int → List PyData → PyData → Prop} {t : TS} {vs : List V} {H : Hp} {Q : VK} {E : XK} {N : List Str} (h : PFS K R vs H Q E)
    (hb : ∀ ns ds d, R ns ds d → Ps K (.dat fun d' => d' = d) (fun _ => False) (fun _ => False) t (scr K ns :: (ds.map Sl.val ++ List.replicate (N.length - (ds.length + 1)) .unk)) (fun _ => d = .none)) : t { nx := fun _ H' => Q .non H', rt := Q } (L2.start N vs) H := by
  obtain ⟨M, a, ns, ws, ds, d, rfl, hS, s, hv, hR, q⟩ := h
  unfold L2.start
  rw [List.length_cons, DqAll.len hv]
  have k := Ok.start (N.length - (ds.length + 1)) s hv
  have k' : Ok K H M (scr K ns :: (ds.map Sl.val ++ List.replicate (N.length - (ds.length + 1)) .unk)) ([] :: ((ds.map fun _ => []) ++ List.replicate (N.length - (ds.length + 1)) [])) ((V.ref a :: ws).map some ++ List.replicate (N.length - (ds.length + 1)) none) H M :=
    ⟨k.base, k.sub, k.grow, k.new, .cons (s := scr K ns) ⟨.ref a, rfl, rfl, a, rfl, hS⟩ k.sls, (by rw [List.flatten_cons, List.nil_append]; exact k.nd), (fun b hb => k.own b (by rw [List.flatten_cons, List.nil_append] at hb; exact hb)), (fun s hs => (List.mem_cons.mp hs).elim (fun e => by rw [e]; exact stab_scr) (k.stab s))⟩
  refine hb ns ds d hR H M _ _ H M _ k' (fun v d' H' M' e x dv => by rw [e] at dv; exact q v H' M' x dv) (fun env σ H' M' f e k => q _ H' M' k.out (by rw [e]; exact .non)) (fun _ _ _ _ _ z => z.elim) (fun _ _ _ _ _ z => z.elim)
theorem PFS.len {K : PySem.W.Frag} {R : List Int → List PyData → PyData → Prop} {n : Nat} (h : ∀ ns ds d, R ns ds d → ds.length + 1 = n) : ∀ vs H Q E, PFS K R vs H Q E → vs.length = n := fun vs H Q E ⟨M, a, ns, ws, ds, d, e, hS, s, hv, hR, _⟩ => by rw [e, List.length_cons, DqAll.len hv]; exact h ns ds d hR
theorem e_scrLen {K : PySem.W.Frag} {env : List Sl} {i : Nat} {ns : List Int} (hi : env[i]? = some (scr K ns)) : Pe K (tCB (fun xs H Q => ∃ p ys, xs = [.ref p] ∧ (SqL K H p ys ∨ SqT K H p ys) ∧ Q (.int ys.length) H) (tCons (tVar i) tNil)) env (.int ns.length) := fun H0 M0 H M fps σ Q k q => by
  obtain ⟨v, fp, e1, e2, e3, a, rfl, e4⟩ := k.sls.getR hi
  refine ⟨.ref a, e1, a, _, rfl, .inl (Same.sqL k.sub e4), ?_⟩
  rw [List.length_map]
  exact q _ H M (Ext.refl k.sub) (.int _)
theorem e_scrIx {K : PySem.W.Frag} {env : List Sl} {i : Nat} {ns : List Int} {tb : TE} {j z : Int} (hi : env[i]? = some (scr K ns)) (hb : Pe K tb env (.int j)) (hz : atI ns j = some z) : Pe K (tOp (rIxL K) (tVar i) tb) env (.int z) := fun H0 M0 H M fps σ Q k q => by
  obtain ⟨v, fp, e1, e2, e3, a, rfl, e4⟩ := k.sls.getR hi
  refine ⟨.ref a, e1, hb H0 M0 H M fps σ _ k fun y H1 M1 x1 dy => ⟨a, _, j, .int z, rfl, dq_int dy, Same.sqL (x1.m.trans x1.s) e4, ?_, q _ H1 M1 x1 (.int _)⟩⟩
  unfold atI at hz ⊢
  rw [List.length_map]
  cases c : ixN ns.length j with
  | none => rw [c] at hz; cases hz
  | some n =>
    rw [c] at hz
    show (ns.map V.int)[n]? = _
    rw [List.getElem?_map, show ns[n]? = some z from hz]; rfl
theorem e_ownLen {K : PySem.W.Frag} {env : List Sl} {i : Nat} {ds : List PyData} (hi : env[i]? = some (ownL K ds)) : Pe K (tCB (fun xs H Q => ∃ p ys, xs = [.ref p] ∧ (SqL K H p ys ∨ SqT K H p ys) ∧ Q (.int ys.length) H) (tCons (tVar i) tNil)) env (.int ds.length) := fun H0 M0 H M fps σ Q k q => by
  obtain ⟨v, fp, e1, e2, p, vs, rfl, rfl, e3, e4⟩ := k.sls.getR hi
  refine ⟨.ref p, e1, p, vs, rfl, .inl (SqL.of e3), ?_⟩
  rw [DqAll.len e4]
  exact q _ H M (Ext.refl k.sub) (.int _)
theorem e_ownIx {K : PySem.W.Frag} {env : List Sl} {i : Nat} {ds : List PyData} {tb : TE} {j : Int} {d : PyData} (hi : env[i]? = some (ownL K ds)) (hb : Pe K tb env (.int j)) (hz : atI ds j = some d) : Pe K (tOp (rIxL K) (tVar i) tb) env d := fun H0 M0 H M fps σ Q k q => by
  obtain ⟨v, fp, e1, e2, p, vs, rfl, rfl, e3, e4⟩ := k.sls.getR hi
  refine ⟨.ref p, e1, hb H0 M0 H M fps σ _ k fun y H1 M1 x1 dy => ?_⟩
  obtain ⟨v, f1, f2⟩ := dq_at (DqAll.same x1.m e4) hz
  exact ⟨p, vs, j, v, rfl, dq_int dy, SqL.of (x1.h _ _ e3), f1, q v H1 M1 x1 f2⟩
/-- the law's own promise -/
inductive RLaw (ns : List Int) : List PyData → PyData → Prop
  | mk (h : ns.length ≤ 63) : RLaw ns [] (.bool true)
theorem law_imp {K : PySem.W.Frag} {vs : List V} {H : Hp} {Q : VK} {E : XK} (h : ∃ (a : Addr) (ns : List Int), vs = [.ref a] ∧ SqL K H a (ns.map V.int) ∧ ns.length ≤ 63 ∧ ∀ H', Q (.bl true) H') : PFS K RLaw vs H Q E := by
  obtain ⟨a, ns, rfl, hS, hl, q⟩ := h
  exact ⟨H, a, ns, [], [], .bool true, rfl, hS, Same.refl H, .nil, ⟨hl⟩, fun v H' M' _ dv => by rw [dq_bool dv]; exact q H'⟩
end Y

/-! ### sorted(xs) of data that is told by any relation -/
namespace Y
open PySem L2
open PySem.W (EachIs AllAlike Sortable dataLe)
def rSortQ (K : PySem.W.Frag) : List V → Hp → VK → Prop := fun xs H Q => ∃ (l : Addr) (vs : List V) (ds : List PyData) (W : V → PyData → Prop), xs = [.ref l] ∧ SqL K H l vs ∧ (∀ x d, W x d → Dp K H x d) ∧ EachIs W vs ds ∧ AllAlike ds ∧ Sortable ds ∧ (∀ d ∈ ds, d.depth ≤ 20) ∧
  ∀ (p : Addr) (vs' : List V), H p = none → EachIs W vs' (ds.mergeSort (dataLe false id)) → Q (.ref p) (upd H p (.lst vs'))
section
variable {X : Cx} {pins : List (Addr × Obj)} {σ : L2.St} {H : Hp} {s : Shared} {W : V → PyData → Prop}
theorem eachq_of : ∀ {vs : List V} {us : List Value} {ds : List PyData}, Vals vs us → EachIs W vs ds → EachIs (fun u d => ∃ x, RelV x u ∧ W x d) us ds
  | _, _, _, .nil, .nil => .nil
  | _, _, _, .cons r t, .cons d e => .cons ⟨_, r, d⟩ (eachq_of t e)
theorem eachq_reads (I : Inv X pins σ H s) (hW : ∀ x d, W x d → Dp X.K H x d) : ∀ {us : List Value} {ds : List PyData}, EachIs (fun u d => ∃ x, RelV x u ∧ W x d) us ds → EachIs (fun u d => ∃ as, PySem.Reads s.heap u (id d) as) us ds
  | _, _, .nil => .nil
  | _, _, .cons h t => .cons (by obtain ⟨x, r, d⟩ := h; exact Dp.reads I _ _ _ (hW _ _ d) r) (eachq_reads I hW t)
theorem eachq_back : ∀ {us : List Value} {ds : List PyData}, EachIs (fun u d => ∃ x, RelV x u ∧ W x d) us ds → ∃ vs, Vals vs us ∧ EachIs W vs ds
  | _, _, .nil => ⟨[], .nil, .nil⟩
  | _, _, .cons h t => by
    obtain ⟨x, r, d⟩ := h
    obtain ⟨vs, h1, h2⟩ := eachq_back t
    exact ⟨x :: vs, .cons r h1, .cons d h2⟩
theorem eachq_len : ∀ {vs : List V} {ds : List PyData}, EachIs W vs ds → vs.length = ds.length
  | _, _, .nil => rfl
  | _, _, .cons _ t => by rw [List.length_cons, List.length_cons, eachq_len t]
theorem cr_sortQ (hu : X.A.units + 64 < cLine) : CallR X (.builtin "sorted") (rSortQ X.K) := by
  intro pins s σ H vs us Q I r h
  obtain ⟨a, xs, ds, W, rfl, hs, hW, hd, hal, hso, hdep, q⟩ := h
  obtain ⟨its, rv, hl, hz⟩ := I.list hs
  rw [Vals.ref1 r]
  have hlen : ds.length = xs.length := (eachq_len hd).symm
  have e := eachq_of rv hd
  refine PySem.W.sorted_data (R := fun u d => ∃ x, RelV x u ∧ W x d) (enc := id) (bs := ds) hl.isList e (eachq_reads I hW e) (by rw [List.map_id]; exact hal) (by rw [List.map_id]; exact hso) (by rw [hlen]; exact hz) (fun d hd => ?_) fun out h1 h2 => ?_
  · have := hdep d hd
    show _ + 2 + d.depth < _
    omega
  · obtain ⟨vs', k1, k2⟩ := eachq_back h2
    obtain ⟨ep, he'⟩ := PyProof.Rows.sortedAll_at s.heap its out.toArray
    have hl2 : vs'.length = xs.length := by rw [k1.length, h1, hlen]
    exact ⟨.ref _, upd H (s.heap.objs.size + 1) (.lst vs'), I.laid (t' := s.toks) (fun _ _ => PyProof.Rows.sortedAll_old) (Nat.le_succ _) ⟨by rw [hl2]; exact hz, out, ep, k1, he'⟩, rfl, q _ _ (I.hok.fresh (Nat.le_succ _)) k2⟩
end
theorem dqA_each {K : PySem.W.Frag} {M : Hp} : ∀ {vs : List V} {ds : List PyData}, DqAll K M vs ds → (∀ d ∈ ds, d.canLay0 = true) → EachIs (fun v d => Dq K M v d ∧ d.canLay0 = true) vs ds
  | _, _, .nil, _ => .nil
  | _, _, .cons a b, h => .cons ⟨a, h _ List.mem_cons_self⟩ (dqA_each b fun d hd => h d (List.mem_cons_of_mem _ hd))
theorem each_dqA {K : PySem.W.Frag} {M : Hp} : ∀ {vs : List V} {ds : List PyData}, EachIs (fun v d => Dq K M v d ∧ d.canLay0 = true) vs ds → DqAll K M vs ds
  | _, _, .nil => .nil
  | _, _, .cons a b => .cons a.1 (each_dqA b)
theorem c_sort {K : PySem.W.Frag} {ds es : List PyData} (he : ds.mergeSort (dataLe false id) = es) (hal : AllAlike ds) (hso : Sortable ds) (hdep : ∀ d ∈ ds, d.depth ≤ 20) (hcl : ∀ d ∈ ds, d.canLay0 = true) : Pc K (rSortQ K) [.list ds] (.list es) := fun H M vs Q s h0 q => by
  obtain ⟨v, rfl, h⟩ := dqA_one h0
  obtain ⟨a, xs, rfl, h1, h2⟩ := dq_lstI h
  refine ⟨a, xs, ds, fun v d => Dq K M v d ∧ d.canLay0 = true, rfl, SqL.of (s _ _ h1), fun x d hd => Dq.dp (Dq.same s hd.1) hd.2, dqA_each h2 hcl, hal, hso, hdep, fun p vs' hp hs => ?_⟩
  rw [he] at hs
  exact q _ _ _ (Ext.laid s hp) (.lst upd_same (DqAll.same (Ext.laid s hp).m (each_dqA hs)))
theorem sort_ints {ns : List Int} (h : ns.Pairwise (· ≤ ·)) : (ns.map PyData.int).mergeSort (dataLe false id) = ns.map PyData.int := by
  refine List.mergeSort_of_pairwise ?_
  rw [List.pairwise_map]
  refine h.imp fun {a b} hab => ?_
  have e := PySem.W.dataLe_int (β := Int) id
  have e2 := congrFun (congrFun e a) b
  show dataLe false id (PyData.int a) (PyData.int b) = true
  exact e2.trans (decide_eq_true hab)
theorem alike_intsD (ns : List Int) : AllAlike (ns.map PyData.int) := AllAlike.of fun _ _ => rfl
theorem sortable_intsD (ns : List Int) : Sortable (ns.map PyData.int) := Sortable.others fun b => ⟨fun z => (nomatch z), fun xs z => (nomatch z)⟩
theorem depth_intsD (ns : List Int) : ∀ d ∈ ns.map PyData.int, d.depth ≤ 20 := fun d hd => by
  obtain ⟨b, _, rfl⟩ := List.mem_map.mp hd
  simp [PyData.depth]
theorem c_sortI {K : PySem.W.Frag} {ns : List Int} (h : ns.Pairwise (· ≤ ·)) : Pc K (rSortQ K) [.list (ns.map .int)] (.list (ns.map .int)) := c_sort (sort_ints h) (alike_intsD ns) (sortable_intsD ns) (depth_intsD ns) (fun d hd => by obtain ⟨b, _, rfl⟩ := List.mem_map.mp hd; rfl)
end Y

/-! ### equality of data without bools -/
namespace Y
open PySem L2
mutual
def nb : PyData → Bool
  | .none => true
  | .bool _ => false
  | .int _ => true
  | .str _ => true
  | .list xs => nbAll xs
  | .tuple xs => nbAll xs
  | .dict _ => false
def nbAll : List PyData → Bool
  | [] => true
  | x :: xs => nb x && nbAll xs
end
mutual
theorem eqv_eq : ∀ d e : PyData, nb d = true → nb e = true → (PyData.eqv d e = true ↔ d = e)
  | .none, e, _, _ => by cases e <;> simp [PyData.eqv]
  | .bool _, _, h, _ => by simp [nb] at h
  | .int i, e, _, h => by
    cases e <;> first | (simp [nb] at h; done) | simp [PyData.eqv]
  | .str i, e, _, h => by
    cases e <;> first | (simp [nb] at h; done) | simp [PyData.eqv]
  | .list xs, e, h, h2 => by
    cases e with
    | list ys =>
      simp only [nb] at h h2
      simp only [PyData.eqv]
      rw [eqvAll_eq xs ys h h2]
      exact ⟨fun e => by rw [e], fun e => by injection e⟩
    | _ => first | (simp [nb] at h2; done) | simp [PyData.eqv]
  | .tuple xs, e, h, h2 => by
    cases e with
    | tuple ys =>
      simp only [nb] at h h2
      simp only [PyData.eqv]
      rw [eqvAll_eq xs ys h h2]
      exact ⟨fun e => by rw [e], fun e => by injection e⟩
    | _ => first | (simp [nb] at h2; done) | simp [PyData.eqv]
  | .dict _, _, h, _ => by simp [nb] at h
theorem eqvAll_eq : ∀ xs ys : List PyData, nbAll xs = true → nbAll ys = true → (PyData.eqvAll xs ys = true ↔ xs = ys)
  | [], [], _, _ => by simp [PyData.eqvAll]
  | [], _ :: _, _, _ => by simp [PyData.eqvAll]
  | _ :: _, [], _, _ => by simp [PyData.eqvAll]
  | x :: xs, y :: ys, h, h2 => by
    simp only [nbAll, Bool.and_eq_true] at h h2
    simp only [PyData.eqvAll, Bool.and_eq_true]
    rw [eqv_eq x y h.1 h2.1, eqvAll_eq xs ys h.2 h2.2]
    exact ⟨fun ⟨a, b⟩ => by rw [a, b], fun e => by injection e with a b; exact ⟨a, b⟩⟩
end
/-- data that == can compare and tells apart -/
def okd (d : PyData) : Prop := nb d = true ∧ SeqAt.shaped d = true
section
variable {K : PySem.W.Frag}
theorem o_eqP {d e : PyData} {p : Prop} [Decidable p] (hd : okd d) (he : okd e) (h : d = e ↔ p) : Po K (rEqD K) d e (.bool (decide p)) := by
  have := o_eqD (K := K) hd.2 he.2
  rw [show PyData.eqv d e = decide p by
    rw [Bool.eq_iff_iff, decide_eq_true_iff, eqv_eq d e hd.1 he.1]; exact h] at this
  exact this
theorem o_neP {d e : PyData} {p : Prop} [Decidable p] (hd : okd d) (he : okd e) (h : d = e ↔ p) : Po K (rNeD K) d e (.bool (!decide p)) := by
  have := o_neD (K := K) hd.2 he.2
  rw [show PyData.eqv d e = decide p by
    rw [Bool.eq_iff_iff, decide_eq_true_iff, eqv_eq d e hd.1 he.1]; exact h] at this
  exact this
/-- equal ones -/
theorem o_eqT {d e : PyData} (hd : SeqAt.shaped d = true) (h : d = e) : Po K (rEqD K) d e (.bool true) := by
  subst h
  have := o_eqD (K := K) hd hd
  rw [PySem.SeqAt.eqv_refl d (SeqAt.canLay_of_shaped hd)] at this
  exact this
theorem o_neF {d e : PyData} (hd : SeqAt.shaped d = true) (h : d = e) : Po K (rNeD K) d e (.bool false) := by
  subst h
  have := o_neD (K := K) hd hd
  rw [PySem.SeqAt.eqv_refl d (SeqAt.canLay_of_shaped hd)] at this
  exact this
end
theorem nb_all {xs : List PyData} : nbAll xs = true ↔ ∀ x ∈ xs, nb x = true := by
  induction xs with
  | nil => exact ⟨fun _ x h => (nomatch h), fun _ => rfl⟩
  | cons y xs ih => rw [nbAll, Bool.and_eq_true, ih]; simp
theorem lay_all {xs : List PyData} : PyData.canLayAll0 xs = true ↔ ∀ x ∈ xs, x.canLay0 = true := by
  induction xs with
  | nil => exact ⟨fun _ x h => (nomatch h), fun _ => rfl⟩
  | cons y xs ih => rw [PyData.canLayAll0, Bool.and_eq_true, ih]; simp
theorem depth_all {xs : List PyData} {n : Nat} : PyData.depthAll xs ≤ n ↔ ∀ x ∈ xs, x.depth ≤ n := by
  induction xs with
  | nil => exact ⟨fun _ x h => (nomatch h), fun _ => Nat.zero_le n⟩
  | cons y xs ih => rw [PyData.depthAll, Nat.max_le, ih]; simp
/-- fit to be compared, with a depth of at most n -/
def okn (n : Nat) (d : PyData) : Prop := nb d = true ∧ d.canLay0 = true ∧ d.depth ≤ n
theorem okn.okd {n : Nat} {d : PyData} (h : okn n d) (hn : n ≤ 64 := by decide) : okd d := ⟨h.1, by
  unfold SeqAt.shaped
  rw [Bool.and_eq_true]
  exact ⟨h.2.1, decide_eq_true (Nat.le_trans h.2.2 hn)⟩⟩
theorem okn.sh {n : Nat} {d : PyData} (h : okn n d) (hn : n ≤ 64 := by decide) : SeqAt.shaped d = true := (h.okd hn).2
theorem okn_int {n : Nat} {i : Int} : okn n (.int i) := ⟨by simp [nb], by simp [PyData.canLay0], by simp [PyData.depth]⟩
theorem okn_non {n : Nat} : okn n .none := ⟨by simp [nb], by simp [PyData.canLay0], by simp [PyData.depth]⟩
theorem okn_str {n : Nat} {z : Str} (h : PyData.strOk z = true) : okn n (.str z) := ⟨by simp [nb], by simp [PyData.canLay0, h], by simp [PyData.depth]⟩
theorem okn_tup {n : Nat} {ds : List PyData} (h : ∀ d ∈ ds, okn n d) : okn (n + 1) (.tuple ds) :=
  ⟨by rw [nb]; exact nb_all.mpr fun d hd => (h d hd).1, by rw [PyData.canLay0]; exact lay_all.mpr fun d hd => (h d hd).2.1, by rw [PyData.depth]; exact Nat.succ_le_succ (depth_all.mpr fun d hd => (h d hd).2.2)⟩
theorem okn_lst {n : Nat} {ds : List PyData} (h : ∀ d ∈ ds, okn n d) : okn (n + 1) (.list ds) :=
  ⟨by rw [nb]; exact nb_all.mpr fun d hd => (h d hd).1, by rw [PyData.canLay0]; exact lay_all.mpr fun d hd => (h d hd).2.1, by rw [PyData.depth]; exact Nat.succ_le_succ (depth_all.mpr fun d hd => (h d hd).2.2)⟩
theorem okn_ints {n : Nat} {ns : List Int} : ∀ d ∈ ns.map PyData.int, okn n d := fun d hd => by
  obtain ⟨i, _, rfl⟩ := List.mem_map.mp hd
  exact okn_int
theorem all_nil {p : PyData → Prop} : ∀ d ∈ ([] : List PyData), p d := fun _ h => nomatch h
theorem all_cons {p : PyData → Prop} {x : PyData} {xs : List PyData} (h : p x) (t : ∀ d ∈ xs, p d) : ∀ d ∈ x :: xs, p d := fun d hd => (List.mem_cons.mp hd).elim (fun e => by rw [e]; exact h) (t d)
end Y

/-! ### more: lists that are repeated, copied, stored into -/
namespace Y
open PySem L2
section
variable {K : PySem.W.Frag} {R : Rt} {B C N : EnvP} {env : List Sl} {t u v : TS}
theorem DqAll.rep {M : Hp} {vs : List V} {ds : List PyData} (h : DqAll K M vs ds) : ∀ n : Nat, DqAll K M (List.replicate n vs).flatten (List.replicate n ds).flatten
  | 0 => .nil
  | n + 1 => by
    rw [List.replicate_succ, List.replicate_succ, List.flatten_cons, List.flatten_cons]
    exact DqAll.app h (DqAll.rep h n)
theorem o_rep {ds : List PyData} {k : Int} (h1 : -(2 ^ 63) ≤ k) (h2 : k < 2 ^ 63) (h3 : ds.length * k.toNat ≤ sizeLine) : Po K rRep (.list ds) (.int k) (.list (List.replicate k.toNat ds).flatten) := fun H M x y Q s hx hy q => by
  obtain ⟨a, xs, rfl, e1, e2⟩ := dq_lstI hx
  refine ⟨a, k, xs, rfl, dq_int hy, s _ _ e1, h1, h2, by rw [DqAll.len e2]; exact h3, fun p hp => ?_⟩
  exact q _ _ _ (Ext.laid s hp) (.lst upd_same (DqAll.same (Ext.laid s hp).m (DqAll.rep e2 _)))
/-- list(xs), a new list -/
theorem f_list {te : TE} {ds : List PyData} (he : Pe K te env (.list ds)) : Pf K (tCB (fun xs H Q => ∃ p ys, xs = [.ref p] ∧ (SqL K H p ys ∨ SqT K H p ys) ∧ ∀ l, H l = none → Q (.ref l) (upd H l (.lst ys))) (tCons te tNil)) env ds := fun H0 M0 H M fps σ Q k q => by
  refine he H0 M0 H M fps σ _ k fun v H1 M1 x1 dv => ?_
  obtain ⟨a, xs, rfl, e1, e2⟩ := dq_lstI dv
  refine ⟨a, xs, rfl, .inl (SqL.of (x1.s _ _ e1)), fun p hp => ?_⟩
  have mp := none_of x1.s hp
  refine q p xs _ M1 ⟨fun b u e => ?_, x1.m, fun b u e => ?_, x1.n⟩ (none_of x1.h hp) mp upd_same e2
  · have e' := x1.h b u e
    rw [upd_ne (fun z => by rw [z, hp] at e'; cases e')]; exact e'
  · rw [upd_ne (fun z => by rw [z, mp] at e; cases e)]; exact x1.s b u e
/-- an own list as a new one: list(xs) -/
theorem f_listO {i : Nat} {ds : List PyData} (hi : env[i]? = some (ownL K ds)) : Pf K (tCB (fun xs H Q => ∃ p ys, xs = [.ref p] ∧ (SqL K H p ys ∨ SqT K H p ys) ∧ ∀ l, H l = none → Q (.ref l) (upd H l (.lst ys))) (tCons (tVar i) tNil)) env ds := fun H0 M0 H M fps σ Q k q => by
  obtain ⟨v, fp, e1, e2, a, xs, rfl, rfl, e3, e4⟩ := k.sls.getR hi
  refine ⟨.ref a, e1, a, xs, rfl, .inl (SqL.of e3), fun p hp => ?_⟩
  have mp := none_of k.sub hp
  refine q p xs _ M ⟨fun b u e => ?_, Same.refl M, fun b u e => ?_, fun _ _ e => .inl e⟩ hp mp upd_same e4
  · rw [upd_ne (fun z => by rw [z, hp] at e; cases e)]; exact e
  · rw [upd_ne (fun z => by rw [z, mp] at e; cases e)]; exact k.sub b u e
theorem DqAll.set {M : Hp} {v : V} {d : PyData} (h : Dq K M v d) : ∀ {vs : List V} {ds : List PyData} (n : Nat), DqAll K M vs ds → DqAll K M (vs.set n v) (ds.set n d)
  | _, _, _, .nil => .nil
  | _, _, 0, .cons _ t => .cons h t
  | _, _, n + 1, .cons a t => .cons a (DqAll.set h n t)
/-- xs[j] = e, xs an own list -/
theorem s_setIt {i n : Nat} {ds : List PyData} {te ti : TE} {d : PyData} {j : Int} (hi : env[i]? = some (ownL K ds)) (he : Pe K te env d) (hj : Pe K ti env (.int j)) (hn : ixN ds.length j = some n) (h : N (env.set i (ownL K (ds.set n d)))) : Ps K R B C (tAsg te (gSub (tVar i) ti rSetL)) env N := fun H0 M0 D σ H M fps k r nn b c => by
  refine he H0 M0 H M fps σ _ k fun v H1 M1 x1 dv => ?_
  have k1 := k.ext x1
  obtain ⟨w, fp, e1, e2, p, vs, rfl, rfl, e3, e4⟩ := k1.sls.getR hi
  refine ⟨.ref p, e1, hj H0 M0 H1 M1 fps σ _ k1 fun y H2 M2 x2 dy => ?_⟩
  refine ⟨p, vs, j, n, rfl, dq_int dy, x2.h _ _ e3, by rw [DqAll.len e4]; exact hn, nn _ _ _ _ _ h ((k1.ext x2).put (ds := ds) (vs := vs) e1 e2 (DqAll.set (Dq.same x2.m dv) n (DqAll.same x2.m e4)))⟩
theorem s_seq_setIt {i n : Nat} {ds : List PyData} {te ti : TE} {d : PyData} {j : Int} (hi : env[i]? = some (ownL K ds)) (he : Pe K te env d) (hj : Pe K ti env (.int j)) (hn : ixN ds.length j = some n) (h : Ps K R B C u (env.set i (ownL K (ds.set n d))) N) : Ps K R B C (tSeq (tAsg te (gSub (tVar i) ti rSetL)) u) env N :=
  s_mid (fun e => e = env.set i (ownL K (ds.set n d))) (s_setIt hi he hj hn rfl) fun e he => by rw [he]; exact h
theorem s_seq_listF {i : Nat} {te : TE} {ds : List PyData} (he : Pe K te env (.list ds)) (hi : i < env.length) (h : Ps K R B C u (env.set i (ownL K ds)) N) : Ps K R B C (tSeq (tAsg (tCB (fun xs H Q => ∃ p ys, xs = [.ref p] ∧ (SqL K H p ys ∨ SqT K H p ys) ∧ ∀ l, H l = none → Q (.ref l) (upd H l (.lst ys))) (tCons te tNil)) (gName i)) u) env N :=
  s_seq_setF (f_list he) h hi
/-- .. and from then on it is data -/
theorem s_seq_setItZ {i n : Nat} {ds es : List PyData} {te ti : TE} {d : PyData} {j : Int} (hi : env[i]? = some (ownL K ds)) (he : Pe K te env d) (hj : Pe K ti env (.int j)) (hn : ixN ds.length j = some n) (hs : ds.set n d = es) (hl : i < env.length) (h : Ps K R B C u (env.set i (.val (.list es))) N) : Ps K R B C (tSeq (tAsg te (gSub (tVar i) ti rSetL)) u) env N := by
  refine s_seq_setIt hi he hj hn (s_froz i (ds := es) ?_ ?_)
  · rw [hs, List.getElem?_set_self hl]
  · rw [List.set_set]; exact h
end
end Y

/-! ### ranges with a step, new lists of some things, all but the last -/
namespace Y
open PySem L2
section
variable {K : PySem.W.Frag} {R : Rt} {B C N : EnvP} {env : List Sl} {t u v : TS}
abbrev encR3 (lo c : Int) (i : Nat) : PyData := .int (lo + (i : Nat) * c)
theorem w_range3 {ta : TA} {i j c : Int} {n : Nat} (ha : Pa K ta env [.int i, .int j, .int c]) (hr : RgC i j c n) : Pw K (iRng3 ta) env ((List.range n).map (encR3 i c)) := fun H0 M0 H M fps σ Q k q => by
  refine ha H0 M0 H M fps σ _ k fun vs H1 M1 x1 dv => ?_
  cases dv with | cons a dv =>
  obtain ⟨v, w, rfl, h, h'⟩ := dqA_two dv
  rw [dq_int a, dq_int h, dq_int h']
  refine ⟨i, j, c, n, rfl, hr, q _ _ M1 x1 ⟨_, _, (by rw [List.length_map, List.length_range]; exact walk_rangeC), fun _ _ _ _ => True.intro, ?_⟩⟩
  rintro m H M x H' hi a b ⟨rfl, rfl⟩
  rw [List.length_map, List.length_range] at hi
  refine ⟨M, encR3 i c m, Ext.refl b, ?_, .int _⟩
  rw [List.getElem?_map, List.getElem?_range hi]; rfl
theorem rgc_two {j : Int} (h1 : 0 ≤ j) (h2 : j < 2 ^ 62) : RgC 0 j 2 ((j + 1) / 2).toNat := by
  have e : Builtin.Range.rangeSize 0 j 2 = (j + 1) / 2 := by
    unfold Builtin.Range.rangeSize
    simp only [show (2 : Int) > 0 by decide, if_true]
    split <;> omega
  refine ⟨by decide, by decide, ?_, by rw [e]; omega⟩
  unfold Builtin.Range.small
  rw [e]
  simp only [Builtin.Range.rangeFitsLong, Bool.and_eq_true, Bool.or_eq_true, decide_eq_true_eq, beq_iff_eq, show (2 : Int) > 0 by decide, if_true]
  omega
/-- xs = [.. , ..], an own list -/
theorem s_seq_newL {i : Nat} {ta : TA} {ds : List PyData} (ha : Pa K ta env ds) (hl : ds.length ≤ sizeLine) (hi : i < env.length) (h : Ps K R B C u (env.set i (ownL K ds)) N) : Ps K R B C (tSeq (tAsg (tLst ta) (gName i)) u) env N :=
  s_seq_setF (f_lst ha hl) h hi
end
theorem cutG_init {α : Type} (xs : List α) : cutG xs none (some (-1)) = xs.dropLast := by
  show (xs.drop 0).take ((if (-1 : Int) < 0 then (-1 + (xs.length : Int)).toNat else min (-1 : Int).toNat xs.length) - 0) = _
  rw [if_pos (by decide), List.drop_zero, Nat.sub_zero, List.dropLast_eq_take]
  congr 1
  omega
theorem atI_last {α : Type} {xs : List α} {x : α} : atI (xs ++ [x]) (-1) = some x := by
  unfold atI ixN
  rw [List.length_append, List.length_singleton, if_neg (by decide), if_pos (by omega)]
  show (xs ++ [x])[(-1 + ((xs.length + 1 : Nat) : Int)).toNat]? = _
  rw [show (-1 + ((xs.length + 1 : Nat) : Int)).toNat = xs.length by omega, List.getElem?_concat_length]
end Y

/-! ### any, all of a generator expression whose element may call -/
section
open PySem.Spec PyProof.Rows
/-- the generator's own names are over; the captured ones are the def's -/
def gxEnv (X : Cx) (scope : Scope) (L : Addr) (code : Value) : Env := genEnv scope (cloFrom X.env.cells scope.names []) L code builtinsNs X.env
/-- the context of the generator's code, woken within any, all -/
def gxOf (X : Cx) (N : List Str) (scope : Scope) (code : Value) (s : Shared) (H : Hp) (ex : List Addr) (pn : List (Addr × Obj)) : Cx :=
  { X with A := X.A.in1.in1.deeper (gxEnv X scope s.heap.objs.size code), N := N, s_0 := s, H_0 := H, env := gxEnv X scope s.heap.objs.size code, outer := X.stack, stack := gxEnv X scope s.heap.objs.size code :: X.stack, ex := ex, fn := fun _ => false, calm := true, pn := pn, xe := fun _ _ => False }
variable {X : Cx} {pins : List (Addr × Obj)} {σ : L2.St} {H : Hp} {s : Shared}
/-- what stands in the generator's slots: names captured, with the def's values -/
def CapOk (X : Cx) (scope : Scope) (N : List Str) (σ τ : L2.St) : Prop :=
  τ.length = N.length ∧ ∀ (i : Nat) (y : Str) (v : V), N[i]? = some y → τ[i]? = some (some v) → scope.names.lookup y = some NameKind.free ∧ (X.env.kindOf y = some .cell ∨ X.env.kindOf y = some .free) ∧ Vis X.env.scope y ∧ ∃ j : Nat, X.N[j]? = some y ∧ σ[j]? = some (some v)
theorem gx_inv {N : List Str} {scope : Scope} {code : Value} {fp : List Addr} {a : Addr} {go : Obj} {τ : L2.St} {s5 : Shared} {m : Str → Option Value} (I : Inv X pins σ H s) (hd : X.A.handled = none) (hk : scope.kind = .function) (hfree : ∀ y ∈ scope.names, y.2 = .free → ∃ c, X.env.cells.lookup y.1 = some c) (hcell : ∀ y ∈ scope.names, y.2 ≠ .cell)
    (hfp : ∀ b ∈ fp, FpOk X pins H b ∧ ∃ o, s.heap.get? b = some o) (hos : s5.os = s.os) (hb : AllBare s5.gens) (keep : ∀ b o, s.heap.get? b = some o → s5.heap.get? b = some o) (hn : s5.heap.Ns s.heap.objs.size m) (ha : s5.heap.get? a = some go) (hal : s.heap.objs.size < a) (hgo : ∀ v, go.data ≠ .cell v)
    (hcap : CapOk X scope N σ τ) : Inv (gxOf X N scope code s H fp [(a, go)]) [] τ H s5 := by
  have env := I.env0
  have cm : ∀ y c, (gxEnv X scope s.heap.objs.size code).cells.lookup y = some c → X.env.cells.lookup y = some c := fun y c e => NdefX.clo_cm hfree e
  have free1 : H s.heap.objs.size = none := I.hok.fresh (Nat.le_refl _)
  refine ⟨⟨I.ok.mod, hk, I.ok.glob, rfl, Nat.le_refl _, fun x y c e1 e2 => I.ok.inj x y c (cm _ _ e1) (cm _ _ e2), fun y hy => ?_, fun x c e => absurd (show false = true from e) Bool.false_ne_true, fun _ => hd, Around.frames_deeper env.frames, .inr ⟨rfl, rfl⟩, fun b hbf => ?_, I.bs, env.bsz, fun b o e hbf => ?_, fun b hbf hst => ?_, env.funs, env.frf⟩,
    hos, hb, Un.kept keep, ⟨m, hn, fun i y v e1 e2 e3 => ?_⟩, fun y c e => ?_, free1, fun y c e => I.freeC y c (cm _ _ e), fun p hp => ?_, I.hok.kept keep, hcap.1⟩
  · have hy' : scope.names.lookup y = some .cell ∨ scope.names.lookup y = some .free := hy
    rcases hy' with h | h
    · exact absurd rfl (hcell _ (PySem.mem_of_lookup h))
    · obtain ⟨c, e⟩ := hfree _ (PySem.mem_of_lookup h) rfl
      exact ⟨c, NdefX.clo_has hfree (PySem.mem_of_lookup h) e⟩
  · obtain ⟨⟨f0, f1, f2, f3, f4, f5⟩, o, eo⟩ := hfp b hbf
    exact ⟨Nat.ne_of_lt (Heap.lt_size eo), fun x c e => f4 x c (cm _ _ e)⟩
  · obtain ⟨⟨f0, f1, f2, f3, f4, f5⟩, o', eo⟩ := hfp b hbf
    rcases f3 with f3 | f3
    · exact I.ok.noex b o e f3
    · exact absurd (Nat.lt_of_lt_of_le (Heap.lt_size e) (Nat.le_trans I.ok.bsz f3)) (Nat.lt_irrefl _)
  · obtain ⟨⟨f0, f1, f2, f3, f4, f5⟩, o', eo⟩ := hfp b hbf
    rcases List.mem_cons.mp (I.stkSub b hst) with z | z
    · exact f1 z
    · exact f2 z
  · obtain ⟨k1, k2, k3, j, k4, k5⟩ := hcap.2 i y v e1 e2
    obtain ⟨mx, hnx, hl⟩ := I.loc
    obtain ⟨u, ru, lk⟩ := hl j y v k4 k5 k3
    refine ⟨u, ru, .inr ⟨.inr k1, ?_⟩⟩
    rcases lk with ⟨q, _⟩ | ⟨q, c, ec, hc⟩
    · rcases k2 with k2 | k2 <;> (rw [k2] at q; cases q)
    · obtain ⟨oc, h1, h2⟩ := hc
      exact ⟨c, NdefX.clo_has hfree (PySem.mem_of_lookup k1) ec, oc, keep _ _ h1, h2⟩
  · obtain ⟨v, oc, h1, h2⟩ := I.cell y c (cm _ _ e)
    exact ⟨v, oc, keep _ _ h1, h2⟩
  · have e : p = (a, go) := by simpa [gxOf] using hp
    subst e
    have ge : s.heap.objs.size ≤ a := Nat.le_of_lt hal
    refine ⟨ha, I.hok.fresh ge, Nat.ne_of_gt hal, fun hst => ?_, hgo⟩
    obtain ⟨_, o, ho, _⟩ := env.funs.mem hst
    exact absurd (Nat.lt_of_lt_of_le (Heap.lt_size ho) ge) (Nat.lt_irrefl _)
end

section
open PySem.Spec PyProof.Rows
variable {X : Cx}
/-- the loop's reading: a turn's element is a bool; the one that is `stop` ends the walk, with Qs, or all are over, with Qe -/
def tGxW (J : It) (g : TG) (tt : TT) (te : TE) (stop : Bool) (Qs Qe : Hp → Prop) (W : Nat → Nat → L2.St → Hp → Prop) : Prop := ∀ i m τ H, W i m τ H →
  (J.stop i H ∧ Qe H) ∨ (J.go i H ∧ ∃ Nx : L2.St → Hp → Prop, (∀ τ' H', Nx τ' H' → ∃ m', m' < m ∧ W (i + 1) m' τ' H') ∧ ∀ x H', J.yld i H x H' → g x τ H' fun τ2 H2 => tt τ2 H2 fun b H3 => if b = true then te τ2 H3 fun y H4 => ∃ c, y = .bl c ∧ if c = stop then Qs H4 else Nx τ2 H4 else Nx τ2 H3)
def gxR (Y : Cx) (Qe : Hp → Prop) : GenEnd := fun _ _ r s1 => ((r = .ok (.ret .none) ∨ r = .ok .next) ∧ ∃ τ H, Inv Y [] τ H s1 ∧ Qe H) ∨ ∃ e, r = .error e ∧ False
def gxY (Y : Cx) (stop : Bool) (Qs : Hp → Prop) : Protocol := fun _ _ v s1 kap => ∃ (c : Bool) (τ : L2.St) (H : Hp), v = .bool c ∧ Inv Y [] τ H s1 ∧ (c = stop → Qs H) ∧ (c ≠ stop → ∀ s', s'.heap = s1.heap → s'.os = s1.os → AllBare s'.gens → kap (.send .none) s')
theorem gx_loop {N : List Str} {scope : Scope} {code : Value} {s0 : Shared} {H0 : Hp} {fp : List Addr} {pn : List (Addr × Obj)} {elt iter tg : Expr} {ifs : List Expr} {tt : TT} {gpos : Pos} {it : Addr} {tn : Nat → Heap → Prop} {J : It} {g : TG} {te : TE} {stop : Bool} {Qs Qe : Hp → Prop} {W : Nat → Nat → L2.St → Hp → Prop}
    (hd : X.A.handled = none) (hco : scope.isCoroutine = false) (T : Turn X.prog X.w X.K tg J fp it tn) (hg : PG (gxOf X N scope code s0 H0 fp pn) tg g) (ht : PTs (gxOf X N scope code s0 H0 fp pn) ifs tt) (he : PE (gxOf X N scope code s0 H0 fp pn) elt te)
    (stat : ∀ {H' : Hp}, (∀ b ∈ fp, H' b = none) → ∀ b ∈ fp, FpOk (gxOf X N scope code s0 H0 fp pn) [] H' b) (turn : tGxW J g tt te stop Qs Qe W) :
    ∀ (m n i : Nat) (s₀ s : Shared) (τ : L2.St) (H : Hp), m < n → W i m τ H → Inv (gxOf X N scope code s0 H0 fp pn) [] τ H s → tn i s.heap → (∀ b ∈ fp, H b = none) →
      Seg (model X.prog X.w) X.A.in1.in1 (gxR (gxOf X N scope code s0 H0 fp pn) Qe) (gxY (gxOf X N scope code s0 H0 fp pn) stop Qs) n s₀
        (.compLoop (.GeneratorExp elt [⟨tg, iter, ifs, 0⟩] scope gpos) 0 (.ref it) .none (gxEnv X scope s0.heap.objs.size code))
        ((model X.prog X.w).den (.compLoop (.GeneratorExp elt [⟨tg, iter, ifs, 0⟩] scope gpos) 0 (.ref it) .none (gxEnv X scope s0.heap.objs.size code))) [] s := by
  intro m
  induction m using Nat.strongRecOn with
  | ind m ih =>
    intro n1 i s₀ s τ H hmn w I st fr
    obtain ⟨n, rfl⟩ : ∃ n, n1 = n + 1 := ⟨n1 - 1, by omega⟩
    show Seg _ _ _ _ _ s₀ _ ((compTurn (.GeneratorExp elt [⟨tg, iter, ifs, 0⟩] scope gpos) 0 (.ref it) .none (gxEnv X scope s0.heap.objs.size code)).onRaise (leaving (gxEnv X scope s0.heap.objs.size code))) [] s
    rw [compTurn_gen, Sem.onRaise_eq_wrap]
    refine seg_bind_wrap (wpAny_standAt ?_)
    rcases turn i m τ H w with ⟨stp, qe⟩ | ⟨go, Nx, hN, step⟩
    · refine seg_bind_wrap ?_
      refine wpAny_mono (T.done (gxOf X N scope code s0 H0 fp pn) rfl rfl rfl rfl i [] s τ H (fun _ _ => False) I (stat fr) st stp) (fun r s1 hr => ?_) fun _ _ z => z.elim
      obtain ⟨rfl, I1⟩ := hr
      exact seg_end (.ok .next) (.inl ⟨.inr rfl, τ, H, I1, qe⟩)
    · refine seg_bind_wrap ?_
      refine wpAny_mono (T.item (gxOf X N scope code s0 H0 fp pn) rfl rfl rfl rfl i [] s τ H (fun _ _ => False) I (stat fr) st go) (fun r s1 hr => ?_) fun _ _ z => z.elim
      obtain ⟨u, rfl, h1⟩ := hr
      refine seg_bind_wrap (wpAny_mono h1 (fun _ s2 h2 => ?_) fun _ _ z => z.elim)
      obtain ⟨x, H2, I2, r2, y2, st2, fr2⟩ := h2
      have I2' := I2.pinned (stat fr2) (T.obj _ _ st2)
      refine seg_bind_wrap (wpAny_mono (hg.run _ s2 τ H2 x u _ I2' r2 (step x H2 y2)) (fun _ s3 h3 => ?_) fun _ _ z => z.elim)
      obtain ⟨τ3, H3, I3, q3⟩ := h3
      have later : ∀ {s7 s8 : Shared} {H7 : Hp}, Inv (gxOf X N scope code s0 H0 fp pn) ([] ++ pinsAt fp s2.heap) τ3 H7 s7 → Nx τ3 H7 → s8.heap = s7.heap → s8.os = s7.os → AllBare s8.gens → ∀ s₀' k, n ≤ k →
          Seg (model X.prog X.w) X.A.in1.in1 (gxR (gxOf X N scope code s0 H0 fp pn) Qe) (gxY (gxOf X N scope code s0 H0 fp pn) stop Qs) k s₀'
            (.compLoop (.GeneratorExp elt [⟨tg, iter, ifs, 0⟩] scope gpos) 0 (.ref it) .none (gxEnv X scope s0.heap.objs.size code))
            ((model X.prog X.w).den (.compLoop (.GeneratorExp elt [⟨tg, iter, ifs, 0⟩] scope gpos) 0 (.ref it) .none (gxEnv X scope s0.heap.objs.size code))) [] s8 := fun {s7 s8 H7} I7 n7 eh eo eb s₀' k hnk => by
        obtain ⟨m', hm, w7⟩ := hN τ3 H7 n7
        have I7u : Inv (gxOf X N scope code s0 H0 fp pn) [] τ3 H7 s7 := I7.unpinned
        have st7 : tn (i + 1) s7.heap := T.keep _ _ _ st2 fun b hb o e => (I7.pin (b, o) (List.mem_append_right _ (List.mem_append_right _ (mem_pinsAt hb e)))).1
        refine ih m' hm k (i + 1) s₀' s8 τ3 H7 (by omega) w7 ?_ (by rw [eh]; exact st7) fun b hb => ?_
        · obtain ⟨h8, g8, d8, t8, o8⟩ := s8
          have e1 : h8 = s7.heap := eh
          have e2 : o8 = s7.os := eo
          subst e1 e2
          exact ⟨I7u.ok, I7u.os, eb, I7u.base, I7u.loc, I7u.cell, I7u.free, I7u.freeC, I7u.pin, I7u.hok, I7u.len⟩
        · obtain ⟨o, e, _⟩ := T.obj _ _ st2 b hb
          exact (I7.pin (b, o) (List.mem_append_right _ (List.mem_append_right _ (mem_pinsAt hb e)))).2.1
      refine seg_bind_wrap (wpAny_mono (ht.run _ s3 τ3 H3 _ I3 q3) (fun b s4 h4 => ?_) fun _ _ z => z.elim)
      obtain ⟨H4, I4, q4⟩ := h4
      cases b with
      | false =>
        rw [if_neg Bool.false_ne_true] at q4
        simp only [Bool.false_eq_true, if_false]
        exact seg_again rfl (later I4 q4 rfl rfl I4.bare s₀ (n + 1) (Nat.le_succ n))
      | true =>
        rw [if_pos rfl] at q4
        simp only [if_true]
        have plain : ∀ v, yieldOut (gxEnv X scope s0.heap.objs.size code) v = yieldValue v := fun v => by
          unfold yieldOut
          rw [if_neg (by show ¬ (scope.isCoroutine = true); rw [hco]; exact Bool.false_ne_true)]
        simp only [plain]
        rw [Sem.bind_eq_wrap', Sem.bind_eq_wrap', Sem.wrap_wrap, Sem.wrap_wrap]
        refine seg_wrap (wpAny_mono (he.run _ s4 τ3 H4 _ I4 q4) (fun y s5 h5 => ?_) fun _ _ z => z.elim)
        obtain ⟨y1, H5, I5, r5, c, ey, q5⟩ := h5
        subst ey
        obtain rfl : y = .bool c := r5
        refine seg_at (seg_yield rfl rfl rfl ⟨c, τ3, H5, rfl, I5.unpinned, fun e => ?_, fun e s6 eh eo eb => ?_⟩)
        · rw [if_pos e] at q5; exact q5
        · rw [if_neg e] at q5
          exact seg_again rfl (later I5 q5 eh eo eb s6 n (Nat.le_refl n))
end

section
open PySem.Spec PyProof.Rows GenW
variable {X : Cx}
theorem gx_start {N : List Str} {scope : Scope} {code : Value} {s0 : Shared} {H0 : Hp} {fp : List Addr} {pn : List (Addr × Obj)} {elt iter tg : Expr} {ifs : List Expr} {tt : TT} {gpos : Pos} {it : Addr} {tn : Nat → Heap → Prop} {J : It} {g : TG} {te : TE} {stop : Bool} {Qs Qe : Hp → Prop} {W : Nat → Nat → L2.St → Hp → Prop}
    (hd : X.A.handled = none) (hco : scope.isCoroutine = false) (T : Turn X.prog X.w X.K tg J fp it tn) (hg : PG (gxOf X N scope code s0 H0 fp pn) tg g) (ht : PTs (gxOf X N scope code s0 H0 fp pn) ifs tt) (he : PE (gxOf X N scope code s0 H0 fp pn) elt te)
    (stat : ∀ {H' : Hp}, (∀ b ∈ fp, H' b = none) → ∀ b ∈ fp, FpOk (gxOf X N scope code s0 H0 fp pn) [] H' b) (turn : tGxW J g tt te stop Qs Qe W) {m n : Nat} {s₀ s : Shared} {τ : L2.St} {H : Hp} (hmn : m < n) (w0 : W 0 m τ H) (I : Inv (gxOf X N scope code s0 H0 fp pn) [] τ H s) (st : tn 0 s.heap) (fr : ∀ b ∈ fp, H b = none) :
    Seg (model X.prog X.w) X.A.in1.in1 (gxR (gxOf X N scope code s0 H0 fp pn) Qe) (gxY (gxOf X N scope code s0 H0 fp pn) stop Qs) n s₀
        (.compStart (.GeneratorExp elt [⟨tg, iter, ifs, 0⟩] scope gpos) 0 (.ref it) .none (gxEnv X scope s0.heap.objs.size code))
        ((model X.prog X.w).den (.compStart (.GeneratorExp elt [⟨tg, iter, ifs, 0⟩] scope gpos) 0 (.ref it) .none (gxEnv X scope s0.heap.objs.size code))) [] s := by
  have go := gx_loop (iter := iter) (gpos := gpos) hd hco T hg ht he stat turn m n 0 s₀ s τ H hmn w0 I st fr
  show Seg _ _ _ _ _ s₀ _ ((compStart (.GeneratorExp elt [⟨tg, iter, ifs, 0⟩] scope gpos) 0 (.ref it) .none (gxEnv X scope s0.heap.objs.size code)).onRaise (leaving (gxEnv X scope s0.heap.objs.size code))) [] s
  unfold compStart
  rw [Sem.onRaise_eq_wrap]
  show Seg _ _ _ _ _ s₀ _ ((ask >>= _).wrap _ _ _ _) [] s
  refine seg_bind_wrap (wpAny_askSetting ?_)
  split
  · exact seg_again rfl go
  · refine seg_bind_wrap (wpAny_rule ?_)
    first
      | exact seg_bind_wrap (wpAny_standAt (seg_bind_wrap (T.self _ 0 s _ _ st (seg_again rfl go))))
      | (show Seg _ _ _ _ _ s₀ _ ((standAt iter.pos >>= _).wrap _ _ _ _) [] s; exact seg_bind_wrap (wpAny_standAt (seg_bind_wrap (T.self _ 0 s _ _ st (seg_again rfl go)))))
theorem isGen_of {h : Heap} {a : Addr} {g : Nat} {go : Obj} {nm qn : Value} (e : h.get? a = some go) (h1 : go.cls = .type "generator") (h2 : go.data = .fields #[.int g 0, nm, qn]) (h3 : go.slots = #[]) : h.IsGen a g := ⟨go, nm, qn, e, h1, h2, h3⟩
theorem gx_any {Y : Cx} {a : Addr} {g : Nat} {stop : Bool} {Qs Qe : Hp → Prop} {R : Result → Shared → Prop} (hP : Y.prog = X.prog ∧ Y.w = X.w) (hr : Room 1 X.A) (hgen : ∀ {τ : L2.St} {H : Hp} {s : Shared}, Inv Y [] τ H s → s.heap.IsGen a g)
    (hs : ∀ s1 s' τ H, Inv Y [] τ H s1 → Qs H → s'.os = s1.os → AllBare s'.gens → (∀ b o, s1.heap.get? b = some o → s'.heap.get? b = some o) → stop = true → R (.ok (.ret (.bool true))) s')
    (he : ∀ s1 s' τ H, Inv Y [] τ H s1 → Qe H → s'.os = s1.os → AllBare s'.gens → (∀ b o, s1.heap.get? b = some o → s'.heap.get? b = some o) → stop = true → R (.ok (.ret (.bool false))) s') (hst : stop = true) :
    ∀ (n : Nat) (s : Shared), s.heap.IsGen a g → s.heap.NoLimit → (∃ gs, s.gens[g]? = some gs ∧ gs.Goes (model X.prog X.w) X.A.in1.in1 (gxR Y Qe) (gxY Y stop Qs) n (.send .none) (s.setGen g .running)) →
      codeAny (model X.prog X.w) X.A (.builtin "any.loop" ⟨[.ref a], []⟩) R s := by
  intro n
  induction n with
  | zero =>
    intro s hg hl ⟨gs, hgs, hgo⟩
    refine codeAny_builtin PySem.F.entry_any_loop ?_
    rw [Around.under_plainId PySem.F.plain_any_loop _]
    show wpAny _ X.A.in1 (pyNext (.ref a) >>= _) _ _ s
    refine wpAny_bind (next_genG (A := X.A.in1) hr.hd hl (by have := hr.dp; show X.A.depth < _; omega) hg hgs hgo (fun v s1 gs' hbare hv => ?_) (fun s1 hp h' hk => ?_) fun e s1 hF => hF.elim)
    · obtain ⟨c, τ, H, rfl, I, q1, q2⟩ := hv
      have bare1 := allBare_setGen (g := g) I.bare hbare
      refine wpAny_bind (wpAny_holding (wpAny_truthy_bool (wpAny_bind (wpAny_letGo ?_))))
      cases c with
      | true =>
        rw [if_pos rfl]
        exact wpAny_bind (wpAny_rule (wpAny_pure (hs s1 _ τ H I (q1 hst.symm) rfl bare1 (fun _ _ e => e) hst)))
      | false =>
        rw [if_neg Bool.false_ne_true]
        have ne : false ≠ stop := by rw [hst]; exact Bool.false_ne_true
        exact (q2 ne s1 rfl rfl I.bare).elim
    · obtain ⟨τ, H, I, qe⟩ := hp
      exact wpAny_bind (wpAny_rule (wpAny_pure (he s1 _ τ H I qe rfl (allBare_setGen I.bare rfl) hk hst)))
  | succ n ih =>
    intro s hg hl ⟨gs, hgs, hgo⟩
    have hgl : g < s.gens.size := (Array.getElem?_eq_some_iff.mp hgs).1
    refine codeAny_builtin PySem.F.entry_any_loop ?_
    rw [Around.under_plainId PySem.F.plain_any_loop _]
    show wpAny _ X.A.in1 (pyNext (.ref a) >>= _) _ _ s
    refine wpAny_bind (wpAny_gsz (n := g + 1) hgl (next_genG (A := X.A.in1) hr.hd hl (by have := hr.dp; show X.A.depth < _; omega) hg hgs hgo (fun v s1 gs' hbare hv => ?_) (fun s1 hp h' hk => ?_) fun e s1 hF => hF.elim))
    · intro hsz
      obtain ⟨c, τ, H, rfl, I, q1, q2⟩ := hv
      have bare1 := allBare_setGen (g := g) I.bare hbare
      refine wpAny_bind (wpAny_holding (wpAny_truthy_bool (wpAny_bind (wpAny_letGo ?_))))
      cases c with
      | true =>
        rw [if_pos rfl]
        exact wpAny_bind (wpAny_rule (wpAny_pure (hs s1 _ τ H I (q1 hst.symm) rfl bare1 (fun _ _ e => e) hst)))
      | false =>
        rw [if_neg Bool.false_ne_true]
        have ne : false ≠ stop := by rw [hst]; exact Bool.false_ne_true
        have szg : g < s1.gens.size := by
          have q : (s1.setGen g gs').gens.size = s1.gens.size := setGen_size _ _ _
          have hsz' : g + 1 ≤ (s1.setGen g gs').gens.size := hsz
          omega
        have hgI : s1.heap.IsGen a g := hgen I
        have hlI : s1.heap.NoLimit := I.nolimit
        exact wpAny_pure ⟨plainId_quiet PySem.F.plain_any_loop _, ih (s1.setGen g gs') hgI hlI ⟨gs', setGen_at szg, q2 ne _ rfl rfl (allBare_setGen bare1 rfl)⟩⟩
    · intro hsz
      obtain ⟨τ, H, I, qe⟩ := hp
      exact wpAny_bind (wpAny_rule (wpAny_pure (he s1 _ τ H I qe rfl (allBare_setGen I.bare rfl) hk hst)))
theorem gx_all {Y : Cx} {a : Addr} {g : Nat} {stop : Bool} {Qs Qe : Hp → Prop} {R : Result → Shared → Prop} (hP : Y.prog = X.prog ∧ Y.w = X.w) (hr : Room 1 X.A) (hgen : ∀ {τ : L2.St} {H : Hp} {s : Shared}, Inv Y [] τ H s → s.heap.IsGen a g)
    (hs : ∀ s1 s' τ H, Inv Y [] τ H s1 → Qs H → s'.os = s1.os → AllBare s'.gens → (∀ b o, s1.heap.get? b = some o → s'.heap.get? b = some o) → stop = false → R (.ok (.ret (.bool false))) s')
    (he : ∀ s1 s' τ H, Inv Y [] τ H s1 → Qe H → s'.os = s1.os → AllBare s'.gens → (∀ b o, s1.heap.get? b = some o → s'.heap.get? b = some o) → stop = false → R (.ok (.ret (.bool true))) s') (hst : stop = false) :
    ∀ (n : Nat) (s : Shared), s.heap.IsGen a g → s.heap.NoLimit → (∃ gs, s.gens[g]? = some gs ∧ gs.Goes (model X.prog X.w) X.A.in1.in1 (gxR Y Qe) (gxY Y stop Qs) n (.send .none) (s.setGen g .running)) →
      codeAny (model X.prog X.w) X.A (.builtin "all.loop" ⟨[.ref a], []⟩) R s := by
  intro n
  induction n with
  | zero =>
    intro s hg hl ⟨gs, hgs, hgo⟩
    refine codeAny_builtin PySem.F.entry_all_loop ?_
    rw [Around.under_plainId PySem.F.plain_all_loop _]
    show wpAny _ X.A.in1 (pyNext (.ref a) >>= _) _ _ s
    refine wpAny_bind (next_genG (A := X.A.in1) hr.hd hl (by have := hr.dp; show X.A.depth < _; omega) hg hgs hgo (fun v s1 gs' hbare hv => ?_) (fun s1 hp h' hk => ?_) fun e s1 hF => hF.elim)
    · obtain ⟨c, τ, H, rfl, I, q1, q2⟩ := hv
      have bare1 := allBare_setGen (g := g) I.bare hbare
      refine wpAny_bind (wpAny_holding (wpAny_truthy_bool (wpAny_bind (wpAny_letGo ?_))))
      cases c with
      | false =>
        rw [if_neg Bool.false_ne_true]
        exact wpAny_bind (wpAny_rule (wpAny_pure (hs s1 _ τ H I (q1 hst.symm) rfl bare1 (fun _ _ e => e) hst)))
      | true =>
        rw [if_pos rfl]
        have ne : true ≠ stop := by rw [hst]; exact fun z => Bool.false_ne_true z.symm
        exact (q2 ne s1 rfl rfl I.bare).elim
    · obtain ⟨τ, H, I, qe⟩ := hp
      exact wpAny_bind (wpAny_rule (wpAny_pure (he s1 _ τ H I qe rfl (allBare_setGen I.bare rfl) hk hst)))
  | succ n ih =>
    intro s hg hl ⟨gs, hgs, hgo⟩
    have hgl : g < s.gens.size := (Array.getElem?_eq_some_iff.mp hgs).1
    refine codeAny_builtin PySem.F.entry_all_loop ?_
    rw [Around.under_plainId PySem.F.plain_all_loop _]
    show wpAny _ X.A.in1 (pyNext (.ref a) >>= _) _ _ s
    refine wpAny_bind (wpAny_gsz (n := g + 1) hgl (next_genG (A := X.A.in1) hr.hd hl (by have := hr.dp; show X.A.depth < _; omega) hg hgs hgo (fun v s1 gs' hbare hv => ?_) (fun s1 hp h' hk => ?_) fun e s1 hF => hF.elim))
    · intro hsz
      obtain ⟨c, τ, H, rfl, I, q1, q2⟩ := hv
      have bare1 := allBare_setGen (g := g) I.bare hbare
      refine wpAny_bind (wpAny_holding (wpAny_truthy_bool (wpAny_bind (wpAny_letGo ?_))))
      cases c with
      | false =>
        rw [if_neg Bool.false_ne_true]
        exact wpAny_bind (wpAny_rule (wpAny_pure (hs s1 _ τ H I (q1 hst.symm) rfl bare1 (fun _ _ e => e) hst)))
      | true =>
        rw [if_pos rfl]
        have ne : true ≠ stop := by rw [hst]; exact fun z => Bool.false_ne_true z.symm
        have szg : g < s1.gens.size := by
          have q : (s1.setGen g gs').gens.size = s1.gens.size := setGen_size _ _ _
          have hsz' : g + 1 ≤ (s1.setGen g gs').gens.size := hsz
          omega
        have hgI : s1.heap.IsGen a g := hgen I
        have hlI : s1.heap.NoLimit := I.nolimit
        exact wpAny_pure ⟨plainId_quiet PySem.F.plain_all_loop _, ih (s1.setGen g gs') hgI hlI ⟨gs', setGen_at szg, q2 ne _ rfl rfl (allBare_setGen bare1 rfl)⟩⟩
    · intro hsz
      obtain ⟨τ, H, I, qe⟩ := hp
      exact wpAny_bind (wpAny_rule (wpAny_pure (he s1 _ τ H I qe rfl (allBare_setGen I.bare rfl) hk hst)))
end

section
open PySem.Spec PyProof.Rows GenW GxR
variable {X : Cx} {pins : List (Addr × Obj)} {σ : L2.St}
/-- a generator that has not begun, ready for any, all -/
def GxReady (X : Cx) (pins : List (Addr × Obj)) (σ : L2.St) (stop : Bool) (Qs Qe : Hp → Prop) (a : Addr) (s5 : Shared) : Prop := ∃ (Y : Cx) (g n : Nat), Y.prog = X.prog ∧ Y.w = X.w ∧ (∀ {τ : L2.St} {H : Hp} {s : Shared}, Inv Y [] τ H s → s.heap.IsGen a g) ∧
  (∀ {τ : L2.St} {H : Hp} {s1 s' : Shared}, Inv Y [] τ H s1 → s'.os = s1.os → AllBare s'.gens → (∀ b o, s1.heap.get? b = some o → s'.heap.get? b = some o) → Inv X pins σ H s') ∧ s5.heap.IsGen a g ∧ s5.heap.NoLimit ∧
  ∃ gs, s5.gens[g]? = some gs ∧ gs.Goes (model X.prog X.w) X.A.in1.in1 (gxR Y Qe) (gxY Y stop Qs) n (.send .none) (s5.setGen g .running)
/-- the slots of the generator: none for its own names, the def's j-th for a captured one -/
def capSt (js : List (Option Nat)) (σ : L2.St) : L2.St := js.map fun o => match o with | none => none | some j => (σ[j]?).getD none
def tGx (P : Addr) (js : List (Option Nat)) (wi : TI) (g : TG) (tt : TT) (te : TE) (stop : Bool) : TE := fun σ H Q => wi σ H fun J H1 => TabG H1 P ∧ ∀ H2, Tabbed P H1 H2 → ∃ W : Nat → Nat → L2.St → Hp → Prop, (∃ m, W 0 m (capSt js σ) H2) ∧ tGxW J g tt te stop (fun H' => Q (.bl stop) H') (fun H' => Q (.bl (!stop)) H') W
/-- what a generator's scope needs -/
structure GxS (env : Env) (scope : Scope) : Prop where
  kind : scope.kind = .function
  co : scope.isCoroutine = false
  cell : ∀ y ∈ scope.names, y.2 ≠ .cell
  dot : scope.names.lookup (".0" : Str) = some NameKind.local
  free : ∀ y ∈ scope.names, y.2 = .free → ∃ c, env.cells.lookup y.1 = some c
theorem gx_made {c P : Addr} {elt iter tg : Expr} {ifs : List Expr} {gpos : Pos} {scope : Scope} {N : List Str} {js : List (Option Nat)} {wi : TI} {g : TG} {tt : TT} {te : TE} {k : Nat} {stop : Bool} {H : Hp} {s : Shared} {Q : VK} {Q' : Value → Shared → Prop} (hr : Room k X.A) (hcal : X.calm = true) (TB : TabB X.base X.mg c P) (hcode : X.env.code = .ref c) (S : GxS X.env scope)
    (hcap : ∀ σ : L2.St, CapOk X scope N σ (capSt js σ)) (hi : PI X tg iter wi) (hg : ∀ code s H ex pn, PG (gxOf X N scope code s H ex pn) tg g) (ht : ∀ code s H ex pn, PTs (gxOf X N scope code s H ex pn) ifs tt) (he : ∀ code s H ex pn, PE (gxOf X N scope code s H ex pn) elt te)
    (hs : ∀ v, genFold iter X.env v = pure v) (I : Inv X pins σ H s) (h : tGx P js wi g tt te stop σ H Q) (hQ : ∀ a s5, GxReady X pins σ stop (fun H' => Q (.bl stop) H') (fun H' => Q (.bl (!stop)) H') a s5 → Q' (.ref a) s5) :
    wpAny (model X.prog X.w) X.A (eval (.GeneratorExp elt [⟨tg, iter, ifs, 0⟩] scope gpos) X.env) Q' X.xe s := by
  refine wpAny_GeneratorExp_make S.co (closure_ok S.free) S.cell S.dot S.kind (by have := hr.dp; omega) ?_ hs
  refine thn (hi.run pins s σ H _ I h) fun xv s1 h1 => thn h1 fun itv s2 h2 => ?_
  obtain ⟨it, fp, tn, J, H1, rfl, I2, T, st2, f2, hP, step⟩ := h2
  obtain ⟨ps, eP, tr⟩ := hP
  have lim2 : s2.heap.NoLimit := I2.nolimit
  refine ⟨lim2, ?_⟩
  have hPs : s2.heap.get? P = some { cls := .none, data := .fields ps } := I2.hok P _ eP
  have cd : PySem.W.CodeHd s2.heap c P := TB.code.keeps fun b u e => I2.bk b u e
  have cont : ∀ (code : Value) (h3 : Heap) (tk : Nat) (ps' : Array Value), Heap.ExtBut P s2.heap h3 → s2.heap.objs.size ≤ h3.objs.size → h3.get? P = some { cls := .none, data := .fields ps' } → (∃ more, ps' = ps ++ more) → TriplesOk ps'.toList →
      wpAny (model X.prog X.w) X.A (builtinsFor X.env.globals X.env.builtins) (fun bi s4 => ∀ h', h'.Ns s4.heap.objs.size (fun (y : Str) => if y = ".0" then some (.ref it) else none) → Heap.SameBut s4.heap.objs.size (s4.heap.push { cls := .type "frame", data := .dict #[] }) h' →
        Q' (.ref h'.objs.size) { s4 with gens := s4.gens.push (.fresh (.compStart (.GeneratorExp elt [⟨tg, iter, ifs, 0⟩] scope gpos) 0 (.ref it) .none (genEnv scope (cloFrom X.env.cells scope.names []) s4.heap.objs.size code bi X.env))), toks := s4.toks + 1 + 1 + 1, heap := h'.push { cls := .type "generator", data := .fields #[.int s4.gens.size 0, .str "<genexpr>" (s4.toks + 1), .str (X.env.qual ++ "<genexpr>") (s4.toks + 1 + 1)] } }) X.xe { s2 with heap := h3, toks := tk } := by
    intro code h3 tk ps' hx hsz hP3 hmore ht3
    obtain ⟨bm, ob, e1, e2, e3, e4, e5, e6, e7, e8⟩ := TB.bm
    obtain ⟨more, rfl⟩ := hmore
    have kp3 : ∀ b u, b ≠ P → s2.heap.get? b = some u → h3.get? b = some u := fun b u hb e => hx b u hb e
    refine wpAny_builtinsFor (m := X.mg) (by rw [I2.ok.glob]; exact (I2.mod.glob.keeps I2.bk).extBut hx TB.gP) e1 e2 (kp3 _ _ e4 (I2.bk _ _ e5)) e6 e7 e8 ?_
    intro h' hn hsb
    obtain ⟨s4, hs4⟩ : ∃ s4 : Shared, s4 = { s2 with heap := h3, toks := tk } := ⟨_, rfl⟩
    have s4h : s4.heap = h3 := by rw [hs4]
    have J4 : Inv X pins σ (upd H1 P (.tbl (ps ++ more))) s4 := by
      rw [hs4]
      exact inv_tab (h' := h3) (g' := s2.gens) (d' := s2.drawn) (t' := tk) I2 eP kp3 hP3 I2.bare
    have fpP : ∀ b ∈ fp, b ≠ P := fun b hb e => by
      have := (f2 b hb).1
      rw [e, eP] at this; cases this
    have f4 : ∀ b ∈ fp, FpOk X pins (upd H1 P (.tbl (ps ++ more))) b ∧ ∃ o, s4.heap.get? b = some o := fun b hb => by
      obtain ⟨o, e, _⟩ := T.obj _ _ st2 b hb
      obtain ⟨g0, g1⟩ := f2 b hb
      exact ⟨⟨by rw [upd_ne (fpP b hb)]; exact g0, g1⟩, o, by rw [s4h]; exact kp3 b o (fpP b hb) e⟩
    have st4 : tn 0 s4.heap := by rw [s4h]; exact T.keep _ _ _ st2 fun b hb o e => kp3 b o (fpP b hb) e
    obtain ⟨W, ⟨m0, w0⟩, turn⟩ := step (upd H1 P (.tbl (ps ++ more))) ⟨⟨ps ++ more, upd_same, ht3⟩, fun b hb => upd_ne hb⟩
    show Q' (.ref h'.objs.size) _
    have hn4 : h'.Ns s4.heap.objs.size (fun (y : Str) => if y = ".0" then some (.ref it) else none) := by rw [s4h]; exact hn
    have sz' : h'.objs.size = s4.heap.objs.size + 1 := by rw [s4h]; rw [hsb.1, Heap.size_push]
    have k4 : ∀ b o, s4.heap.get? b = some o → h'.get? b = some o := fun b o e => by
      rw [s4h] at e
      exact hsb.extBut b o (Nat.ne_of_lt (Heap.lt_size e)) (Heap.get?_push_of_some _ e)
    obtain ⟨go, hgo⟩ : ∃ go : Obj, go = { cls := .type "generator", data := .fields #[.int s2.gens.size 0, .str "<genexpr>" (tk + 1), .str (X.env.qual ++ "<genexpr>") (tk + 1 + 1)] } := ⟨_, rfl⟩
    have kg : ∀ b o, s4.heap.get? b = some o → (h'.push go).get? b = some o := fun b o e => Heap.get?_push_of_some _ (k4 b o e)
    have eg : (h'.push go).get? h'.objs.size = some go := Heap.get?_push_size _ (by rw [hgo]; rfl)
    have gcell : ∀ v, go.data ≠ .cell v := fun v q => by rw [hgo] at q; cases q
    have isg : ∀ {h : Heap}, h.get? h'.objs.size = some go → h.IsGen h'.objs.size s2.gens.size := fun {h} e => ⟨go, _, _, e, by rw [hgo], by rw [hgo], by rw [hgo]⟩
    have lim5 : (h'.push go).NoLimit := J4.nolimit.keeps kg
    rw [← hgo]
    refine hQ _ _ ⟨gxOf X N scope code s4 (upd H1 P (.tbl (ps ++ more))) fp [(h'.objs.size, go)], s2.gens.size, m0 + 1, rfl, rfl, fun {τ H s} J => isg (J.pin (h'.objs.size, go) (List.mem_append_left _ (List.mem_singleton.mpr rfl))).1, fun {τ H s1 s'} J eo eb kk => ?_, isg eg, lim5, _, Array.getElem?_push_size .., rfl, ?_⟩
    · exact J4.call' (ch := fp) (eo.trans J.os) (J.base.trans (Un.kept kk)) (J.hok.kept kk) eb fun b hb => by
        obtain ⟨g0, g1, g2, g3, g4, g5⟩ := (f4 b hb).1
        exact ⟨g3, g1, g4, g5⟩
    · subst hs4
      have bare5 : AllBare (s2.gens.push (GenState.fresh (.compStart (.GeneratorExp elt [⟨tg, iter, ifs, 0⟩] scope gpos) 0 (.ref it) .none (gxEnv X scope h3.objs.size code)))) := AllBare.push I2.bare rfl
      have J5 : Inv (gxOf X N scope code { s2 with heap := h3, toks := tk } (upd H1 P (.tbl (ps ++ more))) fp [(h'.objs.size, go)]) [] (capSt js σ) (upd H1 P (.tbl (ps ++ more))) (Shared.setGen { s2 with gens := s2.gens.push (GenState.fresh (.compStart (.GeneratorExp elt [⟨tg, iter, ifs, 0⟩] scope gpos) 0 (.ref it) .none (gxEnv X scope h3.objs.size code))), toks := tk + 1 + 1 + 1, heap := h'.push go } s2.gens.size .running) :=
        gx_inv (m := fun (y : Str) => if y = ".0" then some (.ref it) else none) J4 hr.hd S.kind S.free S.cell f4 rfl (allBare_setGen bare5 rfl) kg (hn4.push _) eg (by rw [sz']; exact Nat.lt_succ_self _) gcell (hcap σ)
      refine gx_start (n := m0 + 1) hr.hd S.co T (hg _ _ _ _ _) (ht _ _ _ _ _) (he _ _ _ _ _) (fun {H'} hn0 b hb => ?_) turn (Nat.lt_succ_self m0) w0 J5 (T.keep _ _ _ st4 fun b hb o e => kg b o e) fun b hb => (f4 b hb).1.1
      obtain ⟨x1, x2⟩ := J5.ok.exf b hb
      refine ⟨hn0 b hb, x1, J5.ok.exfs b hb, .inl hb, x2, fun p hp e => ?_⟩
      have ep : p = (h'.objs.size, go) := by simpa [gxOf] using hp
      obtain ⟨o, eo⟩ := (f4 b hb).2
      have lt := Heap.lt_size eo
      rw [← e, ep] at lt
      have lt2 : (h'.objs.size : Nat) < h3.objs.size := lt
      have e3 : (h'.objs.size : Nat) = h3.objs.size + 1 := sz'
      omega
  cases hf : codeAmong gpos ps.toList with
  | none =>
    refine wpAny_genexprCodeX hcode (cd.code hPs tr) (cd.tab hPs) hf fun c' h' tk hx hge hlt hco' _ htab' _ => ?_
    obtain ⟨o1, vs, f1, tf, fl, tg', inF, tx, t2, op, _, _, _, _, _, _, _, _, _, htr, _⟩ := hco'
    exact cont _ h' tk _ hx (Nat.le_trans hge (Nat.le_of_lt hlt)) htab'.2 ⟨_, rfl⟩ htr
  | some cv =>
    refine wpAny_genexprCode_hit hcode (cd.code hPs tr) hf ?_
    exact cont cv s2.heap s2.toks ps (Heap.ExtBut.refl _ _) (Nat.le_refl _) hPs ⟨#[], by simp⟩ tr
end

section
open PySem.Spec PyProof.Rows GenW GxR
variable {X : Cx}
theorem pe_anyX {c P : Addr} {elt iter tg : Expr} {ifs : List Expr} {p pos gpos : Pos} {scope : Scope} {N : List Str} {js : List (Option Nat)} {wi : TI} {g : TG} {tt : TT} {te : TE} {k : Nat} (hr : Room (k + 1) X.A) (hcal : X.calm = true) (hgl : Gl X "any") (hmg : X.mg "any" = none) (TB : TabB X.base X.mg c P) (hcode : X.env.code = .ref c) (S : GxS X.env scope)
    (hcap : ∀ σ : L2.St, CapOk X scope N σ (capSt js σ)) (hi : PI X tg iter wi) (hg : ∀ code s H ex pn, PG (gxOf X N scope code s H ex pn) tg g) (ht : ∀ code s H ex pn, PTs (gxOf X N scope code s H ex pn) ifs tt) (he : ∀ code s H ex pn, PE (gxOf X N scope code s H ex pn) elt te) (hs : ∀ v, genFold iter X.env v = pure v)
    (hst : starEach [.GeneratorExp elt [⟨tg, iter, ifs, 0⟩] scope gpos] X.env = (false, eval (.GeneratorExp elt [⟨tg, iter, ifs, 0⟩] scope gpos) X.env) :: starEach [] X.env := by rfl) :
    PE X (.Call (.Name "any" p) [.GeneratorExp elt [⟨tg, iter, ifs, 0⟩] scope gpos] [] pos) (tGx P js wi g tt te true) := by
  refine ⟨fun pins s σ H Q I h => ?_⟩
  refine wpAny_Call_Name_kw (ld_blt I hgl hmg boot_any ?_)
  refine PyProof.Rows.callWith_builtin1 ?_ hst (by rfl)
  rw [hst]
  show wpAny _ _ (spliced ((false, eval (.GeneratorExp elt [⟨tg, iter, ifs, 0⟩] scope gpos) X.env) :: backTo pos (starEach [] X.env))) _ _ s
  refine Calls.spliced_cons (gx_made hr hcal TB hcode S hcap hi hg ht he hs I h fun a s5 hG => Calls.spliced_nil ?_)
  obtain ⟨Y, gg, n, hp, hw, hgen, back, hg5, hl5, hgs⟩ := hG
  refine call_function_tree PySem.F.kind_any PySem.F.plain_any PySem.F.entry_any (PySem.F.args_any1 _) ?_
  unfold Builtin.«any»
  refine wpAny_bind (m := oneArg "any" _) (wpAny_pure ?_)
  refine wpAny_bind (wpAny_pyIter_gen hg5 (wpAny_pure ⟨plainId_quiet PySem.F.plain_any_loop _, ?_⟩))
  refine gx_any (Y := Y) ⟨hp, hw⟩ (hr.mono (by omega)) hgen (fun s1 s' τ H' J qs eo eb kk _ => ?_) (fun s1 s' τ H' J qe eo eb kk _ => ?_) rfl n s5 hg5 hl5 hgs
  · exact ⟨.bl true, H', back J eo eb kk, rfl, qs⟩
  · exact ⟨.bl false, H', back J eo eb kk, rfl, qe⟩
theorem pe_allX {c P : Addr} {elt iter tg : Expr} {ifs : List Expr} {p pos gpos : Pos} {scope : Scope} {N : List Str} {js : List (Option Nat)} {wi : TI} {g : TG} {tt : TT} {te : TE} {k : Nat} (hr : Room (k + 1) X.A) (hcal : X.calm = true) (hgl : Gl X "all") (hmg : X.mg "all" = none) (TB : TabB X.base X.mg c P) (hcode : X.env.code = .ref c) (S : GxS X.env scope)
    (hcap : ∀ σ : L2.St, CapOk X scope N σ (capSt js σ)) (hi : PI X tg iter wi) (hg : ∀ code s H ex pn, PG (gxOf X N scope code s H ex pn) tg g) (ht : ∀ code s H ex pn, PTs (gxOf X N scope code s H ex pn) ifs tt) (he : ∀ code s H ex pn, PE (gxOf X N scope code s H ex pn) elt te) (hs : ∀ v, genFold iter X.env v = pure v)
    (hbt : bootBuiltins "all" = some (.builtin "all")) (hst : starEach [.GeneratorExp elt [⟨tg, iter, ifs, 0⟩] scope gpos] X.env = (false, eval (.GeneratorExp elt [⟨tg, iter, ifs, 0⟩] scope gpos) X.env) :: starEach [] X.env := by rfl) :
    PE X (.Call (.Name "all" p) [.GeneratorExp elt [⟨tg, iter, ifs, 0⟩] scope gpos] [] pos) (tGx P js wi g tt te false) := by
  refine ⟨fun pins s σ H Q I h => ?_⟩
  refine wpAny_Call_Name_kw (ld_blt I hgl hmg hbt ?_)
  refine PyProof.Rows.callWith_builtin1 ?_ hst (by rfl)
  rw [hst]
  show wpAny _ _ (spliced ((false, eval (.GeneratorExp elt [⟨tg, iter, ifs, 0⟩] scope gpos) X.env) :: backTo pos (starEach [] X.env))) _ _ s
  refine Calls.spliced_cons (gx_made hr hcal TB hcode S hcap hi hg ht he hs I h fun a s5 hG => Calls.spliced_nil ?_)
  obtain ⟨Y, gg, n, hp, hw, hgen, back, hg5, hl5, hgs⟩ := hG
  refine call_function_tree PySem.F.kind_all PySem.F.plain_all PySem.F.entry_all (PySem.F.args_all1 _) ?_
  unfold Builtin.«all»
  refine wpAny_bind (m := oneArg "all" _) (wpAny_pure ?_)
  refine wpAny_bind (wpAny_pyIter_gen hg5 (wpAny_pure ⟨plainId_quiet PySem.F.plain_all_loop _, ?_⟩))
  refine gx_all (Y := Y) ⟨hp, hw⟩ (hr.mono (by omega)) hgen (fun s1 s' τ H' J qs eo eb kk _ => ?_) (fun s1 s' τ H' J qe eo eb kk _ => ?_) rfl n s5 hg5 hl5 hgs
  · exact ⟨.bl false, H', back J eo eb kk, rfl, qs⟩
  · exact ⟨.bl true, H', back J eo eb kk, rfl, qe⟩
end

section
open PySem.Spec PyProof.Rows GenW GxR
def gxNames (d : Scope) (dN : List Str) (sc : Scope) (N : List Str) (js : List (Option Nat)) : Bool := (N.zip js).all fun p => match p.2 with
  | none => true
  | some j => decide (sc.names.lookup p.1 = some .free) && decide (d.names.lookup p.1 = some .cell) && decide (dN[j]? = some p.1)
theorem capOk_by {X : Cx} {sc d : Scope} {N dN : List Str} {js : List (Option Nat)} (e1 : X.env.scope = d) (e2 : X.N = dN) (hl : js.length = N.length) (h : gxNames d dN sc N js = true) : ∀ σ : L2.St, CapOk X sc N σ (capSt js σ) := by
  intro σ
  refine ⟨by unfold capSt; rw [List.length_map]; exact hl, fun i y v h1 h2 => ?_⟩
  unfold capSt at h2
  rw [List.getElem?_map] at h2
  obtain ⟨o, ho, hv⟩ := Option.map_eq_some_iff.mp h2
  cases o with
  | none => cases hv
  | some j =>
    have hv2 : (σ[j]?).getD none = some v := hv
    have hm : (y, some j) ∈ N.zip js := by
      refine List.mem_iff_getElem?.mpr ⟨i, ?_⟩
      rw [List.getElem?_zip_eq_some]
      exact ⟨h1, ho⟩
    have q := List.all_eq_true.mp h _ hm
    simp only [Bool.and_eq_true, decide_eq_true_eq] at q
    obtain ⟨⟨q1, q2⟩, q3⟩ := q
    have kd : X.env.scope.names.lookup y = some .cell := by rw [e1]; exact q2
    refine ⟨q1, .inl kd, .inr (.inl kd), j, by rw [e2]; exact q3, ?_⟩
    cases hs : σ[j]? with
    | none => rw [hs] at hv2; cases hv2
    | some u =>
      rw [hs] at hv2
      have : u = some v := hv2
      rw [this]
def gxLook (d sc : Scope) : Bool := decide (sc.kind = .function) && !sc.isCoroutine && sc.names.all (fun y => !decide (y.2 = .cell)) && decide (sc.names.lookup (".0" : Str) = some NameKind.local) && sc.names.all (fun y => !decide (y.2 = .free) || decide (d.names.lookup y.1 = some .cell))
theorem gxS_by {env : Env} {sc d : Scope} {n : Nat} (e1 : env.cells = cellsFrom n d.names []) (h : gxLook d sc = true) : GxS env sc := by
  unfold gxLook at h
  simp only [Bool.and_eq_true, Bool.not_eq_true', decide_eq_true_eq, List.all_eq_true, decide_eq_false_iff_not, Bool.or_eq_true] at h
  obtain ⟨⟨⟨⟨h1, h2⟩, h3⟩, h4⟩, h5⟩ := h
  refine ⟨h1, h2, h3, h4, fun y hy hf => ?_⟩
  rw [e1]
  rcases h5 y hy with z | z
  · exact absurd hf z
  · exact cell_has z
theorem room_gx {k : Nat} {A : Around} {e : Env} (r : Room (k + 3) A) : Room k (A.in1.in1.deeper e) := r.in1.in1.deeper e
/-- the generator's turns over a walk -/
theorem gx_it {J : It} {n : Nat} {G : Hp → Prop} {Y : Nat → Hp → V → Hp → Prop} (w : Walk J n G Y) {g : TG} {tt : TT} {te : TE} {τ : L2.St} {H1 : Hp} {stop : Bool} {Qs Qe : Hp → Prop} (Pv : Nat → L2.St → Hp → Prop) (h0 : Pv 0 τ H1) (hG : ∀ i τ H, i ≤ n → Pv i τ H → G H)
    (hs : ∀ i x τ H H', i < n → Pv i τ H → Y i H x H' → g x τ H' fun τ2 H2 => tt τ2 H2 fun b H3 => if b = true then te τ2 H3 fun y H4 => ∃ c, y = .bl c ∧ if c = stop then Qs H4 else Pv (i + 1) τ2 H4 else Pv (i + 1) τ2 H3) (hd : ∀ τ H, Pv n τ H → Qe H) :
    ∃ W : Nat → Nat → L2.St → Hp → Prop, (∃ m, W 0 m τ H1) ∧ tGxW J g tt te stop Qs Qe W := by
  refine ⟨fun i m τ H => m = n - i ∧ i ≤ n ∧ Pv i τ H, ⟨n, by simp, Nat.zero_le _, h0⟩, ?_⟩
  rintro i m τ H ⟨rfl, hi, p⟩
  have q := hG i τ H hi p
  by_cases hlt : i < n
  · exact .inr ⟨w.goes i H hlt q, Pv (i + 1), fun τ' H' p' => ⟨n - (i + 1), by omega, rfl, hlt, p'⟩, fun x H' y => hs i x τ H H' hlt p (w.yields i H x H' hlt q y)⟩
  · have e : i = n := by omega
    subst e
    exact .inl ⟨w.stops H q, hd τ H p⟩
end
section
open PySem.Spec PyProof.Rows
variable {P : Program} {w : World} {K : PySem.W.Frag} {mg : Str → Option Value} {base : Heap}
/-- a def whose code object is known by its place -/
theorem fun_okC {x qual : Str} {st : Stmt} {f c : Addr} {fd : FuncData} {N ps : List Str} {k : Nat} {sp : Sp} (F : Fun K x qual st f fd) (hc : fd.code = .ref c) (S : FnScope N ps (defScope st)) (len : ∀ vs H Q E, sp vs H Q E → vs.length = ps.length)
    (hbody : ∀ (A : Around) (outer : List Env) (s : Shared) (H : Hp) (vs : List V) (Q : VK) (E : XK), Room k (A.deeper (envOfC qual (defScope st) s.heap.objs.size f (.ref c))) → sp vs H Q E →
      ∃ t, PSs (cxOf CX0 P w K mg base N qual (defScope st) f (.ref c) A outer s H E).nox (defBody st) t ∧ t { nx := fun _ H' => Q .non H', rt := Q } (start N vs) H) : FnOk P w K mg base CX0 (k + 1) f fd ps sp := by
  obtain ⟨oc, od, kV, doc, pm, an, cdv, ct, osl, rfl, lk, hcd⟩ := F.ex
  have e : cdv = .ref c := hc
  subst e
  refine fn_of lk hcd S len fun A outer s H vs Q E hr hsp => ?_
  obtain ⟨t, h, q⟩ := hbody A outer s H vs Q E hr hsp
  exact ⟨t, h.nox, q⟩
end

/-! ### several tables of code objects: (P, none) of generators, (P, name) of lambdas -/
theorem fa_nil {α : Type} {M : α → Prop} : ∀ p ∈ ([] : List α), M p := fun p hp => nomatch hp
theorem fa_cons {α : Type} {M : α → Prop} {a : α} {l : List α} (h : M a) (t : ∀ p ∈ l, M p) : ∀ p ∈ a :: l, M p := fun p hp => by
  rcases List.mem_cons.mp hp with rfl | hp
  · exact h
  · exact t p hp
/-- the def's code object has its table at P -/
def TbF (base : Heap) (mg : Str → Option Value) (fd : FuncData) (P : Addr) : Prop := ∃ c, fd.code = .ref c ∧ LamX.TabB base mg c P
theorem tabB_of {base : Heap} {mg : Str → Option Value} {c P : Addr} (t : LamX.TabB base mg c P) : GxR.TabB base mg c P := ⟨t.code, t.bm, t.gP⟩
abbrev Tbl2 := Addr × Option Str

section
open GxR
def TabX (H : Hp) (t : Tbl2) : Prop := match t.2 with
  | none => TabG H t.1
  | some q => LamX.TabS H t.1 q
theorem TabX.tbl {H : Hp} {t : Tbl2} (h : TabX H t) : ∃ ps, H t.1 = some (.tbl ps) := by
  obtain ⟨P, o⟩ := t
  cases o with
  | none => obtain ⟨ps, e, _⟩ := (show TabG H P from h); exact ⟨ps, e⟩
  | some q => obtain ⟨ps, e, _⟩ := (show LamX.TabS H P q from h); exact ⟨ps, e⟩
/-- what is tracked away from the address P stands -/
theorem TabX.but {H H1 : Hp} {t : Tbl2} {P : Addr} (h : TabX H t) (hn : t.1 ≠ P) (k : ∀ b o, b ≠ P → H b = some o → H1 b = some o) (hP : ∀ c q, H P ≠ some (LamX.CodeO c q)) : TabX H1 t := by
  obtain ⟨R, o⟩ := t
  cases o with
  | none => obtain ⟨ps, e, z⟩ := (show TabG H R from h); exact (⟨ps, k _ _ hn e, z⟩ : TabG H1 R)
  | some q =>
    obtain ⟨ps, e, z, y⟩ := (show LamX.TabS H R q from h)
    refine (⟨ps, k _ _ hn e, z, fun pos cv hc => ?_⟩ : LamX.TabS H1 R q)
    obtain ⟨c, e1, e2⟩ := y pos cv hc
    exact ⟨c, e1, k _ _ (fun n => hP c q (by rw [← n]; exact e2)) e2⟩
theorem TabX.same {H H1 : Hp} {t : Tbl2} (h : TabX H t) (s : Same H H1) : TabX H1 t := by
  obtain ⟨R, o⟩ := t
  cases o with
  | none => obtain ⟨ps, e, z⟩ := (show TabG H R from h); exact (⟨ps, s _ _ e, z⟩ : TabG H1 R)
  | some q => exact LamX.TabS.ext (show LamX.TabS H R q from h) s
def TabsG (H : Hp) (Ps : List Tbl2) : Prop := (Ps.map (·.1)).Nodup ∧ ∀ t ∈ Ps, TabX H t
def noT (Ps : List Tbl2) (c : Addr) : Prop := ∀ t ∈ Ps, t.1 ≠ c
variable {Ps : List Tbl2} {P : Addr} {H H1 H2 : Hp}
theorem uniq_of : ∀ {Ps : List Tbl2}, (Ps.map (·.1)).Nodup → ∀ t ∈ Ps, ∀ u ∈ Ps, t.1 = u.1 → t = u
  | [], _, _, h, _, _, _ => nomatch h
  | a :: l, nd, t, ht, u, hu, e => by
    rw [List.map_cons, List.nodup_cons] at nd
    rcases List.mem_cons.mp ht with h1 | h1
    · rcases List.mem_cons.mp hu with h2 | h2
      · rw [h1, h2]
      · exact (nd.1 (List.mem_map.mpr ⟨u, h2, by rw [← e, h1]⟩)).elim
    · rcases List.mem_cons.mp hu with h2 | h2
      · exact (nd.1 (List.mem_map.mpr ⟨t, h1, by rw [e, h2]⟩)).elim
      · exact uniq_of nd.2 t h1 u h2 e
theorem TabsG.same (h : TabsG H Ps) (s : Same H H1) : TabsG H1 Ps := ⟨h.1, fun t ht => (h.2 t ht).same s⟩
/-- at the start all tables are empty -/
theorem TabsG.start (hn : (Ps.map (·.1)).Nodup) (h : ∀ P ∈ Ps.map (·.1), H P = some (.tbl #[])) : TabsG H Ps := ⟨hn, fun t ht => by
  have e := h t.1 (List.mem_map.mpr ⟨t, ht, rfl⟩)
  obtain ⟨R, o⟩ := t
  cases o with
  | none => exact (⟨#[], e, trivial⟩ : TabG H R)
  | some q => exact (LamX.TabS.nil e : LamX.TabS H R q)⟩
end

/-! ### layer Q: owned trees, states of slots with owned trees -/
namespace Q
open PySem L2 Y
inductive Tr where
  | dat (d : PyData)
  | lst (ds : List PyData)
  | vec (ts : List Tr)
  | dic (kvs : List (PyData × Tr))
  | dtu (kvs : List (List Key × PyData))
  | frz (kvs : List (PyData × PyData))
  | obj (c : Str) (fs : List (Str × Tr))
  | scr (ns : List Int)
inductive Sv where
  | un
  | own (t : Tr)
  | arg (t : Tr)
  | lent (t : Tr)
abbrev Env := List Sv
/-- keys: ints, texts, or tuples of such -/
inductive DK (K : PySem.W.Frag) (M : Hp) : List PyData → Prop
/-- entries of a dict whose keys are tuples of ints and texts, its values data -/
inductive KtOk (K : PySem.W.Frag) (M : Hp) : List (List Key × PyData) → List (List Key × V) → Prop
  | nil : KtOk K M [] []
  | cons {k : List Key} {d : PyData} {v : V} {ds : List (List Key × PyData)} {vs : List (List Key × V)} : Dq K M v d → KtOk K M ds vs → KtOk K M ((k, d) :: ds) ((k, v) :: vs)
theorem KtOk.same {K : PySem.W.Frag} {M M' : Hp} (m : Same M M') {ds : List (List Key × PyData)} {vs : List (List Key × V)} (h : KtOk K M ds vs) : KtOk K M' ds vs := by
  induction h with
  | nil => exact .nil
  | cons a _ ih => exact .cons (Dq.same m a) ih
mutual
inductive TrOk (K : PySem.W.Frag) (CA : Str → Addr) (M H : Hp) : Tr → V → List Addr → Prop
  | dat {d : PyData} {v : V} : Dq K M v d → TrOk K CA M H (.dat d) v []
  | lst {ds : List PyData} {p : Addr} {vs : List V} : H p = some (.lst vs) → DqAll K M vs ds → TrOk K CA M H (.lst ds) (.ref p) [p]
  | vec {ts : List Tr} {p : Addr} {vs : List V} {ps : List Addr} : H p = some (.lst vs) → VsOk K CA M H ts vs ps → TrOk K CA M H (.vec ts) (.ref p) (p :: ps)
  | dic {kvs : List (PyData × Tr)} {p : Addr} {vs : List (Key × V)} {ps : List Addr} : H p = some (.dK vs) → KvOk K CA M H kvs vs ps → TrOk K CA M H (.dic kvs) (.ref p) (p :: ps)
  | dtu {kvs : List (List Key × PyData)} {p : Addr} {vs : List (List Key × V)} : H p = some (.dT vs) → KtOk K M kvs vs → TrOk K CA M H (.dtu kvs) (.ref p) [p]
  | frz {kvs : List (PyData × PyData)} {p : Addr} {o : Obj} {vs : List (Key × V)} : M p = some (.frz o (.dK vs)) → DqKV K M vs kvs → TrOk K CA M H (.frz kvs) (.ref p) []
  | obj {c : Str} {a dx : Addr} {fs : List (Str × Tr)} {fvs : List (Str × V)} {ps : List Addr} : H a = some (.ins (CA c) dx fvs) → FsOk K CA M H fs fvs ps → TrOk K CA M H (.obj c fs) (.ref a) (a :: ps)
  | scr {ns : List Int} {a : Addr} : SqL K M a (ns.map V.int) → TrOk K CA M H (.scr ns) (.ref a) []
inductive FsOk (K : PySem.W.Frag) (CA : Str → Addr) (M H : Hp) : List (Str × Tr) → List (Str × V) → List Addr → Prop
  | nil : FsOk K CA M H [] [] []
  | cons {f : Str} {t : Tr} {v : V} {p1 p2 : List Addr} {fs : List (Str × Tr)} {fvs : List (Str × V)} : TrOk K CA M H t v p1 → FsOk K CA M H fs fvs p2 → FsOk K CA M H ((f, t) :: fs) ((f, v) :: fvs) (p1 ++ p2)
inductive KvOk (K : PySem.W.Frag) (CA : Str → Addr) (M H : Hp) : List (PyData × Tr) → List (Key × V) → List Addr → Prop
  | nil : KvOk K CA M H [] [] []
  | cons {k : Key} {t : Tr} {v : V} {p1 p2 : List Addr} {fs : List (PyData × Tr)} {fvs : List (Key × V)} : TrOk K CA M H t v p1 → KvOk K CA M H fs fvs p2 → KvOk K CA M H ((keyD k, t) :: fs) ((k, v) :: fvs) (p1 ++ p2)
inductive VsOk (K : PySem.W.Frag) (CA : Str → Addr) (M H : Hp) : List Tr → List V → List Addr → Prop
  | nil : VsOk K CA M H [] [] []
  | cons {t : Tr} {v : V} {p1 p2 : List Addr} {fs : List Tr} {fvs : List V} : TrOk K CA M H t v p1 → VsOk K CA M H fs fvs p2 → VsOk K CA M H (t :: fs) (v :: fvs) (p1 ++ p2)
end
section
variable {K : PySem.W.Frag} {CA : Str → Addr} {M H M' H' : Hp}
mutual
theorem TrOk.mono (m : Same M M') : ∀ {t : Tr} {v : V} {fp : List Addr}, (∀ a ∈ fp, H' a = H a) → TrOk K CA M H t v fp → TrOk K CA M' H' t v fp
  | _, _, _, _, .dat a => .dat (Dq.same m a)
  | _, _, _, h, .lst a b => .lst (by rw [h _ (List.mem_singleton.mpr rfl)]; exact a) (DqAll.same m b)
  | _, _, _, h, .vec a b => .vec (by rw [h _ List.mem_cons_self]; exact a) (VsOk.mono m (fun y hy => h y (List.mem_cons_of_mem _ hy)) b)
  | _, _, _, h, .dic a b => .dic (by rw [h _ List.mem_cons_self]; exact a) (KvOk.mono m (fun y hy => h y (List.mem_cons_of_mem _ hy)) b)
  | _, _, _, h, .dtu a b => .dtu (by rw [h _ (List.mem_singleton.mpr rfl)]; exact a) (KtOk.same m b)
  | _, _, _, h, .frz a b => .frz (m _ _ a) (DqKV.same m b)
  | _, _, _, h, .obj a b => .obj (by rw [h _ List.mem_cons_self]; exact a) (FsOk.mono m (fun y hy => h y (List.mem_cons_of_mem _ hy)) b)
  | _, _, _, _, .scr a => .scr (Same.sqL m a)
theorem FsOk.mono (m : Same M M') : ∀ {fs : List (Str × Tr)} {fvs : List (Str × V)} {fp : List Addr}, (∀ a ∈ fp, H' a = H a) → FsOk K CA M H fs fvs fp → FsOk K CA M' H' fs fvs fp
  | _, _, _, _, .nil => .nil
  | _, _, _, h, .cons a b => .cons (TrOk.mono m (fun y hy => h y (List.mem_append_left _ hy)) a) (FsOk.mono m (fun y hy => h y (List.mem_append_right _ hy)) b)
theorem KvOk.mono (m : Same M M') : ∀ {fs : List (PyData × Tr)} {fvs : List (Key × V)} {fp : List Addr}, (∀ a ∈ fp, H' a = H a) → KvOk K CA M H fs fvs fp → KvOk K CA M' H' fs fvs fp
  | _, _, _, _, .nil => .nil
  | _, _, _, h, .cons a b => .cons (TrOk.mono m (fun y hy => h y (List.mem_append_left _ hy)) a) (KvOk.mono m (fun y hy => h y (List.mem_append_right _ hy)) b)
theorem VsOk.mono (m : Same M M') : ∀ {fs : List Tr} {fvs : List V} {fp : List Addr}, (∀ a ∈ fp, H' a = H a) → VsOk K CA M H fs fvs fp → VsOk K CA M' H' fs fvs fp
  | _, _, _, _, .nil => .nil
  | _, _, _, h, .cons a b => .cons (TrOk.mono m (fun y hy => h y (List.mem_append_left _ hy)) a) (VsOk.mono m (fun y hy => h y (List.mem_append_right _ hy)) b)
end
/-- what may be owned -/
def OwnO : HO → Prop
  | .lst _ => True
  | .dK _ => True
  | .dT _ => True
  | .ins _ _ _ => True
  | _ => False
mutual
theorem TrOk.kind : ∀ {t : Tr} {v : V} {fp : List Addr}, TrOk K CA M H t v fp → ∀ a ∈ fp, ∃ o, H a = some o ∧ OwnO o
  | _, _, _, .dat _, a, h => nomatch h
  | _, _, _, .lst e _, a, h => by rw [List.mem_singleton.mp h]; exact ⟨_, e, trivial⟩
  | _, _, _, .vec e b, a, h => by
    rcases List.mem_cons.mp h with rfl | h
    · exact ⟨_, e, trivial⟩
    · exact VsOk.kind b a h
  | _, _, _, .dic e b, a, h => by
    rcases List.mem_cons.mp h with rfl | h
    · exact ⟨_, e, trivial⟩
    · exact KvOk.kind b a h
  | _, _, _, .dtu e _, a, h => by rw [List.mem_singleton.mp h]; exact ⟨_, e, trivial⟩
  | _, _, _, .frz _ _, a, h => nomatch h
  | _, _, _, .obj e b, a, h => by
    rcases List.mem_cons.mp h with rfl | h
    · exact ⟨_, e, trivial⟩
    · exact FsOk.kind b a h
  | _, _, _, .scr _, a, h => nomatch h
theorem FsOk.kind : ∀ {fs : List (Str × Tr)} {fvs : List (Str × V)} {fp : List Addr}, FsOk K CA M H fs fvs fp → ∀ a ∈ fp, ∃ o, H a = some o ∧ OwnO o
  | _, _, _, .nil, a, h => nomatch h
  | _, _, _, .cons x y, a, h => (List.mem_append.mp h).elim (TrOk.kind x a) (FsOk.kind y a)
theorem KvOk.kind : ∀ {fs : List (PyData × Tr)} {fvs : List (Key × V)} {fp : List Addr}, KvOk K CA M H fs fvs fp → ∀ a ∈ fp, ∃ o, H a = some o ∧ OwnO o
  | _, _, _, .nil, a, h => nomatch h
  | _, _, _, .cons x y, a, h => (List.mem_append.mp h).elim (TrOk.kind x a) (KvOk.kind y a)
theorem VsOk.kind : ∀ {fs : List Tr} {fvs : List V} {fp : List Addr}, VsOk K CA M H fs fvs fp → ∀ a ∈ fp, ∃ o, H a = some o ∧ OwnO o
  | _, _, _, .nil, a, h => nomatch h
  | _, _, _, .cons x y, a, h => (List.mem_append.mp h).elim (TrOk.kind x a) (VsOk.kind y a)
end
theorem OwnO.code {o : HO} (h : OwnO o) (c : Addr) (q : Str) : o ≠ LamX.CodeO c q := fun z => by rw [z] at h; exact h
theorem OwnO.tbl {o : HO} (h : OwnO o) (ps : Array Value) : o ≠ .tbl ps := fun z => by rw [z] at h; exact h
end
/-! ### states -/
def SlOk (K : PySem.W.Frag) (CA : Str → Addr) (Tb : List Tbl2) (H0 M H : Hp) (pn : V × List Addr) : Sv → Option V → List Addr → Prop
  | .un, _, fp => fp = []
  | .own t, o, fp => ∃ v, o = some v ∧ TrOk K CA M H t v fp
  | .arg t, o, fp => o = some pn.1 ∧ TrOk K CA M H t pn.1 fp
  | .lent t, o, fp => fp = [] ∧ o = some pn.1 ∧ TrOk K CA M H0 t pn.1 pn.2
structure SlsOk (K : PySem.W.Frag) (CA : Str → Addr) (Tb : List Tbl2) (H0 M H : Hp) (pin : Nat → V × List Addr) (env : Env) (σ : L2.St) (fps : List (List Addr)) : Prop where
  le : env.length = σ.length
  lf : fps.length = σ.length
  at_ : ∀ (i : Nat) (s : Sv) (o : Option V) (fp : List Addr), env[i]? = some s → σ[i]? = some o → fps[i]? = some fp → SlOk K CA Tb H0 M H (pin i) s o fp
structure Ok (K : PySem.W.Frag) (CA : Str → Addr) (Tb : List Tbl2) (H0 M0 : Hp) (pin : Nat → V × List Addr) (env : Env) (fps : List (List Addr)) (σ : L2.St) (H M : Hp) : Prop where
  base : ∀ a o, H0 a = some o → noT Tb a → H a = some o
  tab : TabsG H Tb
  tab0 : ∀ t ∈ Tb, H0 t.1 ≠ none
  sub : Same M H
  mt : ∀ a o, M a = some o → noT Tb a
  grow : Same M0 M
  new : ∀ a o, M a = some o → M0 a = some o ∨ H0 a = none
  sls : SlsOk K CA Tb H0 M H pin env σ fps
  nd : fps.flatten.Nodup
  own : ∀ a ∈ fps.flatten, H0 a = none ∧ M a = none ∧ H a ≠ none
  pinOk : ∀ (i : Nat), ∀ a ∈ (pin i).2, H0 a ≠ none ∧ noT Tb a
/-- what a step may do: its own addresses fp, new ones, tables -/
structure Chg (Tb : List Tbl2) (H M : Hp) (fp : List Addr) (H' M' : Hp) : Prop where
  h : ∀ a o, H a = some o → a ∉ fp → noT Tb a → H' a = some o
  t : TabsG H' Tb
  m : Same M M'
  s : Same M' H'
  n : ∀ a o, M' a = some o → M a = some o ∨ H a = none ∨ a ∈ fp
  mt : ∀ a o, M' a = some o → noT Tb a
section
variable {K : PySem.W.Frag} {CA : Str → Addr} {Tb : List Tbl2} {H0 M0 H M H' M' : Hp} {pin : Nat → V × List Addr} {env : Env} {fps : List (List Addr)} {σ : L2.St}
theorem noT_of {H : Hp} {a : Addr} {o : HO} (t : TabsG H Tb) (h : H a = some o) (n : ∀ ps, o ≠ .tbl ps) : noT Tb a := fun x hx e => by
  obtain ⟨ps, e2⟩ := (t.2 x hx).tbl
  rw [e, h] at e2
  exact n ps (Option.some.inj e2)
theorem tab_ne {H : Hp} {a : Addr} (t : TabsG H Tb) (h : H a = none) : noT Tb a := fun x hx e => by
  obtain ⟨ps, e2⟩ := (t.2 x hx).tbl
  rw [e, h] at e2
  cases e2
theorem Chg.refl (t : TabsG H Tb) (s : Same M H) (mt : ∀ a o, M a = some o → noT Tb a) : Chg Tb H M [] H M := ⟨fun _ _ e _ _ => e, t, Same.refl M, s, fun _ _ e => .inl e, mt⟩
theorem Chg.of (t : TabsG H Tb) (mt : ∀ a o, M a = some o → noT Tb a) (x : Ext H M H' M') : Chg Tb H M [] H' M' :=
  ⟨fun a o e _ _ => x.h a o e, t.same x.h, x.m, x.s, fun a o e => (x.n a o e).imp id .inl, fun a o e => by
    rcases x.n a o e with z | z
    · exact mt a o z
    · exact tab_ne t z⟩
/-- own things are written -/
theorem TabsG.but {fp : List Addr} (t : TabsG H Tb) (hk : ∀ a ∈ fp, ∃ o, H a = some o ∧ OwnO o) (h : ∀ a o, H a = some o → a ∉ fp → H' a = some o) : TabsG H' Tb := by
  refine ⟨t.1, fun x hx => ?_⟩
  have hx2 := t.2 x hx
  have no : ∀ a o, H a = some o → (∀ u, OwnO u → o ≠ u) → H' a = some o := fun a o e n => h a o e fun z => by
    obtain ⟨u, e2, ou⟩ := hk a z
    rw [e] at e2
    exact n u ou (Option.some.inj e2)
  obtain ⟨R, q⟩ := x
  cases q with
  | none =>
    obtain ⟨ps, e, z⟩ := (show GxR.TabG H R from hx2)
    exact (⟨ps, no _ _ e fun u ou q => ou.tbl ps q.symm, z⟩ : GxR.TabG H' R)
  | some q =>
    obtain ⟨ps, e, z, y⟩ := (show LamX.TabS H R q from hx2)
    refine (⟨ps, no _ _ e fun u ou q => ou.tbl ps q.symm, z, fun pos cv hc => ?_⟩ : LamX.TabS H' R q)
    obtain ⟨c, e1, e2⟩ := y pos cv hc
    exact ⟨c, e1, no _ _ e2 fun u ou q => ou.code c _ q.symm⟩
theorem SlsOk.get (k : SlsOk K CA Tb H0 M H pin env σ fps) {i : Nat} {s : Sv} (h : env[i]? = some s) : ∃ o fp, σ[i]? = some o ∧ fps[i]? = some fp ∧ SlOk K CA Tb H0 M H (pin i) s o fp := by
  have hi : i < env.length := (List.getElem?_eq_some_iff.mp h).1
  have h1 : i < σ.length := by rw [← k.le]; exact hi
  have h2 : i < fps.length := by rw [k.lf]; exact h1
  exact ⟨_, _, List.getElem?_eq_getElem h1, List.getElem?_eq_getElem h2, k.at_ i s _ _ h (List.getElem?_eq_getElem h1) (List.getElem?_eq_getElem h2)⟩
theorem SlOk.mono {pn : V × List Addr} (m : Same M M') : ∀ {s : Sv} {o : Option V} {fp : List Addr}, (∀ a ∈ fp, H' a = H a) → SlOk K CA Tb H0 M H pn s o fp → SlOk K CA Tb H0 M' H' pn s o fp
  | .un, _, _, _, x => x
  | .own t, _, _, h, ⟨v, e, x⟩ => ⟨v, e, x.mono m h⟩
  | .arg t, _, _, h, ⟨e, x⟩ => ⟨e, x.mono m h⟩
  | .lent t, _, _, h, ⟨e1, e2, x⟩ => ⟨e1, e2, x.mono m (fun _ _ => rfl)⟩
theorem flat_memG {fp : List Addr} : ∀ {fps : List (List Addr)} {i : Nat} {a : Addr}, a ∈ (fps.set i fp).flatten → a ∈ fp ∨ a ∈ (fps.set i []).flatten := by
  intro fps
  induction fps with
  | nil => intro i a h; exact nomatch h
  | cons f fps ih =>
    intro i a h
    cases i with
    | zero =>
      rw [List.set_cons_zero, List.flatten_cons, List.mem_append] at h
      rw [List.set_cons_zero, List.flatten_cons, List.nil_append]
      exact h
    | succ i =>
      rw [List.set_cons_succ, List.flatten_cons, List.mem_append] at h
      rw [List.set_cons_succ, List.flatten_cons, List.mem_append]
      rcases h with h | h
      · exact .inr (.inl h)
      · exact (ih h).imp id .inr
theorem flat_ndG {fp : List Addr} (nd' : fp.Nodup) : ∀ {fps : List (List Addr)} {i : Nat}, fps.flatten.Nodup → (∀ a ∈ fp, a ∉ (fps.set i []).flatten) → (fps.set i fp).flatten.Nodup := by
  intro fps
  induction fps with
  | nil => intro i h _; exact h
  | cons f fps ih =>
    intro i h hne
    rw [List.flatten_cons, List.nodup_append] at h
    cases i with
    | zero =>
      rw [List.set_cons_zero, List.flatten_cons, List.nil_append] at hne
      rw [List.set_cons_zero, List.flatten_cons, List.nodup_append]
      exact ⟨nd', h.2.1, fun x hx y hy e => hne x hx (by rw [e]; exact hy)⟩
    | succ i =>
      rw [List.set_cons_succ, List.flatten_cons] at hne
      rw [List.set_cons_succ, List.flatten_cons, List.nodup_append]
      refine ⟨h.1, ih h.2.1 (fun a ha z => hne a ha (List.mem_append_right _ z)), fun x hx y hy e => ?_⟩
      rcases flat_memG hy with z | z
      · exact hne y z (by rw [← e]; exact List.mem_append_left _ hx)
      · exact h.2.2 x hx y (flat_set z) e
theorem nd_slot {fps : List (List Addr)} {i : Nat} {fp : List Addr} (nd : fps.flatten.Nodup) (h : fps[i]? = some fp) : fp.Nodup := by
  induction fps generalizing i with
  | nil => cases h
  | cons f fps ih =>
    rw [List.flatten_cons, List.nodup_append] at nd
    cases i with
    | zero => rw [← Option.some.inj h]; exact nd.1
    | succ i => exact ih nd.2.1 (by simpa using h)
theorem flat_mem2 {fps : List (List Addr)} {i j : Nat} {fp : List Addr} {a : Addr} (h : fps[j]? = some fp) (n : j ≠ i) (ha : a ∈ fp) : a ∈ (fps.set i []).flatten :=
  List.mem_flatten.mpr ⟨fp, List.mem_of_getElem? (i := j) (by rw [List.getElem?_set_ne (fun z => n z.symm)]; exact h), ha⟩
/-- the thing in slot i changes (its value may, too), its addresses and new ones alone -/
theorem Ok.chg {i : Nat} {fp fp' : List Addr} {s' : Sv} {o' : Option V} (k : Ok K CA Tb H0 M0 pin env fps σ H M) (hf : fps[i]? = some fp) (c : Chg Tb H M fp H' M')
    (nd' : fp'.Nodup) (hp : ∀ a ∈ fp', (a ∈ fp ∨ H a = none) ∧ M' a = none ∧ H' a ≠ none) (x : SlOk K CA Tb H0 M' H' (pin i) s' o' fp') : Ok K CA Tb H0 M0 pin (env.set i s') (fps.set i fp') (σ.set i o') H' M' := by
  have nt : ∀ a ∈ fps.flatten, noT Tb a := fun a ha x hx e => k.tab0 x hx (by rw [e]; exact (k.own a ha).1)
  have oth : ∀ a ∈ (fps.set i []).flatten, a ∉ fp ∧ H a ≠ none := fun a ha => ⟨fun z => flat_other k.nd hf z ha rfl, (k.own a (flat_set ha)).2.2⟩
  have keep : ∀ a, a ∉ fp → H a ≠ none → noT Tb a → H' a = H a := fun a h1 h2 h3 => by
    cases e : H a with
    | none => exact absurd e h2
    | some u => exact c.h a u e h1 h3
  refine ⟨fun a u e z => ?_, c.t, k.tab0, c.s, c.mt, k.grow.trans c.m, fun a o e => ?_, ⟨by rw [List.length_set, List.length_set]; exact k.sls.le, by rw [List.length_set, List.length_set]; exact k.sls.lf, fun j s o f h1 h2 h3 => ?_⟩, flat_ndG nd' k.nd (fun a ha z => ?_), fun a ha => ?_, k.pinOk⟩
  · have e1 := k.base a u e z
    rw [keep a (fun z => by rw [(k.own a (mem_flat hf z)).1] at e; cases e) (by rw [e1]; exact fun z => by cases z) z]
    exact e1
  · rcases c.n a o e with z | z | z
    · exact k.new a o z
    · refine .inr ?_
      cases e0 : H0 a with
      | none => rfl
      | some u =>
        have := k.base a u e0 (tab_ne k.tab z)
        rw [z] at this; cases this
    · exact .inr (k.own a (mem_flat hf z)).1
  · by_cases e : i = j
    · subst e
      have hi : i < fps.length := (List.getElem?_eq_some_iff.mp hf).1
      rw [List.getElem?_set_self (by rw [k.sls.le, ← k.sls.lf]; exact hi)] at h1
      rw [List.getElem?_set_self (by rw [← k.sls.lf]; exact hi)] at h2
      rw [List.getElem?_set_self hi] at h3
      rw [← Option.some.inj h1, ← Option.some.inj h2, ← Option.some.inj h3]
      exact x
    · rw [List.getElem?_set_ne e] at h1 h2 h3
      refine SlOk.mono c.m (fun a ha => ?_) (k.sls.at_ j s o f h1 h2 h3)
      have q := oth a (flat_mem2 h3 (fun z => e z.symm) ha)
      exact keep a q.1 q.2 (nt a (mem_flat h3 ha))
  · rcases (hp a ha).1 with c | c
    · exact (oth a z).1 c
    · exact (oth a z).2 c
  · rcases flat_memG ha with z | z
    · obtain ⟨h1, h2, h3⟩ := hp a z
      refine ⟨?_, h2, h3⟩
      rcases h1 with c | c
      · exact (k.own a (mem_flat hf c)).1
      · cases e0 : H0 a with
        | none => rfl
        | some u =>
          have := k.base a u e0 (tab_ne k.tab c)
          rw [c] at this; cases this
    · obtain ⟨f1, f2, f3⟩ := k.own a (flat_set z)
      refine ⟨f1, ?_, by rw [keep a (oth a z).1 f3 (nt a (flat_set z))]; exact f3⟩
      cases e : M' a with
      | none => rfl
      | some u =>
        rcases c.n a u e with e | e | e
        · rw [f2] at e; cases e
        · exact absurd e f3
        · exact absurd e (oth a z).1
/-- nothing of its own changes -/
theorem Ok.ext (k : Ok K CA Tb H0 M0 pin env fps σ H M) (c : Chg Tb H M [] H' M') : Ok K CA Tb H0 M0 pin env fps σ H' M' := by
  have nt : ∀ a ∈ fps.flatten, noT Tb a := fun a ha x hx e => k.tab0 x hx (by rw [e]; exact (k.own a ha).1)
  have keep : ∀ a, H a ≠ none → noT Tb a → H' a = H a := fun a h2 h3 => by
    cases e : H a with
    | none => exact absurd e h2
    | some u => exact c.h a u e (fun z => nomatch z) h3
  refine ⟨fun a u e z => c.h a u (k.base a u e z) (fun z => nomatch z) z, c.t, k.tab0, c.s, c.mt, k.grow.trans c.m, fun a o e => ?_, ⟨k.sls.le, k.sls.lf, fun j s o f h1 h2 h3 => ?_⟩, k.nd, fun a ha => ?_, k.pinOk⟩
  · rcases c.n a o e with z | z | z
    · exact k.new a o z
    · refine .inr ?_
      cases e0 : H0 a with
      | none => rfl
      | some u =>
        have := k.base a u e0 (tab_ne k.tab z)
        rw [z] at this; cases this
    · exact nomatch z
  · exact SlOk.mono c.m (fun a ha => keep a (k.own a (mem_flat h3 ha)).2.2 (nt a (mem_flat h3 ha))) (k.sls.at_ j s o f h1 h2 h3)
  · obtain ⟨f1, f2, f3⟩ := k.own a ha
    refine ⟨f1, ?_, by rw [keep a f3 (nt a ha)]; exact f3⟩
    cases e : M' a with
    | none => rfl
    | some u =>
      rcases c.n a u e with e | e | e
      · rw [f2] at e; cases e
      · exact absurd e f3
      · exact nomatch e
theorem Ok.chg0 (k : Ok K CA Tb H0 M0 pin env fps σ H M) (x : Ext H M H' M') : Chg Tb H M [] H' M' := Chg.of k.tab k.mt x
theorem Ok.extE (k : Ok K CA Tb H0 M0 pin env fps σ H M) (x : Ext H M H' M') : Ok K CA Tb H0 M0 pin env fps σ H' M' := k.ext (k.chg0 x)
/-- data goes to slot i -/
theorem Ok.setD {i : Nat} {v : V} {d : PyData} (k : Ok K CA Tb H0 M0 pin env fps σ H M) (hi : i < env.length) (h : Dq K M v d) : Ok K CA Tb H0 M0 pin (env.set i (.own (.dat d))) (fps.set i []) (σ.set i (some v)) H M := by
  have hf : i < fps.length := by rw [k.sls.lf, ← k.sls.le]; exact hi
  refine k.chg (List.getElem?_eq_getElem hf) ⟨fun _ _ e _ _ => e, k.tab, Same.refl M, k.sub, fun _ _ e => .inl e, k.mt⟩ List.nodup_nil (fun a ha => nomatch ha) ⟨v, rfl, .dat h⟩
/-- slot i is forgotten -/
theorem Ok.setU {i : Nat} {o : Option V} (k : Ok K CA Tb H0 M0 pin env fps σ H M) (hi : i < env.length) : Ok K CA Tb H0 M0 pin (env.set i .un) (fps.set i []) (σ.set i o) H M := by
  have hf : i < fps.length := by rw [k.sls.lf, ← k.sls.le]; exact hi
  exact k.chg (List.getElem?_eq_getElem hf) ⟨fun _ _ e _ _ => e, k.tab, Same.refl M, k.sub, fun _ _ e => .inl e, k.mt⟩ List.nodup_nil (fun a ha => nomatch ha) (show SlOk K CA Tb H0 M H (pin i) .un o [] from rfl)
/-- a new tree goes to slot i -/
theorem Ok.setN {i : Nat} {v : V} {t : Tr} {fr : List Addr} (k : Ok K CA Tb H0 M0 pin env fps σ H M) (hi : i < env.length) (h : TrOk K CA M H t v fr) (nd : fr.Nodup) (hn : ∀ a ∈ fr, H0 a = none ∧ M a = none ∧ a ∉ fps.flatten) : Ok K CA Tb H0 M0 pin (env.set i (.own t)) (fps.set i fr) (σ.set i (some v)) H M := by
  have hf : i < fps.length := by rw [k.sls.lf, ← k.sls.le]; exact hi
  have nl : ∀ a ∈ fr, H a ≠ none := fun a ha => by
    obtain ⟨o, e, _⟩ := h.kind a ha
    rw [e]; exact fun z => nomatch z
  refine ⟨k.base, k.tab, k.tab0, k.sub, k.mt, k.grow, k.new, ⟨by rw [List.length_set, List.length_set]; exact k.sls.le, by rw [List.length_set, List.length_set]; exact k.sls.lf, fun j s o f h1 h2 h3 => ?_⟩, flat_ndG nd k.nd (fun a ha z => (hn a ha).2.2 (flat_set z)), fun a ha => ?_, k.pinOk⟩
  · by_cases e : i = j
    · subst e
      rw [List.getElem?_set_self hi] at h1
      rw [List.getElem?_set_self (by rw [← k.sls.le]; exact hi)] at h2
      rw [List.getElem?_set_self hf] at h3
      rw [← Option.some.inj h1, ← Option.some.inj h2, ← Option.some.inj h3]
      exact ⟨v, rfl, h⟩
    · rw [List.getElem?_set_ne e] at h1 h2 h3
      exact k.sls.at_ j s o f h1 h2 h3
  · rcases flat_memG ha with z | z
    · exact ⟨(hn a z).1, (hn a z).2.1, nl a z⟩
    · exact k.own a (flat_set z)
end
end Q

/-! ### layer Q: judgements, expressions -/
namespace Q
open PySem L2 Y
/-- what is read: data of the view, or a list that is lent -/
inductive Rv (K : PySem.W.Frag) (Tb : List Tbl2) (M H0 : Hp) : V → PyData → Prop
  | dq {v : V} {d : PyData} : Dq K M v d → Rv K Tb M H0 v d
  | own {p : Addr} {vs : List V} {ds : List PyData} : H0 p = some (.lst vs) → noT Tb p → DqAll K M vs ds → Rv K Tb M H0 (.ref p) (.list ds)
inductive RvA (K : PySem.W.Frag) (Tb : List Tbl2) (M H0 : Hp) : List V → List PyData → Prop
  | nil : RvA K Tb M H0 [] []
  | cons {v : V} {vs : List V} {d : PyData} {ds : List PyData} : Rv K Tb M H0 v d → RvA K Tb M H0 vs ds → RvA K Tb M H0 (v :: vs) (d :: ds)
inductive Out where
  | nx (e : Env)
  | ret (t : Tr) (e : Env)
  | brk (e : Env)
  | cont (e : Env)
def Fresh (H0 M : Hp) (fps : List (List Addr)) (fr : List Addr) : Prop := fr.Nodup ∧ ∀ a ∈ fr, H0 a = none ∧ M a = none ∧ a ∉ fps.flatten
section
variable (K : PySem.W.Frag) (CA : Str → Addr) (Tb : List Tbl2)
abbrev XD := Env → Option (PyData × Env)
abbrev XN := Env → Option (Tr × Env)
abbrev XA := Env → Option (List PyData × Env)
abbrev XB := Env → Option (Bool × Env)
abbrev XS := Env → Option Out
def SimD (t : TE) (x : XD) : Prop := ∀ (env : Env) (d : PyData) (env' : Env), x env = some (d, env') → ∀ (H0 M0 : Hp) (pin : Nat → V × List Addr) (fps : List (List Addr)) (σ : L2.St) (H M : Hp) (Q : VK), Ok K CA Tb H0 M0 pin env fps σ H M →
  (∀ v H' M' fps', Ok K CA Tb H0 M0 pin env' fps' σ H' M' → Same M M' → Dq K M' v d → Q v H') → t σ H Q
def SimR (t : TE) (x : XD) : Prop := ∀ (env : Env) (d : PyData) (env' : Env), x env = some (d, env') → ∀ (H0 M0 : Hp) (pin : Nat → V × List Addr) (fps : List (List Addr)) (σ : L2.St) (H M : Hp) (Q : VK), Ok K CA Tb H0 M0 pin env fps σ H M →
  (∀ v H' M' fps', Ok K CA Tb H0 M0 pin env' fps' σ H' M' → Same M M' → Rv K Tb M' H0 v d → Q v H') → t σ H Q
def SimN (t : TE) (x : XN) : Prop := ∀ (env : Env) (d : Tr) (env' : Env), x env = some (d, env') → ∀ (H0 M0 : Hp) (pin : Nat → V × List Addr) (fps : List (List Addr)) (σ : L2.St) (H M : Hp) (Q : VK), Ok K CA Tb H0 M0 pin env fps σ H M →
  (∀ v H' M' fps' fr, Ok K CA Tb H0 M0 pin env' fps' σ H' M' → Same M M' → TrOk K CA M' H' d v fr → Fresh H0 M' fps' fr → Q v H') → t σ H Q
def SimA (t : TA) (x : XA) : Prop := ∀ (env : Env) (d : List PyData) (env' : Env), x env = some (d, env') → ∀ (H0 M0 : Hp) (pin : Nat → V × List Addr) (fps : List (List Addr)) (σ : L2.St) (H M : Hp) (Q : List V → Hp → Prop), Ok K CA Tb H0 M0 pin env fps σ H M →
  (∀ v H' M' fps', Ok K CA Tb H0 M0 pin env' fps' σ H' M' → Same M M' → DqAll K M' v d → Q v H') → t σ H Q
def SimRA (t : TA) (x : XA) : Prop := ∀ (env : Env) (d : List PyData) (env' : Env), x env = some (d, env') → ∀ (H0 M0 : Hp) (pin : Nat → V × List Addr) (fps : List (List Addr)) (σ : L2.St) (H M : Hp) (Q : List V → Hp → Prop), Ok K CA Tb H0 M0 pin env fps σ H M →
  (∀ v H' M' fps', Ok K CA Tb H0 M0 pin env' fps' σ H' M' → Same M M' → RvA K Tb M' H0 v d → Q v H') → t σ H Q
def SimT (t : TT) (x : XB) : Prop := ∀ (env : Env) (d : Bool) (env' : Env), x env = some (d, env') → ∀ (H0 M0 : Hp) (pin : Nat → V × List Addr) (fps : List (List Addr)) (σ : L2.St) (H M : Hp) (Q : Bool → Hp → Prop), Ok K CA Tb H0 M0 pin env fps σ H M →
  (∀ H' M' fps', Ok K CA Tb H0 M0 pin env' fps' σ H' M' → Same M M' → Q d H') → t σ H Q
def ContOk (H0 M0 : Hp) (pin : Nat → V × List Addr) (D : L2.Ends) : Out → Prop
  | .nx e => ∀ fps σ H M, Ok K CA Tb H0 M0 pin e fps σ H M → D.nx σ H
  | .brk e => ∀ fps σ H M, Ok K CA Tb H0 M0 pin e fps σ H M → D.bk σ H
  | .cont e => ∀ fps σ H M, Ok K CA Tb H0 M0 pin e fps σ H M → D.ct σ H
  | .ret t e => ∀ fps σ H M v fr, Ok K CA Tb H0 M0 pin e fps σ H M → TrOk K CA M H t v fr → Fresh H0 M fps fr → D.rt v H
def SimS (t : TS) (x : XS) : Prop := ∀ (env : Env) (o : Out), x env = some o → ∀ (H0 M0 : Hp) (pin : Nat → V × List Addr) (fps : List (List Addr)) (σ : L2.St) (H M : Hp) (D : L2.Ends), Ok K CA Tb H0 M0 pin env fps σ H M → ContOk K CA Tb H0 M0 pin D o → t D σ H
/-- by values -/
def SimO (r : R2) (f : PyData → PyData → Option PyData) : Prop := ∀ d e c, f d e = some c → ∀ (H M : Hp) (x y : V) (Q : VK), Same M H → Rv K [] M H x d → Rv K [] M H y e → (∀ v H' M', Ext H M H' M' → Dq K M' v c → Q v H') → r x y H Q
def SimU (r : V → Hp → VK → Prop) (f : PyData → Option PyData) : Prop := ∀ d c, f d = some c → ∀ (H M : Hp) (x : V) (Q : VK), Same M H → Rv K [] M H x d → (∀ v H' M', Ext H M H' M' → Dq K M' v c → Q v H') → r x H Q
def SimC (r : List V → Hp → VK → Prop) (f : List PyData → Option PyData) : Prop := ∀ d c, f d = some c → ∀ (H M : Hp) (x : List V) (Q : VK), Same M H → RvA K [] M H x d → (∀ v H' M', Ext H M H' M' → Dq K M' v c → Q v H') → r x H Q
/-- .. with a new list -/
def NewQ (H M : Hp) (ds : List PyData) (Q : VK) : Prop := ∀ p vs H' M', Ext H M H' M' → H p = none → M' p = none → H' p = some (.lst vs) → DqAll K M' vs ds → Q (.ref p) H'
def SimON (r : R2) (f : PyData → PyData → Option (List PyData)) : Prop := ∀ d e c, f d e = some c → ∀ (H M : Hp) (x y : V) (Q : VK), Same M H → Rv K [] M H x d → Rv K [] M H y e → NewQ K H M c Q → r x y H Q
def SimCN (r : List V → Hp → VK → Prop) (f : List PyData → Option (List PyData)) : Prop := ∀ d c, f d = some c → ∀ (H M : Hp) (x : List V) (Q : VK), Same M H → RvA K [] M H x d → NewQ K H M c Q → r x H Q
end
section
variable {K : PySem.W.Frag} {CA : Str → Addr} {Tb : List Tbl2} {H0 M0 H M H' M' : Hp} {pin : Nat → V × List Addr} {env : Env} {fps : List (List Addr)} {σ : L2.St}
theorem Rv.same (s : Same M M') {v : V} {d : PyData} (h : Rv K Tb M H0 v d) : Rv K Tb M' H0 v d := by
  cases h with
  | dq h => exact .dq (Dq.same s h)
  | own a b c => exact .own a b (DqAll.same s c)
theorem RvA.same (s : Same M M') {v : List V} {d : List PyData} (h : RvA K Tb M H0 v d) : RvA K Tb M' H0 v d := by
  induction h with
  | nil => exact .nil
  | cons a _ ih => exact .cons (a.same s) ih
theorem Rv.at (k : Ok K CA Tb H0 M0 pin env fps σ H M) {v : V} {d : PyData} (h : Rv K Tb M H0 v d) : Rv K [] M H v d := by
  cases h with
  | dq h => exact .dq h
  | own a b c => exact .own (k.base _ _ a b) (fun _ h => nomatch h) c
theorem RvA.at (k : Ok K CA Tb H0 M0 pin env fps σ H M) {v : List V} {d : List PyData} (h : RvA K Tb M H0 v d) : RvA K [] M H v d := by
  induction h with
  | nil => exact .nil
  | cons a _ ih => exact .cons (a.at k) ih
theorem Rv.lst (s : Same M H) {v : V} {ds : List PyData} (h : Rv K Tb M H v (.list ds)) : ∃ p vs, v = .ref p ∧ H p = some (.lst vs) ∧ DqAll K M vs ds := by
  cases h with
  | dq h =>
    obtain ⟨p, vs, e, h1, h2⟩ := dq_lstI h
    exact ⟨p, vs, e, s _ _ h1, h2⟩
  | own a b c => exact ⟨_, _, rfl, a, c⟩
def notL : PyData → Bool
  | .list _ => false
  | _ => true
theorem Rv.get {v : V} {d : PyData} (h : Rv K Tb M H v d) (n : notL d = true) : Dq K M v d := by
  cases h with
  | dq h => exact h
  | own a b c => cases n
theorem rvA_one {vs : List V} {d : PyData} (h : RvA K Tb M H vs [d]) : ∃ v, vs = [v] ∧ Rv K Tb M H v d := by
  cases h with | cons a b => cases b; exact ⟨_, rfl, a⟩
theorem rvA_two {vs : List V} {d e : PyData} (h : RvA K Tb M H vs [d, e]) : ∃ v w, vs = [v, w] ∧ Rv K Tb M H v d ∧ Rv K Tb M H w e := by
  cases h with | cons a b =>
    obtain ⟨w, e1, e2⟩ := rvA_one b
    rw [e1]; exact ⟨_, w, rfl, a, e2⟩
theorem rvA_dq : ∀ {vs : List V} {ds : List PyData}, RvA K Tb M H vs ds → (∀ d ∈ ds, notL d = true) → DqAll K M vs ds
  | _, _, .nil, _ => .nil
  | _, _, .cons a b, h => .cons (a.get (h _ List.mem_cons_self)) (rvA_dq b fun d hd => h d (List.mem_cons_of_mem _ hd))
theorem Ok.new_none (k : Ok K CA Tb H0 M0 pin env fps σ H M) {p : Addr} (h : H p = none) : H0 p = none ∧ M p = none ∧ p ∉ fps.flatten := by
  refine ⟨?_, none_of k.sub h, fun z => (k.own p z).2.2 h⟩
  cases e0 : H0 p with
  | none => rfl
  | some u =>
    have := k.base p u e0 (tab_ne k.tab h)
    rw [h] at this; cases this
theorem Ok.fresh1 (k : Ok K CA Tb H0 M0 pin env fps σ H M) {p : Addr} (h : H p = none) (h2 : M' p = none) : Fresh H0 M' fps [p] :=
  ⟨List.pairwise_singleton _ _, fun a ha => by rw [List.mem_singleton.mp ha]; exact ⟨(k.new_none h).1, h2, (k.new_none h).2.2⟩⟩
theorem TrOk.datI {d : PyData} {v : V} {fp : List Addr} (h : TrOk K CA M H (.dat d) v fp) : Dq K M v d := by
  cases h; assumption
/-! coercions -/
theorem simR_of {t : TE} {x : XD} (h : SimD K CA Tb t x) : SimR K CA Tb t x := fun env d env' e H0 M0 pin fps σ H M Q k q =>
  h env d env' e H0 M0 pin fps σ H M Q k fun v H' M' fps' k' s dv => q v H' M' fps' k' s (.dq dv)
def xN (x : XD) : XN := fun env => (x env).map fun p => (.dat p.1, p.2)
theorem simN_of {t : TE} {x : XD} (h : SimD K CA Tb t x) : SimN K CA Tb t (xN x) := fun env d env' e H0 M0 pin fps σ H M Q k q => by
  unfold xN at e
  obtain ⟨⟨d1, e1⟩, h1, h2⟩ := Option.map_eq_some_iff.mp e
  cases h2
  exact h env d1 e1 h1 H0 M0 pin fps σ H M Q k fun v H' M' fps' k' s dv => q v H' M' fps' [] k' s (.dat dv) ⟨List.nodup_nil, fun a ha => nomatch ha⟩
def Tr.toD : Tr → Option PyData
  | .dat d => some d
  | .lst ds => some (.list ds)
  | _ => none
/-- an own list becomes data -/
theorem froz {t : Tr} {d : PyData} {v : V} {fr : List Addr} (k : Ok K CA Tb H0 M0 pin env fps σ H M) (e : t.toD = some d) (h : TrOk K CA M H t v fr) (hf : Fresh H0 M fps fr) : ∃ M', Ok K CA Tb H0 M0 pin env fps σ H M' ∧ Same M M' ∧ Dq K M' v d := by
  cases h with
  | dat h => cases e; exact ⟨M, k, Same.refl M, h⟩
  | @lst ds p vs a b =>
    cases e
    obtain ⟨h1, h2, h3⟩ := hf.2 p (List.mem_singleton.mpr rfl)
    have np : noT Tb p := noT_of k.tab a fun ps z => nomatch z
    have hM : Same M (upd M p (.lst vs)) := fun b u e => by
      rw [upd_ne (fun z => by rw [z, h2] at e; cases e)]; exact e
    refine ⟨upd M p (.lst vs), ⟨k.base, k.tab, k.tab0, fun b u e => ?_, fun b u e => ?_, k.grow.trans hM, fun b u e => ?_, ⟨k.sls.le, k.sls.lf, fun j s o f g1 g2 g3 => SlOk.mono hM (fun _ _ => rfl) (k.sls.at_ j s o f g1 g2 g3)⟩, k.nd, fun b hb => ?_, k.pinOk⟩, hM, .lst upd_same (DqAll.same hM b)⟩
    · by_cases z : b = p
      · subst z; rw [upd_same] at e; rw [← Option.some.inj e]; exact a
      · rw [upd_ne z] at e; exact k.sub b u e
    · by_cases z : b = p
      · subst z; exact np
      · rw [upd_ne z] at e; exact k.mt b u e
    · by_cases z : b = p
      · subst z; exact .inr h1
      · rw [upd_ne z] at e; exact k.new b u e
    · obtain ⟨g1, g2, g3⟩ := k.own b hb
      exact ⟨g1, by rw [upd_ne (fun z => h3 (by rw [← z]; exact hb))]; exact g2, g3⟩
  | vec a b => cases e
  | dic a b => cases e
  | dtu a b => cases e
  | frz a b => cases e
  | obj a b => cases e
  | scr a => cases e
def xDn (x : XN) : XD := fun env => match x env with
  | some (t, e) => (t.toD).map fun d => (d, e)
  | none => none
theorem simD_of {t : TE} {x : XN} (h : SimN K CA Tb t x) : SimD K CA Tb t (xDn x) := fun env d env' e H0 M0 pin fps σ H M Q k q => by
  unfold xDn at e
  cases c : x env with
  | none => rw [c] at e; cases e
  | some p =>
    obtain ⟨tr, e1⟩ := p
    rw [c] at e
    obtain ⟨d1, h1, h2⟩ := Option.map_eq_some_iff.mp e
    cases h2
    refine h env tr _ c H0 M0 pin fps σ H M Q k fun v H' M' fps' fr k' s tv hf => ?_
    obtain ⟨M2, k2, s2, dv⟩ := froz k' h1 tv hf
    exact q v H' M2 fps' k2 (s.trans s2) dv
/-! names, constants -/
def Sv.dat? : Sv → Option PyData
  | .own (.dat d) => some d
  | .arg (.dat d) => some d
  | .lent (.dat d) => some d
  | _ => none
def Sv.rd? : Sv → Option PyData
  | .own (.dat d) => some d
  | .arg (.dat d) => some d
  | .lent (.dat d) => some d
  | .lent (.lst ds) => some (.list ds)
  | _ => none
def xVar (i : Nat) : XD := fun env => match env[i]? with
  | some s => s.dat?.map fun d => (d, env)
  | none => none
def xVarR (i : Nat) : XD := fun env => match env[i]? with
  | some s => s.rd?.map fun d => (d, env)
  | none => none
theorem sim_varR {i : Nat} : SimR K CA Tb (tVar i) (xVarR i) := fun env d env' e H0 M0 pin fps σ H M Q k q => by
  unfold xVarR at e
  cases c : env[i]? with
  | none => rw [c] at e; cases e
  | some s =>
    rw [c] at e
    obtain ⟨d1, h1, h2⟩ := Option.map_eq_some_iff.mp e
    cases h2
    obtain ⟨o, fp, e1, e2, x⟩ := k.sls.get c
    cases s with
    | un => cases h1
    | own t =>
      obtain ⟨v, rfl, x⟩ := x
      cases x with
      | dat x => cases h1; exact ⟨v, e1, q v H M fps k (Same.refl M) (.dq x)⟩
      | _ => cases h1
    | arg t =>
      obtain ⟨rfl, x⟩ := x
      cases t with
      | dat d2 => cases h1; exact ⟨_, e1, q _ H M fps k (Same.refl M) (.dq x.datI)⟩
      | _ => cases h1
    | lent t =>
      obtain ⟨_, rfl, x⟩ := x
      cases t with
      | dat d2 => cases h1; exact ⟨_, e1, q _ H M fps k (Same.refl M) (.dq x.datI)⟩
      | lst ds =>
        cases h1
        have pk := fun a ha => (k.pinOk i a ha).2
        generalize pin i = w at x e1 pk
        obtain ⟨w1, w2⟩ := w
        cases x with | lst a b => exact ⟨_, e1, q _ H M fps k (Same.refl M) (.own a (pk _ (List.mem_singleton.mpr rfl)) b)⟩
      | _ => cases h1
theorem sim_var {i : Nat} : SimD K CA Tb (tVar i) (xVar i) := fun env d env' e H0 M0 pin fps σ H M Q k q => by
  unfold xVar at e
  cases c : env[i]? with
  | none => rw [c] at e; cases e
  | some s =>
    rw [c] at e
    obtain ⟨d1, h1, h2⟩ := Option.map_eq_some_iff.mp e
    cases h2
    obtain ⟨o, fp, e1, e2, x⟩ := k.sls.get c
    cases s with
    | un => cases h1
    | own t =>
      obtain ⟨v, rfl, x⟩ := x
      cases x with
      | dat x => cases h1; exact ⟨v, e1, q v H M fps k (Same.refl M) x⟩
      | _ => cases h1
    | arg t =>
      obtain ⟨rfl, x⟩ := x
      cases t with
      | dat d2 => cases h1; exact ⟨_, e1, q _ H M fps k (Same.refl M) x.datI⟩
      | _ => cases h1
    | lent t =>
      obtain ⟨_, rfl, x⟩ := x
      cases t with
      | dat d2 => cases h1; exact ⟨_, e1, q _ H M fps k (Same.refl M) x.datI⟩
      | _ => cases h1
/-- an own list is handed over: from here on it is data -/
def xTake (i : Nat) : XD := fun env => match env[i]? with
  | some (.own (.dat d)) => some (d, env)
  | some (.own (.lst ds)) => some (.list ds, env.set i (.own (.dat (.list ds))))
  | _ => none
theorem sim_take {i : Nat} : SimD K CA Tb (tVar i) (xTake i) := fun env d env' e H0 M0 pin fps σ H M Q k q => by
  unfold xTake at e
  split at e
  · rename_i d1 c
    cases e
    obtain ⟨o, fp, e1, e2, v, rfl, x⟩ := k.sls.get c
    cases x with | dat x => exact ⟨v, e1, q v H M fps k (Same.refl M) x⟩
  · rename_i ds c
    cases e
    obtain ⟨o, fp, e1, e2, v, rfl, x⟩ := k.sls.get c
    cases x with
    | @lst _ p vs a b =>
    have hp := k.own p (mem_flat e2 (List.mem_singleton.mpr rfl))
    have np : noT Tb p := noT_of k.tab a fun ps z => nomatch z
    have hM : Same M (upd M p (.lst vs)) := fun b u e => by
      rw [upd_ne (fun z => by rw [z, hp.2.1] at e; cases e)]; exact e
    have hi : i < env.length := (List.getElem?_eq_some_iff.mp c).1
    have dv : Dq K (upd M p (.lst vs)) (.ref p) (.list ds) := .lst upd_same (DqAll.same hM b)
    refine ⟨_, e1, q (.ref p) H (upd M p (.lst vs)) (fps.set i []) ?_ hM dv⟩
    have k2 := k.chg (i := i) (fp' := []) (H' := H) (M' := upd M p (.lst vs)) (s' := .own (.dat (.list ds))) (o' := some (.ref p)) e2 ⟨fun _ _ e _ _ => e, k.tab, hM, fun b u e => ?_, fun b u e => ?_, fun b u e => ?_⟩ List.nodup_nil (fun a ha => nomatch ha) ⟨_, rfl, .dat dv⟩
    · rw [show σ.set i (some (V.ref p)) = σ from by
        have h2 := List.getElem?_eq_some_iff.mp e1
        rw [← h2.2]; exact List.set_getElem_self _] at k2
      exact k2
    · by_cases z : b = p
      · subst z; rw [upd_same] at e; rw [← Option.some.inj e]; exact a
      · rw [upd_ne z] at e; exact k.sub b u e
    · by_cases z : b = p
      · subst z; exact .inr (.inr (List.mem_singleton.mpr rfl))
      · rw [upd_ne z] at e; exact .inl e
    · by_cases z : b = p
      · subst z; exact np
      · rw [upd_ne z] at e; exact k.mt b u e
  · cases e
def xC (d : PyData) : XD := fun env => some (d, env)
theorem sim_int {i : Int} : SimD K CA Tb (tC (.int i)) (xC (.int i)) := fun env d env' e H0 M0 pin fps σ H M Q k q => by cases e; exact q _ H M fps k (Same.refl M) (.int i)
theorem sim_str {i : Str} : SimD K CA Tb (tC (.str i)) (xC (.str i)) := fun env d env' e H0 M0 pin fps σ H M Q k q => by cases e; exact q _ H M fps k (Same.refl M) (.str i)
theorem sim_bl {i : Bool} : SimD K CA Tb (tC (.bl i)) (xC (.bool i)) := fun env d env' e H0 M0 pin fps σ H M Q k q => by cases e; exact q _ H M fps k (Same.refl M) (.bl i)
theorem sim_non : SimD K CA Tb (tC .non) (xC .none) := fun env d env' e H0 M0 pin fps σ H M Q k q => by cases e; exact q _ H M fps k (Same.refl M) .non
/-- what isn't come to -/
def xNo {α : Type} : Env → Option α := fun _ => none
theorem sim_noD {t : TE} : SimD K CA Tb t xNo := fun env d env' e => by cases e
theorem sim_noN {t : TE} : SimN K CA Tb t xNo := fun env d env' e => by cases e
theorem sim_noT {t : TT} : SimT K CA Tb t xNo := fun env d env' e => by cases e
theorem sim_noS {t : TS} : SimS K CA Tb t xNo := fun env d e => by cases e
/-! operators -/
def x2 {α β γ : Type} (a : Env → Option (α × Env)) (b : Env → Option (β × Env)) (f : α → β → Option γ) : Env → Option (γ × Env) := fun env => match a env with
  | some (d, e1) => match b e1 with
    | some (e, e2) => (f d e).map fun c => (c, e2)
    | none => none
  | none => none
theorem x2_some {α β γ : Type} {a : Env → Option (α × Env)} {b : Env → Option (β × Env)} {f : α → β → Option γ} {env env' : Env} {c : γ} (h : x2 a b f env = some (c, env')) : ∃ d e1 e, a env = some (d, e1) ∧ b e1 = some (e, env') ∧ f d e = some c := by
  unfold x2 at h
  split at h
  · rename_i d e1 h1
    split at h
    · rename_i e e2 h2
      obtain ⟨c', h3, h4⟩ := Option.map_eq_some_iff.mp h
      cases h4
      exact ⟨d, e1, e, h1, h2, h3⟩
    · cases h
  · cases h
def x1 {α γ : Type} (a : Env → Option (α × Env)) (f : α → Option γ) : Env → Option (γ × Env) := fun env => match a env with
  | some (d, e1) => (f d).map fun c => (c, e1)
  | none => none
theorem x1_some {α γ : Type} {a : Env → Option (α × Env)} {f : α → Option γ} {env env' : Env} {c : γ} (h : x1 a f env = some (c, env')) : ∃ d, a env = some (d, env') ∧ f d = some c := by
  unfold x1 at h
  split at h
  · rename_i d e1 h1
    obtain ⟨c', h3, h4⟩ := Option.map_eq_some_iff.mp h
    cases h4
    exact ⟨d, h1, h3⟩
  · cases h
theorem sim_op {r : R2} {ta tb : TE} {a b : XD} {f : PyData → PyData → Option PyData} (ha : SimR K CA Tb ta a) (hb : SimR K CA Tb tb b) (hr : SimO K r f) : SimD K CA Tb (tOp r ta tb) (x2 a b f) := fun env d env' e H0 M0 pin fps σ H M Q k q => by
  obtain ⟨d1, e1, d2, h1, h2, h3⟩ := x2_some e
  refine ha _ _ _ h1 H0 M0 pin fps σ H M _ k fun x H1 M1 f1 k1 s1 r1 => hb _ _ _ h2 H0 M0 pin f1 σ H1 M1 _ k1 fun y H2 M2 f2 k2 s2 r2 => hr _ _ _ h3 H2 M2 x y Q k2.sub ((r1.same s2).at k2) (r2.at k2) fun v H3 M3 x3 dv => q v H3 M3 f2 (k2.extE x3) ((s1.trans s2).trans x3.m) dv
theorem NewQ.of (k : Ok K CA Tb H0 M0 pin env fps σ H M) {ds : List PyData} {Q : VK} (q : ∀ v H' M' fps' fr, Ok K CA Tb H0 M0 pin env fps' σ H' M' → Same M M' → TrOk K CA M' H' (.lst ds) v fr → Fresh H0 M' fps' fr → Q v H') : NewQ K H M ds Q :=
  fun p vs H' M' x h1 h2 h3 h4 => q (.ref p) H' M' fps [p] (k.extE x) x.m (.lst h3 h4) (k.fresh1 h1 h2)
theorem sim_opN {r : R2} {ta tb : TE} {a b : XD} {f : PyData → PyData → Option (List PyData)} (ha : SimR K CA Tb ta a) (hb : SimR K CA Tb tb b) (hr : SimON K r f) : SimN K CA Tb (tOp r ta tb) (x2 a b fun d e => (f d e).map .lst) := fun env d env' e H0 M0 pin fps σ H M Q k q => by
  obtain ⟨d1, e1, d2, h1, h2, h3⟩ := x2_some e
  obtain ⟨ds, h4, rfl⟩ := Option.map_eq_some_iff.mp h3
  exact ha _ _ _ h1 H0 M0 pin fps σ H M _ k fun x H1 M1 f1 k1 s1 r1 => hb _ _ _ h2 H0 M0 pin f1 σ H1 M1 _ k1 fun y H2 M2 f2 k2 s2 r2 => hr _ _ _ h4 H2 M2 x y Q k2.sub ((r1.same s2).at k2) (r2.at k2) (NewQ.of k2 fun v H' M' f' fr k' s' t' z => q v H' M' f' fr k' ((s1.trans s2).trans s') t' z)
theorem sim_un {r : V → Hp → VK → Prop} {ta : TE} {a : XD} {f : PyData → Option PyData} (ha : SimR K CA Tb ta a) (hr : SimU K r f) : SimD K CA Tb (tUn r ta) (x1 a f) := fun env d env' e H0 M0 pin fps σ H M Q k q => by
  obtain ⟨d1, h1, h2⟩ := x1_some e
  exact ha _ _ _ h1 H0 M0 pin fps σ H M _ k fun x H1 M1 f1 k1 s1 r1 => hr _ _ h2 H1 M1 x Q k1.sub (r1.at k1) fun v H3 M3 x3 dv => q v H3 M3 f1 (k1.extE x3) (s1.trans x3.m) dv
/-! arguments -/
def xNil : XA := fun env => some ([], env)
def xCons (a : XD) (b : XA) : XA := x2 a b fun d ds => some (d :: ds)
theorem sim_nil : SimA K CA Tb tNil xNil := fun env d env' e H0 M0 pin fps σ H M Q k q => by cases e; exact q [] H M fps k (Same.refl M) .nil
theorem sim_cons {ta : TE} {tr : TA} {a : XD} {b : XA} (ha : SimD K CA Tb ta a) (hb : SimA K CA Tb tr b) : SimA K CA Tb (tCons ta tr) (xCons a b) := fun env d env' e H0 M0 pin fps σ H M Q k q => by
  obtain ⟨d1, e1, d2, h1, h2, h3⟩ := x2_some e
  cases h3
  exact ha _ _ _ h1 H0 M0 pin fps σ H M _ k fun x H1 M1 f1 k1 s1 r1 => hb _ _ _ h2 H0 M0 pin f1 σ H1 M1 _ k1 fun y H2 M2 f2 k2 s2 r2 => q _ H2 M2 f2 k2 (s1.trans s2) (.cons (Dq.same s2 r1) r2)
theorem sim_nilR : SimRA K CA Tb tNil xNil := fun env d env' e H0 M0 pin fps σ H M Q k q => by cases e; exact q [] H M fps k (Same.refl M) .nil
theorem sim_consR {ta : TE} {tr : TA} {a : XD} {b : XA} (ha : SimR K CA Tb ta a) (hb : SimRA K CA Tb tr b) : SimRA K CA Tb (tCons ta tr) (xCons a b) := fun env d env' e H0 M0 pin fps σ H M Q k q => by
  obtain ⟨d1, e1, d2, h1, h2, h3⟩ := x2_some e
  cases h3
  exact ha _ _ _ h1 H0 M0 pin fps σ H M _ k fun x H1 M1 f1 k1 s1 r1 => hb _ _ _ h2 H0 M0 pin f1 σ H1 M1 _ k1 fun y H2 M2 f2 k2 s2 r2 => q _ H2 M2 f2 k2 (s1.trans s2) (.cons (r1.same s2) r2)
theorem sim_cb {r : List V → Hp → VK → Prop} {ta : TA} {a : XA} {f : List PyData → Option PyData} (ha : SimRA K CA Tb ta a) (hr : SimC K r f) : SimD K CA Tb (tCB r ta) (x1 a f) := fun env d env' e H0 M0 pin fps σ H M Q k q => by
  obtain ⟨d1, h1, h2⟩ := x1_some e
  exact ha _ _ _ h1 H0 M0 pin fps σ H M _ k fun x H1 M1 f1 k1 s1 r1 => hr _ _ h2 H1 M1 x Q k1.sub (r1.at k1) fun v H3 M3 x3 dv => q v H3 M3 f1 (k1.extE x3) (s1.trans x3.m) dv
theorem sim_cbN {r : List V → Hp → VK → Prop} {ta : TA} {a : XA} {f : List PyData → Option (List PyData)} (ha : SimRA K CA Tb ta a) (hr : SimCN K r f) : SimN K CA Tb (tCB r ta) (x1 a fun ds => (f ds).map .lst) := fun env d env' e H0 M0 pin fps σ H M Q k q => by
  obtain ⟨d1, h1, h2⟩ := x1_some e
  obtain ⟨ds, h4, rfl⟩ := Option.map_eq_some_iff.mp h2
  exact ha _ _ _ h1 H0 M0 pin fps σ H M _ k fun x H1 M1 f1 k1 s1 r1 => hr _ _ h4 H1 M1 x Q k1.sub (r1.at k1) (NewQ.of k1 fun v H' M' f' fr k' s' t' z => q v H' M' f' fr k' (s1.trans s') t' z)
/-! displays -/
def shortB (n : Nat) : Bool := decide (n ≤ sizeLine)
def xTup (a : XA) : XD := x1 a fun ds => if shortB ds.length = true then some (.tuple ds) else none
def xLst (a : XA) : XN := x1 a fun ds => if shortB ds.length = true then some (.lst ds) else none
theorem sim_tup {ta : TA} {a : XA} (ha : SimA K CA Tb ta a) : SimD K CA Tb (tTup ta) (xTup a) := fun env d env' e H0 M0 pin fps σ H M Q k q => by
  obtain ⟨d1, h1, h2⟩ := x1_some e
  split at h2
  · rename_i hl
    cases h2
    exact ha _ _ _ h1 H0 M0 pin fps σ H M _ k fun xs H1 M1 f1 k1 s1 dx => ⟨by rw [DqAll.len dx]; exact of_decide_eq_true hl, fun p hp => q _ _ (upd M1 p (.tup xs)) f1 (k1.extE (Ext.laid k1.sub hp)) (s1.trans (Ext.laid (o := .tup xs) k1.sub hp).m) (.tup (SqT.of upd_same) (DqAll.same (Ext.laid k1.sub hp).m dx))⟩
  · cases h2
theorem newL (k : Ok K CA Tb H0 M0 pin env fps σ H M) {p : Addr} {xs : List V} {ds : List PyData} (hp : H p = none) (dx : DqAll K M xs ds) : Ok K CA Tb H0 M0 pin env fps σ (upd H p (.lst xs)) M ∧ TrOk K CA M (upd H p (.lst xs)) (.lst ds) (.ref p) [p] ∧ Fresh H0 M fps [p] := by
  have mp := none_of k.sub hp
  refine ⟨k.extE ⟨fun a u e => ?_, Same.refl M, fun a u e => ?_, fun _ _ e => .inl e⟩, .lst upd_same dx, k.fresh1 hp mp⟩
  · rw [upd_ne (fun z => by rw [z, hp] at e; cases e)]; exact e
  · rw [upd_ne (fun z => by rw [z, mp] at e; cases e)]; exact k.sub a u e
theorem sim_lst {ta : TA} {a : XA} (ha : SimA K CA Tb ta a) : SimN K CA Tb (tLst ta) (xLst a) := fun env d env' e H0 M0 pin fps σ H M Q k q => by
  obtain ⟨d1, h1, h2⟩ := x1_some e
  split at h2
  · rename_i hl
    cases h2
    exact ha _ _ _ h1 H0 M0 pin fps σ H M _ k fun xs H1 M1 f1 k1 s1 dx => ⟨by rw [DqAll.len dx]; exact of_decide_eq_true hl, fun p hp => by
      obtain ⟨a1, a2, a3⟩ := newL k1 hp dx
      exact q _ _ M1 f1 [p] a1 s1 a2 a3⟩
  · cases h2
/-! tests and values of tests -/
def boolD : PyData → Option Bool
  | .bool b => some b
  | _ => none
def xB (a : XD) : XB := x1 a boolD
theorem boolD_some {d : PyData} {b : Bool} (h : boolD d = some b) : d = .bool b := by
  cases d <;> first | (cases h; rfl) | cases h
theorem sim_test {ta : TE} {a : XD} (ha : SimD K CA Tb ta a) : SimT K CA Tb (tTest ta) (xB a) := fun env d env' e H0 M0 pin fps σ H M Q k q => by
  obtain ⟨d1, h1, h2⟩ := x1_some e
  rw [boolD_some h2] at h1
  exact ha _ _ _ h1 H0 M0 pin fps σ H M _ k fun x H1 M1 f1 k1 s1 r1 => ⟨d, dq_bool r1, q H1 M1 f1 k1 s1⟩
theorem sim_b {ta : TE} {a : XD} (ha : SimD K CA Tb ta a) : SimT K CA Tb (tB ta) (xB a) := fun env d env' e H0 M0 pin fps σ H M Q k q => by
  obtain ⟨d1, h1, h2⟩ := x1_some e
  rw [boolD_some h2] at h1
  exact ha _ _ _ h1 H0 M0 pin fps σ H M _ k fun x H1 M1 f1 k1 s1 r1 => ⟨d, dq_bool r1, q H1 M1 f1 k1 s1⟩
def xIte {α : Type} (c : XB) (a b : Env → Option α) : Env → Option α := fun env => match c env with
  | some (true, e) => a e
  | some (false, e) => b e
  | none => none
def xAndT (a b : XB) : XB := xIte a b fun e => some (false, e)
def xOrT (a b : XB) : XB := xIte a (fun e => some (true, e)) b
def xNotT (a : XB) : XB := x1 a fun b => some (!b)
theorem xIte_some {α : Type} {c : XB} {a b : Env → Option α} {env : Env} {r : α} (h : xIte c a b env = some r) : (∃ e, c env = some (true, e) ∧ a e = some r) ∨ ∃ e, c env = some (false, e) ∧ b e = some r := by
  unfold xIte at h
  split at h
  · rename_i e h1; exact .inl ⟨e, h1, h⟩
  · rename_i e h1; exact .inr ⟨e, h1, h⟩
  · cases h
theorem sim_andT {t u : TT} {a b : XB} (ha : SimT K CA Tb t a) (hb : SimT K CA Tb u b) : SimT K CA Tb (tAnd t u) (xAndT a b) := fun env d env' e H0 M0 pin fps σ H M Q k q => by
  rcases xIte_some e with ⟨e1, h1, h2⟩ | ⟨e1, h1, h2⟩
  · refine ha _ _ _ h1 H0 M0 pin fps σ H M _ k fun H1 M1 f1 k1 s1 => ?_
    rw [if_pos rfl]
    exact hb _ _ _ h2 H0 M0 pin f1 σ H1 M1 _ k1 fun H2 M2 f2 k2 s2 => q H2 M2 f2 k2 (s1.trans s2)
  · cases h2
    refine ha _ _ _ h1 H0 M0 pin fps σ H M _ k fun H1 M1 f1 k1 s1 => ?_
    rw [if_neg Bool.false_ne_true]
    exact q H1 M1 f1 k1 s1
theorem sim_orT {t u : TT} {a b : XB} (ha : SimT K CA Tb t a) (hb : SimT K CA Tb u b) : SimT K CA Tb (tOr t u) (xOrT a b) := fun env d env' e H0 M0 pin fps σ H M Q k q => by
  rcases xIte_some e with ⟨e1, h1, h2⟩ | ⟨e1, h1, h2⟩
  · cases h2
    refine ha _ _ _ h1 H0 M0 pin fps σ H M _ k fun H1 M1 f1 k1 s1 => ?_
    rw [if_pos rfl]
    exact q H1 M1 f1 k1 s1
  · refine ha _ _ _ h1 H0 M0 pin fps σ H M _ k fun H1 M1 f1 k1 s1 => ?_
    rw [if_neg Bool.false_ne_true]
    exact hb _ _ _ h2 H0 M0 pin f1 σ H1 M1 _ k1 fun H2 M2 f2 k2 s2 => q H2 M2 f2 k2 (s1.trans s2)
theorem sim_notT {t : TT} {a : XB} (ha : SimT K CA Tb t a) : SimT K CA Tb (tNot t) (xNotT a) := fun env d env' e H0 M0 pin fps σ H M Q k q => by
  obtain ⟨d1, h1, h2⟩ := x1_some e
  cases h2
  exact ha _ _ _ h1 H0 M0 pin fps σ H M _ k fun H1 M1 f1 k1 s1 => q H1 M1 f1 k1 s1
def xYes : XB := fun env => some (true, env)
theorem sim_yes : SimT K CA Tb tYes xYes := fun env d env' e H0 M0 pin fps σ H M Q k q => by cases e; exact q H M fps k (Same.refl M)
def xAndV (a b : XD) : XD := xIte (xB a) (fun e => (xB b e).map fun p => (.bool p.1, p.2)) fun e => some (.bool false, e)
def xOrV (a b : XD) : XD := xIte (xB a) (fun e => some (.bool true, e)) fun e => (xB b e).map fun p => (.bool p.1, p.2)
def xNotV (a : XD) : XD := x1 a fun d => (boolD d).map fun b => .bool (!b)
theorem sim_andV {ta tb : TE} {a b : XD} (ha : SimD K CA Tb ta a) (hb : SimD K CA Tb tb b) : SimD K CA Tb (tAndV ta tb) (xAndV a b) := fun env d env' e H0 M0 pin fps σ H M Q k q => by
  rcases xIte_some e with ⟨e1, h1, h2⟩ | ⟨e1, h1, h2⟩
  · obtain ⟨d1, g1, g2⟩ := x1_some h1
    obtain ⟨⟨c, e2⟩, g3, g4⟩ := Option.map_eq_some_iff.mp h2
    obtain ⟨d2, g5, g6⟩ := x1_some g3
    cases g4
    rw [boolD_some g2] at g1
    rw [boolD_some g6] at g5
    refine ha _ _ _ g1 H0 M0 pin fps σ H M _ k fun x H1 M1 f1 k1 s1 r1 => ⟨true, dq_bool r1, ?_⟩
    rw [if_pos rfl]
    exact hb _ _ _ g5 H0 M0 pin f1 σ H1 M1 _ k1 fun y H2 M2 f2 k2 s2 r2 => q y H2 M2 f2 k2 (s1.trans s2) r2
  · obtain ⟨d1, g1, g2⟩ := x1_some h1
    cases h2
    rw [boolD_some g2] at g1
    refine ha _ _ _ g1 H0 M0 pin fps σ H M _ k fun x H1 M1 f1 k1 s1 r1 => ⟨false, dq_bool r1, ?_⟩
    rw [if_neg Bool.false_ne_true]
    exact q _ H1 M1 f1 k1 s1 (.bl _)
theorem sim_orV {ta tb : TE} {a b : XD} (ha : SimD K CA Tb ta a) (hb : SimD K CA Tb tb b) : SimD K CA Tb (tOrV ta tb) (xOrV a b) := fun env d env' e H0 M0 pin fps σ H M Q k q => by
  rcases xIte_some e with ⟨e1, h1, h2⟩ | ⟨e1, h1, h2⟩
  · obtain ⟨d1, g1, g2⟩ := x1_some h1
    cases h2
    rw [boolD_some g2] at g1
    refine ha _ _ _ g1 H0 M0 pin fps σ H M _ k fun x H1 M1 f1 k1 s1 r1 => ⟨true, dq_bool r1, ?_⟩
    rw [if_pos rfl]
    exact q _ H1 M1 f1 k1 s1 (.bl _)
  · obtain ⟨d1, g1, g2⟩ := x1_some h1
    obtain ⟨⟨c, e2⟩, g3, g4⟩ := Option.map_eq_some_iff.mp h2
    obtain ⟨d2, g5, g6⟩ := x1_some g3
    cases g4
    rw [boolD_some g2] at g1
    rw [boolD_some g6] at g5
    refine ha _ _ _ g1 H0 M0 pin fps σ H M _ k fun x H1 M1 f1 k1 s1 r1 => ⟨false, dq_bool r1, ?_⟩
    rw [if_neg Bool.false_ne_true]
    exact hb _ _ _ g5 H0 M0 pin f1 σ H1 M1 _ k1 fun y H2 M2 f2 k2 s2 r2 => q y H2 M2 f2 k2 (s1.trans s2) r2
theorem sim_notV {ta : TE} {a : XD} (ha : SimD K CA Tb ta a) : SimD K CA Tb (tNotV ta) (xNotV a) := fun env d env' e H0 M0 pin fps σ H M Q k q => by
  obtain ⟨d1, g1, g2⟩ := x1_some e
  obtain ⟨c, g3, rfl⟩ := Option.map_eq_some_iff.mp g2
  rw [boolD_some g3] at g1
  exact ha _ _ _ g1 H0 M0 pin fps σ H M _ k fun x H1 M1 f1 k1 s1 r1 => ⟨c, dq_bool r1, q _ H1 M1 f1 k1 s1 (.bl _)⟩
theorem sim_ifD {c : TT} {ta tb : TE} {xc : XB} {a b : XD} (hc : SimT K CA Tb c xc) (ha : SimD K CA Tb ta a) (hb : SimD K CA Tb tb b) : SimD K CA Tb (tIf c ta tb) (xIte xc a b) := fun env d env' e H0 M0 pin fps σ H M Q k q => by
  rcases xIte_some e with ⟨e1, h1, h2⟩ | ⟨e1, h1, h2⟩
  · refine hc _ _ _ h1 H0 M0 pin fps σ H M _ k fun H1 M1 f1 k1 s1 => ?_
    rw [if_pos rfl]
    exact ha _ _ _ h2 H0 M0 pin f1 σ H1 M1 _ k1 fun v H2 M2 f2 k2 s2 => q v H2 M2 f2 k2 (s1.trans s2)
  · refine hc _ _ _ h1 H0 M0 pin fps σ H M _ k fun H1 M1 f1 k1 s1 => ?_
    rw [if_neg Bool.false_ne_true]
    exact hb _ _ _ h2 H0 M0 pin f1 σ H1 M1 _ k1 fun v H2 M2 f2 k2 s2 => q v H2 M2 f2 k2 (s1.trans s2)
theorem sim_ifN {c : TT} {ta tb : TE} {xc : XB} {a b : XN} (hc : SimT K CA Tb c xc) (ha : SimN K CA Tb ta a) (hb : SimN K CA Tb tb b) : SimN K CA Tb (tIf c ta tb) (xIte xc a b) := fun env d env' e H0 M0 pin fps σ H M Q k q => by
  rcases xIte_some e with ⟨e1, h1, h2⟩ | ⟨e1, h1, h2⟩
  · refine hc _ _ _ h1 H0 M0 pin fps σ H M _ k fun H1 M1 f1 k1 s1 => ?_
    rw [if_pos rfl]
    exact ha _ _ _ h2 H0 M0 pin f1 σ H1 M1 _ k1 fun v H2 M2 f2 fr k2 s2 => q v H2 M2 f2 fr k2 (s1.trans s2)
  · refine hc _ _ _ h1 H0 M0 pin fps σ H M _ k fun H1 M1 f1 k1 s1 => ?_
    rw [if_neg Bool.false_ne_true]
    exact hb _ _ _ h2 H0 M0 pin f1 σ H1 M1 _ k1 fun v H2 M2 f2 fr k2 s2 => q v H2 M2 f2 fr k2 (s1.trans s2)
def xChain (f g : PyData → PyData → Option PyData) (a b c : XD) : XD := fun env => match a env with
  | some (d, e1) => match b e1 with
    | some (e, e2) => match f d e with
      | some (.bool true) => match c e2 with
        | some (u, e3) => (g e u).bind fun z => (boolD z).map fun y => (.bool y, e3)
        | none => none
      | some (.bool false) => some (.bool false, e2)
      | _ => none
    | none => none
  | none => none
theorem sim_chain {r r' : R2} {ta tb tc : TE} {a b c : XD} {f g : PyData → PyData → Option PyData} (ha : SimR K CA Tb ta a) (hb : SimR K CA Tb tb b) (hc : SimR K CA Tb tc c) (hr : SimO K r f) (hr' : SimO K r' g) : SimD K CA Tb (tChain r r' ta tb tc) (xChain f g a b c) := fun env d env' e H0 M0 pin fps σ H M Q k q => by
  unfold xChain at e
  split at e
  · rename_i d1 e1 h1
    split at e
    · rename_i d2 e2 h2
      refine ha _ _ _ h1 H0 M0 pin fps σ H M _ k fun x H1 M1 f1 k1 s1 r1 => hb _ _ _ h2 H0 M0 pin f1 σ H1 M1 _ k1 fun y H2 M2 f2 k2 s2 r2 => ?_
      split at e
      · rename_i h3
        split at e
        · rename_i d3 e3 h4
          obtain ⟨z, h5, h6⟩ := Option.bind_eq_some_iff.mp e
          obtain ⟨y', h7, h8⟩ := Option.map_eq_some_iff.mp h6
          cases h8
          rw [boolD_some h7] at h5
          refine hr _ _ _ h3 H2 M2 x y _ k2.sub ((r1.same s2).at k2) (r2.at k2) fun v H3 M3 x3 dv => ⟨true, dq_bool dv, ?_⟩
          rw [if_pos rfl]
          have k3 := k2.extE x3
          refine hc _ _ _ h4 H0 M0 pin f2 σ H3 M3 _ k3 fun w H4 M4 f4 k4 s4 r4 => hr' _ _ _ h5 H4 M4 y w Q k4.sub ((r2.same (x3.m.trans s4)).at k4) (r4.at k4) fun v5 H5 M5 x5 dv5 => q v5 H5 M5 f4 (k4.extE x5) ((((s1.trans s2).trans x3.m).trans s4).trans x5.m) dv5
        · cases e
      · rename_i h3
        cases e
        refine hr _ _ _ h3 H2 M2 x y _ k2.sub ((r1.same s2).at k2) (r2.at k2) fun v H3 M3 x3 dv => ⟨false, dq_bool dv, ?_⟩
        rw [if_neg Bool.false_ne_true]
        exact q _ H3 M3 f2 (k2.extE x3) ((s1.trans s2).trans x3.m) (.bl _)
      · cases e
    · cases e
  · cases e
end
end Q

/-! ### layer Q: places, lending, calls -/
namespace Q
open PySem L2 Y
def putFs (f : Str) (t : Tr) : List (Str × Tr) → List (Str × Tr)
  | [] => [(f, t)]
  | (g, y) :: r => if g = f then (g, t) :: r else (g, y) :: putFs f t r
abbrev Path := List (Str × Str)
/-- a step into a list: the text of n signs -/
def ixS (n : Nat) : Str := ⟨Array.replicate n 0⟩
theorem ixS_len (n : Nat) : (ixS n).length = n := Array.size_replicate
def Tr.sub : Tr → Path → Option Tr
  | t, [] => some t
  | .obj c fs, (c', f) :: ps => if c = c' then (match fs.lookup f with | some t => t.sub ps | none => none) else none
  | .vec ts, (c', f) :: ps => if c' = "" then (match ts[f.length]? with | some t => t.sub ps | none => none) else none
  | _, _ :: _ => none
def Tr.put : Tr → Path → Tr → Tr
  | _, [], t' => t'
  | .obj c fs, (_, f) :: ps, t' => match fs.lookup f with | some t => .obj c (putFs f (t.put ps t') fs) | none => .obj c fs
  | .vec ts, (_, f) :: ps, t' => match ts[f.length]? with | some t => .vec (ts.set f.length (t.put ps t')) | none => .vec ts
  | t, _ :: _, _ => t
def ValAt (CA : Str → Addr) (H : Hp) : V → Path → V → Prop
  | v, [], w => v = w
  | v, (c, f) :: ps, w => ∃ a u, v = .ref a ∧ ((∃ dx fvs, H a = some (.ins (CA c) dx fvs) ∧ fvs.lookup f = some u) ∨ (c = "" ∧ ∃ xs, H a = some (.lst xs) ∧ xs[f.length]? = some u)) ∧ ValAt CA H u ps w
def Sv.tr? : Sv → Option Tr
  | .un => none
  | .own t => some t
  | .arg t => some t
  | .lent t => some t
def Sv.mut? : Sv → Option Tr
  | .own t => some t
  | .arg t => some t
  | _ => none
def Sv.put (s : Sv) (t : Tr) : Sv := match s with
  | .own _ => .own t
  | .arg _ => .arg t
  | s => s
section
variable {K : PySem.W.Frag} {CA : Str → Addr} {Tb : List Tbl2} {H0 M0 H M H' M' : Hp} {pin : Nat → V × List Addr} {env : Env} {fps : List (List Addr)} {σ : L2.St}
theorem ValAt.uniq : ∀ {ps : Path} {v w1 w2 : V}, ValAt CA H v ps w1 → ValAt CA H v ps w2 → w1 = w2
  | [], _, _, _, a, b => a.symm.trans b
  | (c, f) :: ps, _, _, _, ⟨a, u, e1, e2, e4⟩, ⟨a', u', g1, g2, g4⟩ => by
    rw [e1] at g1
    cases g1
    rcases e2 with ⟨dx, fvs, e2, e3⟩ | ⟨_, xs, e2, e3⟩ <;> rcases g2 with ⟨dx', fvs', g2, g3⟩ | ⟨_, xs', g2, g3⟩ <;> (rw [e2] at g2; first | (cases g2; done) | (cases g2; rw [e3] at g3; cases g3; exact ValAt.uniq e4 g4))
theorem VsOk.at {t : Tr} : ∀ {i : Nat} {ts : List Tr} {vs : List V} {fp : List Addr}, VsOk K CA M H ts vs fp → ts[i]? = some t → ∃ v p1 rest, vs[i]? = some v ∧ TrOk K CA M H t v p1 ∧ fp.Perm (p1 ++ rest) ∧
    ∀ (M' H' : Hp) (t' : Tr) (p1' : List Addr), Same M M' → (∀ a ∈ rest, H' a = H a) → TrOk K CA M' H' t' v p1' → ∃ fp', fp'.Perm (p1' ++ rest) ∧ VsOk K CA M' H' (ts.set i t') vs fp'
  | i, _, _, _, .nil, h => by simp at h
  | 0, _, _, _, .cons (p1 := q1) (p2 := q2) a b, h => by
    cases (Option.some.inj h)
    exact ⟨_, q1, q2, rfl, a, List.Perm.refl _, fun M' H' t' p1' m hr ht => ⟨p1' ++ q2, List.Perm.refl _, .cons ht (VsOk.mono m hr b)⟩⟩
  | i + 1, _, _, _, .cons (p1 := q1) (p2 := q2) a b, h => by
    obtain ⟨v, p1, rest, e1, e2, e3, e4⟩ := VsOk.at (i := i) b (by simpa using h)
    refine ⟨v, p1, q1 ++ rest, by simpa using e1, e2, ?_, fun M' H' t' p1' m hr ht => ?_⟩
    · refine (List.Perm.append_left q1 e3).trans ?_
      rw [← List.append_assoc, ← List.append_assoc]
      exact List.Perm.append_right rest List.perm_append_comm
    · obtain ⟨fp', g1, g2⟩ := e4 M' H' t' p1' m (fun a ha => hr a (List.mem_append_right _ ha)) ht
      refine ⟨q1 ++ fp', ?_, .cons (TrOk.mono m (fun a ha => hr a (List.mem_append_left _ ha)) a) g2⟩
      refine (List.Perm.append_left q1 g1).trans ?_
      rw [← List.append_assoc, ← List.append_assoc]
      exact List.Perm.append_right rest List.perm_append_comm
theorem FsOk.at {f : Str} {t : Tr} : ∀ {fs : List (Str × Tr)} {fvs : List (Str × V)} {fp : List Addr}, FsOk K CA M H fs fvs fp → fs.lookup f = some t → ∃ v p1 rest, fvs.lookup f = some v ∧ TrOk K CA M H t v p1 ∧ fp.Perm (p1 ++ rest) ∧
    ∀ (M' H' : Hp) (t' : Tr) (p1' : List Addr), Same M M' → (∀ a ∈ rest, H' a = H a) → TrOk K CA M' H' t' v p1' → ∃ fp', fp'.Perm (p1' ++ rest) ∧ FsOk K CA M' H' (putFs f t' fs) fvs fp'
  | _, _, _, .nil, h => by cases h
  | _, _, _, .cons (f := g) (p1 := q1) (p2 := q2) a b, h => by
    rw [List.lookup_cons] at h
    by_cases c : g = f
    · subst c
      rw [show (g == g) = true from beq_self_eq_true g] at h
      have e := Option.some.inj h
      subst e
      refine ⟨_, q1, q2, by rw [List.lookup_cons, show (g == g) = true from beq_self_eq_true g], a, List.Perm.refl _, fun M' H' t' p1' m hr ht => ⟨p1' ++ q2, List.Perm.refl _, ?_⟩⟩
      unfold putFs
      rw [if_pos rfl]
      exact .cons ht (FsOk.mono m hr b)
    · have c2 : (f == g) = false := beq_eq_false_iff_ne.mpr (fun z => c z.symm)
      rw [c2] at h
      obtain ⟨v, p1, rest, e1, e2, e3, e4⟩ := FsOk.at b h
      refine ⟨v, p1, q1 ++ rest, by rw [List.lookup_cons, c2]; exact e1, e2, ?_, fun M' H' t' p1' m hr ht => ?_⟩
      · refine (List.Perm.append_left q1 e3).trans ?_
        rw [← List.append_assoc, ← List.append_assoc]
        exact List.Perm.append_right rest List.perm_append_comm
      · obtain ⟨fp', g1, g2⟩ := e4 M' H' t' p1' m (fun a ha => hr a (List.mem_append_right _ ha)) ht
        refine ⟨q1 ++ fp', ?_, ?_⟩
        · refine (List.Perm.append_left q1 g1).trans ?_
          rw [← List.append_assoc, ← List.append_assoc]
          exact List.Perm.append_right rest List.perm_append_comm
        · unfold putFs
          rw [if_neg c]
          exact .cons (TrOk.mono m (fun a ha => hr a (List.mem_append_left _ ha)) a) g2
/-- the tree at a path, and what can be put in its place -/
theorem TrOk.at {t1 : Tr} : ∀ {ps : Path} {t : Tr} {v : V} {fp : List Addr}, TrOk K CA M H t v fp → t.sub ps = some t1 → ∃ v1 p1 rest, ValAt CA H v ps v1 ∧ TrOk K CA M H t1 v1 p1 ∧ fp.Perm (p1 ++ rest) ∧
    ∀ (M' H' : Hp) (t' : Tr) (p1' : List Addr), Same M M' → (∀ a ∈ rest, H' a = H a) → TrOk K CA M' H' t' v1 p1' → ∃ fp', fp'.Perm (p1' ++ rest) ∧ TrOk K CA M' H' (t.put ps t') v fp'
  | [], t, v, fp, h, e => by
    cases t <;> (cases e; exact ⟨v, fp, [], rfl, h, by rw [List.append_nil], fun M' H' t' p1' m hr ht => ⟨p1', by rw [List.append_nil], ht⟩⟩)
  | (c, f) :: ps, t, v, fp, h, e => by
    cases h with
    | @obj c' a dx fs fvs fq ha hf =>
      simp only [Tr.sub] at e
      split at e
      · rename_i hc
        subst hc
        cases hl : fs.lookup f with
        | none => rw [hl] at e; cases e
        | some t2 =>
          rw [hl] at e
          obtain ⟨v2, p2, r2, g1, g2, g3, g4⟩ := FsOk.at hf hl
          obtain ⟨v1, p1, r1, k1, k2, k3, k4⟩ := TrOk.at g2 e
          refine ⟨v1, p1, a :: (r1 ++ r2), ⟨a, v2, rfl, .inl ⟨dx, fvs, ha, g1⟩, k1⟩, k2, ?_, fun M' H' t' p1' m hr ht => ?_⟩
          · have q1 : fq.Perm (p1 ++ (r1 ++ r2)) := g3.trans (by rw [← List.append_assoc]; exact List.Perm.append_right r2 k3)
            exact (List.Perm.cons a q1).trans List.perm_middle.symm
          · obtain ⟨fp2, n1, n2⟩ := k4 M' H' t' p1' m (fun b hb => hr b (List.mem_cons_of_mem _ (List.mem_append_left _ hb))) ht
            obtain ⟨fp3, n3, n4⟩ := g4 M' H' _ fp2 m (fun b hb => hr b (List.mem_cons_of_mem _ (List.mem_append_right _ hb))) n2
            refine ⟨a :: fp3, ?_, ?_⟩
            · have q1 : fp3.Perm (p1' ++ (r1 ++ r2)) := n3.trans (by rw [← List.append_assoc]; exact List.Perm.append_right r2 n1)
              exact (List.Perm.cons a q1).trans List.perm_middle.symm
            · simp only [Tr.put, hl]
              exact .obj (by rw [hr a List.mem_cons_self]; exact ha) n4
      · cases e
    | @vec ts a xs fq ha hf =>
      simp only [Tr.sub] at e
      split at e
      · rename_i hc
        cases hl : ts[f.length]? with
        | none => rw [hl] at e; cases e
        | some t2 =>
          rw [hl] at e
          obtain ⟨v2, p2, r2, g1, g2, g3, g4⟩ := VsOk.at hf hl
          obtain ⟨v1, p1, r1, k1, k2, k3, k4⟩ := TrOk.at g2 e
          refine ⟨v1, p1, a :: (r1 ++ r2), ⟨a, v2, rfl, .inr ⟨hc, xs, ha, g1⟩, k1⟩, k2, ?_, fun M' H' t' p1' m hr ht => ?_⟩
          · have q1 : fq.Perm (p1 ++ (r1 ++ r2)) := g3.trans (by rw [← List.append_assoc]; exact List.Perm.append_right r2 k3)
            exact (List.Perm.cons a q1).trans List.perm_middle.symm
          · obtain ⟨fp2, n1, n2⟩ := k4 M' H' t' p1' m (fun b hb => hr b (List.mem_cons_of_mem _ (List.mem_append_left _ hb))) ht
            obtain ⟨fp3, n3, n4⟩ := g4 M' H' _ fp2 m (fun b hb => hr b (List.mem_cons_of_mem _ (List.mem_append_right _ hb))) n2
            refine ⟨a :: fp3, ?_, ?_⟩
            · have q1 : fp3.Perm (p1' ++ (r1 ++ r2)) := n3.trans (by rw [← List.append_assoc]; exact List.Perm.append_right r2 n1)
              exact (List.Perm.cons a q1).trans List.perm_middle.symm
            · simp only [Tr.put, hl]
              exact .vec (by rw [hr a List.mem_cons_self]; exact ha) n4
      · cases e
    | _ => simp [Tr.sub] at e
/-- a place in an own thing: what stands there, and how it changes -/
theorem Ok.mut {i : Nat} {s : Sv} {tr t1 : Tr} {ps : Path} (k : Ok K CA Tb H0 M0 pin env fps σ H M) (hs : env[i]? = some s) (ht : s.mut? = some tr) (hp : tr.sub ps = some t1) :
    ∃ v0 v1 p1 fp, σ[i]? = some (some v0) ∧ ValAt CA H v0 ps v1 ∧ TrOk K CA M H t1 v1 p1 ∧ fps[i]? = some fp ∧ (∀ a ∈ p1, a ∈ fp) ∧ p1.Nodup ∧
    ∀ (M' H' : Hp) (t' : Tr) (p1' : List Addr), Chg Tb H M p1 H' M' → TrOk K CA M' H' t' v1 p1' → p1'.Nodup → (∀ a ∈ p1', (a ∈ p1 ∨ H a = none) ∧ M' a = none ∧ H' a ≠ none) →
      ∃ fp', Ok K CA Tb H0 M0 pin (env.set i (s.put (tr.put ps t'))) (fps.set i fp') σ H' M' ∧ ∀ a ∈ fp', (a ∈ fp ∧ a ∉ p1) ∨ a ∈ p1' := by
  obtain ⟨o, fp, e1, e2, x⟩ := k.sls.get hs
  have nd := nd_slot k.nd e2
  obtain ⟨v0, e3, x0, back⟩ : ∃ v0, o = some v0 ∧ TrOk K CA M H tr v0 fp ∧ ∀ M' H' t' fp', TrOk K CA M' H' t' v0 fp' → SlOk K CA Tb H0 M' H' (pin i) (s.put t') (some v0) fp' := by
    cases s with
    | un => cases ht
    | own t => cases ht; obtain ⟨v, e, x⟩ := x; exact ⟨v, e, x, fun _ _ _ _ h => ⟨v, rfl, h⟩⟩
    | arg t => cases ht; obtain ⟨e, x⟩ := x; exact ⟨_, e, x, fun _ _ _ _ h => ⟨rfl, h⟩⟩
    | lent t => cases ht
  subst e3
  obtain ⟨v1, p1, rest, g1, g2, g3, g4⟩ := x0.at hp
  have nd2 : (p1 ++ rest).Nodup := g3.nodup_iff.mp nd
  rw [List.nodup_append] at nd2
  refine ⟨v0, v1, p1, fp, e1, g1, g2, e2, fun a ha => g3.mem_iff.mpr (List.mem_append_left _ ha), nd2.1, fun M' H' t' p1' c ht' nd' hn => ?_⟩
  have own := fun a (ha : a ∈ fp) => k.own a (mem_flat e2 ha)
  have nt : ∀ a ∈ fp, noT Tb a := fun a ha x hx e => k.tab0 x hx (by rw [e]; exact (own a ha).1)
  have hrest : ∀ a ∈ rest, H' a = H a := fun a ha => by
    have hf : a ∈ fp := g3.mem_iff.mpr (List.mem_append_right _ ha)
    cases e : H a with
    | none => exact absurd e (own a hf).2.2
    | some u => exact c.h a u e (fun z => nd2.2.2 a z a ha rfl) (nt a hf)
  obtain ⟨fp', n1, n2⟩ := g4 M' H' t' p1' c.m hrest ht'
  have hmem : ∀ a ∈ fp', a ∈ p1' ∨ a ∈ rest := fun a ha => List.mem_append.mp (n1.mem_iff.mp ha)
  have hin : ∀ a ∈ rest, a ∈ fp := fun a ha => g3.mem_iff.mpr (List.mem_append_right _ ha)
  refine ⟨fp', ?_, fun a ha => (hmem a ha).elim .inr fun z => .inl ⟨hin a z, fun y => nd2.2.2 a y a z rfl⟩⟩
  have k2 := k.chg (o' := some v0) e2 (fp' := fp') (H' := H') (M' := M') (s' := s.put (tr.put ps t')) ⟨fun a o e h z => c.h a o e (fun y => h (g3.mem_iff.mpr (List.mem_append_left _ y))) z, c.t, c.m, c.s, fun a o e => (c.n a o e).imp id (Or.imp id fun z => g3.mem_iff.mpr (List.mem_append_left _ z)), c.mt⟩
    (n1.nodup_iff.mpr (List.nodup_append.mpr ⟨nd', nd2.2.1, fun a ha b hb e => by
      subst e
      rcases (hn a ha).1 with z | z
      · exact nd2.2.2 a z a hb rfl
      · exact (own a (hin a hb)).2.2 z⟩)) (fun a ha => by
      rcases hmem a ha with z | z
      · obtain ⟨h1, h2, h3⟩ := hn a z
        exact ⟨h1.imp (fun y => g3.mem_iff.mpr (List.mem_append_left _ y)) id, h2, h3⟩
      · have := own a (hin a z)
        refine ⟨.inl (hin a z), ?_, by rw [hrest a z]; exact this.2.2⟩
        cases e : M' a with
        | none => rfl
        | some u =>
          rcases c.n a u e with y | y | y
          · rw [this.2.1] at y; cases y
          · exact absurd y this.2.2
          · exact absurd rfl (nd2.2.2 a y a z)) (back _ _ _ _ n2)
  rw [show σ.set i (some v0) = σ from by
    have h2 := List.getElem?_eq_some_iff.mp e1
    rw [← h2.2]; exact List.set_getElem_self _] at k2
  exact k2
theorem ValAt.up (hk : ∀ a o, H a = some o → H' a = some o) : ∀ {ps : Path} {v w : V}, ValAt CA H v ps w → ValAt CA H' v ps w
  | [], _, _, h => h
  | _ :: _, _, _, ⟨a, u, e1, e2, e4⟩ => ⟨a, u, e1, e2.imp (fun ⟨dx, fvs, x, y⟩ => ⟨dx, fvs, hk _ _ x, y⟩) (fun ⟨z, xs, x, y⟩ => ⟨z, xs, hk _ _ x, y⟩), ValAt.up hk e4⟩
theorem TrOk.keepAt0 {t1 : Tr} : ∀ {ps : Path} {t : Tr} {v : V} {fp : List Addr} {w : V}, TrOk K CA M H t v fp → (∀ a ∈ fp, H' a = H a) → t.sub ps = some t1 → ValAt CA H v ps w → ValAt CA H' v ps w
  | [], _, _, _, _, _, _, _, h => h
  | (c, f) :: ps, t, v, fp, w, h, hk, e, ⟨a, u, e1, e2, e4⟩ => by
    cases h with
    | @obj c' b dx fs fvs fq hb hf =>
      cases e1
      simp only [Tr.sub] at e
      split at e
      · rename_i hc
        subst hc
        cases hl : fs.lookup f with
        | none => rw [hl] at e; cases e
        | some t2 =>
          rw [hl] at e
          obtain ⟨v2, p2, r2, n1, n2, n3, n4⟩ := FsOk.at hf hl
          rcases e2 with ⟨dx', fvs', x, y⟩ | ⟨_, xs, x, y⟩
          · rw [hb] at x
            cases x
            have : u = v2 := Option.some.inj (y.symm.trans n1)
            subst this
            exact ⟨_, u, rfl, .inl ⟨_, _, by rw [hk _ List.mem_cons_self]; exact hb, n1⟩, TrOk.keepAt0 n2 (fun a ha => hk a (List.mem_cons_of_mem _ (n3.mem_iff.mpr (List.mem_append_left _ ha)))) e e4⟩
          · rw [hb] at x; cases x
      · cases e
    | @vec ts b vs fq hb hf =>
      cases e1
      simp only [Tr.sub] at e
      split at e
      · rename_i hc
        cases hl : ts[f.length]? with
        | none => rw [hl] at e; cases e
        | some t2 =>
          rw [hl] at e
          obtain ⟨v2, p2, r2, n1, n2, n3, n4⟩ := VsOk.at hf hl
          rcases e2 with ⟨dx', fvs', x, y⟩ | ⟨_, xs, x, y⟩
          · rw [hb] at x; cases x
          · rw [hb] at x
            cases x
            have : u = v2 := Option.some.inj (y.symm.trans n1)
            subst this
            exact ⟨_, u, rfl, .inr ⟨hc, _, by rw [hk _ List.mem_cons_self]; exact hb, n1⟩, TrOk.keepAt0 n2 (fun a ha => hk a (List.mem_cons_of_mem _ (n3.mem_iff.mpr (List.mem_append_left _ ha)))) e e4⟩
      · cases e
    | _ => simp [Tr.sub] at e
theorem TrOk.keepAt {t : Tr} {v : V} {fp : List Addr} (h : TrOk K CA M H t v fp) {ps : Path} {w : V} (hk : ∀ a ∈ fp, H' a = H a) (x : ∃ t1, t.sub ps = some t1) (hv : ValAt CA H v ps w) : ValAt CA H' v ps w := TrOk.keepAt0 h hk x.choose_spec hv
/-- a lent place -/
theorem Ok.lentAt {i : Nat} {tr t1 : Tr} {ps : Path} (k : Ok K CA Tb H0 M0 pin env fps σ H M) (hs : env[i]? = some (.lent tr)) (hp : tr.sub ps = some t1) :
    ∃ v0 v1 p1, σ[i]? = some (some v0) ∧ ValAt CA H v0 ps v1 ∧ TrOk K CA M H0 t1 v1 p1 ∧ ∀ a ∈ p1, H0 a ≠ none ∧ noT Tb a := by
  obtain ⟨o, fp, e1, e2, e3, rfl, x⟩ := k.sls.get hs
  obtain ⟨v1, p1, rest, g1, g2, g3, _⟩ := x.at hp
  refine ⟨_, v1, p1, e1, ?_, g2, fun a ha => k.pinOk i a (g3.mem_iff.mpr (List.mem_append_left _ ha))⟩
  exact x.keepAt (fun a ha => by
    obtain ⟨h1, h2⟩ := k.pinOk i a ha
    cases e : H0 a with
    | none => exact absurd e h1
    | some u => exact k.base a u e h2) ⟨_, hp⟩ g1
end
/-! lending -/
section
variable {K : PySem.W.Frag} {CA : Str → Addr} {Tb : List Tbl2} {H0 M0 H M H' M' : Hp} {pin : Nat → V × List Addr} {env : Env} {fps : List (List Addr)} {σ : L2.St}
open Classical in
noncomputable def lendH (H0 H : Hp) (fp : List Addr) : Hp := fun a => if a ∈ fp then H a else H0 a
def lendP (pin : Nat → V × List Addr) (i : Nat) (v : V) (fp : List Addr) : Nat → V × List Addr := fun j => if j = i then (v, fp) else pin j
theorem Ok.lend {i : Nat} {s : Sv} {t : Tr} (k : Ok K CA Tb H0 M0 pin env fps σ H M) (hs : env[i]? = some s) (ht : s.mut? = some t) :
    ∃ v fp, σ[i]? = some (some v) ∧ fps[i]? = some fp ∧ TrOk K CA M H t v fp ∧ Ok K CA Tb (lendH H0 H fp) M (lendP pin i v fp) (env.set i (.lent t)) (fps.set i []) σ H M ∧ (∀ t', TrOk K CA M' H' t' v fp → SlOk K CA Tb H0 M' H' (pin i) (s.put t') (some v) fp) := by
  obtain ⟨o, fp, e1, e2, x⟩ := k.sls.get hs
  obtain ⟨v, e3, x0, back⟩ : ∃ v0, o = some v0 ∧ TrOk K CA M H t v0 fp ∧ ∀ t', TrOk K CA M' H' t' v0 fp → SlOk K CA Tb H0 M' H' (pin i) (s.put t') (some v0) fp := by
    cases s with
    | un => cases ht
    | own t => cases ht; obtain ⟨v, e, x⟩ := x; exact ⟨v, e, x, fun _ h => ⟨v, rfl, h⟩⟩
    | arg t => cases ht; obtain ⟨e, x⟩ := x; exact ⟨_, e, x, fun _ h => ⟨rfl, h⟩⟩
    | lent t => cases ht
  subst e3
  have own := fun a (ha : a ∈ fp) => k.own a (mem_flat e2 ha)
  have nt : ∀ a ∈ fp, noT Tb a := fun a ha x hx e => k.tab0 x hx (by rw [e]; exact (own a ha).1)
  have hi : i < env.length := (List.getElem?_eq_some_iff.mp hs).1
  have up : ∀ a, H0 a ≠ none → lendH H0 H fp a = H0 a := fun a h => if_neg fun z => h (own a z).1
  have h0 : ∀ j a, a ∈ (pin j).2 → lendH H0 H fp a = H0 a := fun j a ha => up a (k.pinOk j a ha).1
  refine ⟨v, fp, e1, e2, x0, ⟨fun a o e z => ?_, k.tab, fun x hx => ?_, k.sub, k.mt, Same.refl M, fun _ _ e => .inl e, ⟨by rw [List.length_set]; exact k.sls.le, by rw [List.length_set]; exact k.sls.lf, fun j s' o f h1 h2 h3 => ?_⟩, flat_nodup k.nd, fun a ha => ?_, fun j a ha => ?_⟩, back⟩
  · unfold lendH at e
    split at e
    · exact e
    · exact k.base a o e z
  · rw [up _ (k.tab0 x hx)]; exact k.tab0 x hx
  · by_cases c : i = j
    · subst c
      rw [List.getElem?_set_self hi] at h1
      rw [e1] at h2
      rw [List.getElem?_set_self (by rw [k.sls.lf, ← k.sls.le]; exact hi)] at h3
      rw [← Option.some.inj h1, ← Option.some.inj h2, ← Option.some.inj h3]
      have e5 : lendP pin i v fp i = (v, fp) := if_pos rfl
      rw [e5]
      exact ⟨rfl, rfl, TrOk.mono (Same.refl M) (fun a ha => if_pos ha) x0⟩
    · rw [List.getElem?_set_ne c] at h1 h3
      have e5 : lendP pin i v fp j = pin j := if_neg fun z => c z.symm
      rw [e5]
      have y := k.sls.at_ j s' o f h1 h2 h3
      cases s' with
      | un => exact y
      | own t' => exact y
      | arg t' => exact y
      | lent t' =>
        obtain ⟨y1, y2, y3⟩ := y
        exact ⟨y1, y2, TrOk.mono (Same.refl M) (fun a ha => h0 j a ha) y3⟩
  · obtain ⟨f1, f2, f3⟩ := k.own a (flat_set ha)
    refine ⟨?_, f2, f3⟩
    have : a ∉ fp := fun z => flat_other k.nd e2 z ha rfl
    show lendH H0 H fp a = none
    unfold lendH
    rw [if_neg this]; exact f1
  · unfold lendP at ha
    split at ha
    · show lendH H0 H fp a ≠ none ∧ _
      unfold lendH
      rw [if_pos ha]; exact ⟨(own a ha).2.2, nt a ha⟩
    · rw [h0 j a ha]; exact k.pinOk j a ha
theorem Ok.unlend {i : Nat} {s : Sv} {t : Tr} {v : V} {fp : List Addr} {env' : Env} {fps' : List (List Addr)} {σ' : L2.St} (k : Ok K CA Tb H0 M0 pin env fps σ H M) (ht : s.mut? = some t) (hf : fps[i]? = some fp) (x0 : TrOk K CA M H t v fp)
    (back : ∀ t', TrOk K CA M' H' t' v fp → SlOk K CA Tb H0 M' H' (pin i) (s.put t') (some v) fp) (k' : Ok K CA Tb (lendH H0 H fp) M (lendP pin i v fp) env' fps' σ' H' M') (hσ : σ'[i]? = some (some v)) :
    Ok K CA Tb H0 M0 pin (env'.set i s) (fps'.set i fp) σ' H' M' ∧ (∀ fr, Fresh (lendH H0 H fp) M' fps' fr → Fresh H0 M' (fps'.set i fp) fr) ∧ ∀ a ∈ fp, H' a = H a := by
  have own := fun a (ha : a ∈ fp) => k.own a (mem_flat hf ha)
  have nt : ∀ a ∈ fp, noT Tb a := fun a ha x hx e => k.tab0 x hx (by rw [e]; exact (own a ha).1)
  have up : ∀ a, H0 a ≠ none → lendH H0 H fp a = H0 a := fun a h => if_neg fun z => h (own a z).1
  have non : ∀ a, lendH H0 H fp a = none → H0 a = none ∧ a ∉ fp := fun a e => by
    unfold lendH at e
    split at e
    · rename_i c; exact absurd e (own a c).2.2
    · rename_i c; exact ⟨e, c⟩
  have keep : ∀ a ∈ fp, H' a = H a := fun a ha => by
    cases e : H a with
    | none => exact absurd e (own a ha).2.2
    | some u => exact k'.base a u (by unfold lendH; rw [if_pos ha]; exact e) (nt a ha)
  have mnone : ∀ a ∈ fp, M' a = none := fun a ha => by
    cases e : M' a with
    | none => rfl
    | some u =>
      rcases k'.new a u e with z | z
      · rw [(own a ha).2.1] at z; cases z
      · exact absurd ha (non a z).2
  have hi : i < env'.length := by
    rw [k'.sls.le]; exact (List.getElem?_eq_some_iff.mp hσ).1
  have es : s.put t = s := by
    cases s <;> first | (cases ht; rfl) | cases ht
  have x1 : SlOk K CA Tb H0 M' H' (pin i) s (some v) fp := by
    have := back t (TrOk.mono k'.grow keep x0)
    rw [es] at this; exact this
  have ndf := nd_slot k.nd hf
  have dis : ∀ a ∈ fp, a ∉ fps'.flatten := fun a ha z => by
    have := (k'.own a z).1
    exact (non a this).2 ha
  refine ⟨⟨fun a o e z => k'.base a o (by rw [up a (by rw [e]; exact fun z => nomatch z)]; exact e) z, k'.tab, k.tab0, k'.sub, k'.mt, k.grow.trans k'.grow, fun a o e => ?_, ⟨by rw [List.length_set]; exact k'.sls.le, by rw [List.length_set]; exact k'.sls.lf, fun j s' o f h1 h2 h3 => ?_⟩, flat_ndG ndf k'.nd (fun a ha z => dis a ha (flat_set z)), fun a ha => ?_, k.pinOk⟩, fun fr hfr => ⟨hfr.1, fun a ha => ?_⟩, keep⟩
  · rcases k'.new a o e with z | z
    · exact k.new a o z
    · exact .inr (non a z).1
  · by_cases c : i = j
    · subst c
      rw [List.getElem?_set_self hi] at h1
      rw [hσ] at h2
      rw [List.getElem?_set_self (by rw [k'.sls.lf, ← k'.sls.le]; exact hi)] at h3
      rw [← Option.some.inj h1, ← Option.some.inj h2, ← Option.some.inj h3]
      exact x1
    · rw [List.getElem?_set_ne c] at h1 h3
      have y := k'.sls.at_ j s' o f h1 h2 h3
      have e5 : lendP pin i v fp j = pin j := if_neg fun z => c z.symm
      rw [e5] at y
      cases s' with
      | un => exact y
      | own t' => exact y
      | arg t' => exact y
      | lent t' =>
        obtain ⟨y1, y2, y3⟩ := y
        exact ⟨y1, y2, TrOk.mono (Same.refl _) (fun a ha => (up a (k.pinOk j a ha).1).symm) y3⟩
  · rcases flat_memG ha with z | z
    · exact ⟨(own a z).1, mnone a z, by rw [keep a z]; exact (own a z).2.2⟩
    · obtain ⟨f1, f2, f3⟩ := k'.own a (flat_set z)
      exact ⟨(non a f1).1, f2, f3⟩
  · obtain ⟨f1, f2, f3⟩ := hfr.2 a ha
    refine ⟨(non a f1).1, f2, fun z => ?_⟩
    rcases flat_memG z with z | z
    · exact (non a f1).2 z
    · exact f3 (flat_set z)
/-- an expression is reckoned while the own thing in slot i is lent -/
def xLend {α : Type} (i : Nat) (x : Env → Option (α × Env)) : Env → Option (α × Env) := fun env => match env[i]? with
  | some (.own (.dat _)) => x env
  | some (.own t) => (x (env.set i (.lent t))).map fun p => (p.1, p.2.set i (.own t))
  | some (.arg t) => (x (env.set i (.lent t))).map fun p => (p.1, p.2.set i (.arg t))
  | _ => x env
theorem xLend_some {α : Type} {i : Nat} {x : Env → Option (α × Env)} {env env' : Env} {d : α} (h : xLend i x env = some (d, env')) : x env = some (d, env') ∨ ∃ s t e1, env[i]? = some s ∧ s.mut? = some t ∧ x (env.set i (.lent t)) = some (d, e1) ∧ env' = e1.set i s := by
  unfold xLend at h
  split at h
  · exact .inl h
  · rename_i t _ c
    obtain ⟨⟨d1, e1⟩, h1, h2⟩ := Option.map_eq_some_iff.mp h
    cases h2
    exact .inr ⟨_, t, e1, c, rfl, h1, rfl⟩
  · rename_i t c
    obtain ⟨⟨d1, e1⟩, h1, h2⟩ := Option.map_eq_some_iff.mp h
    cases h2
    exact .inr ⟨_, t, e1, c, rfl, h1, rfl⟩
  · exact .inl h
theorem sim_lendD {i : Nat} {t : TE} {x : XD} (hx : SimD K CA Tb t x) : SimD K CA Tb t (xLend i x) := fun env d env' e H0 M0 pin fps σ H M Q k q => by
  rcases xLend_some e with e | ⟨s, tr, e1, h1, h2, h3, rfl⟩
  · exact hx env d env' e H0 M0 pin fps σ H M Q k q
  obtain ⟨v, fp, g1, g2, g3, g4, _⟩ := k.lend (M' := M) (H' := H) h1 h2
  refine hx _ _ _ h3 _ _ _ _ _ _ _ _ g4 fun w H' M' fps' k' s' dw => ?_
  obtain ⟨v2, fp2, n1, n2, n3, n4, n5⟩ := k.lend (M' := M') (H' := H') h1 h2
  rw [g1] at n1; cases n1
  rw [g2] at n2; cases n2
  exact q w H' M' _ (k.unlend h2 g2 g3 n5 k' g1).1 s' dw
theorem sim_lendN {i : Nat} {t : TE} {x : XN} (hx : SimN K CA Tb t x) : SimN K CA Tb t (xLend i x) := fun env d env' e H0 M0 pin fps σ H M Q k q => by
  rcases xLend_some e with e | ⟨s, tr, e1, h1, h2, h3, rfl⟩
  · exact hx env d env' e H0 M0 pin fps σ H M Q k q
  obtain ⟨v, fp, g1, g2, g3, g4, _⟩ := k.lend (M' := M) (H' := H) h1 h2
  refine hx _ _ _ h3 _ _ _ _ _ _ _ _ g4 fun w H' M' fps' fr k' s' dw hf => ?_
  obtain ⟨v2, fp2, n1, n2, n3, n4, n5⟩ := k.lend (M' := M') (H' := H') h1 h2
  rw [g1] at n1; cases n1
  rw [g2] at n2; cases n2
  have := k.unlend h2 g2 g3 n5 k' g1
  exact q w H' M' _ fr this.1 s' dw (this.2.1 fr hf)
theorem sim_lendT {i : Nat} {t : TT} {x : XB} (hx : SimT K CA Tb t x) : SimT K CA Tb t (xLend i x) := fun env d env' e H0 M0 pin fps σ H M Q k q => by
  rcases xLend_some e with e | ⟨s, tr, e1, h1, h2, h3, rfl⟩
  · exact hx env d env' e H0 M0 pin fps σ H M Q k q
  obtain ⟨v, fp, g1, g2, g3, g4, _⟩ := k.lend (M' := M) (H' := H) h1 h2
  refine hx _ _ _ h3 _ _ _ _ _ _ _ _ g4 fun H' M' fps' k' s' => ?_
  obtain ⟨v2, fp2, n1, n2, n3, n4, n5⟩ := k.lend (M' := M') (H' := H') h1 h2
  rw [g1] at n1; cases n1
  rw [g2] at n2; cases n2
  exact q H' M' _ (k.unlend h2 g2 g3 n5 k' g1).1 s'
/-- a statement -/
def unL (i : Nat) (s : Sv) (e : Env) : Option Env := match e[i]? with
  | some (.lent _) => some (e.set i s)
  | _ => none
def unLO (i : Nat) (s : Sv) : Out → Option Out
  | .nx e => (unL i s e).map .nx
  | .brk e => (unL i s e).map .brk
  | .cont e => (unL i s e).map .cont
  | .ret t e => (unL i s e).map (.ret t)
def xLendS (i : Nat) (x : XS) : XS := fun env => match env[i]? with
  | some (.own (.dat _)) => x env
  | some (.own t) => (x (env.set i (.lent t))).bind (unLO i (.own t))
  | some (.arg t) => (x (env.set i (.lent t))).bind (unLO i (.arg t))
  | _ => x env
theorem sim_lendS {i : Nat} {t : TS} {x : XS} (hx : SimS K CA Tb t x) : SimS K CA Tb t (xLendS i x) := fun env o e H0 M0 pin fps σ H M D k q => by
  have main : ∀ (s : Sv) (tr : Tr), env[i]? = some s → s.mut? = some tr → (x (env.set i (.lent tr))).bind (unLO i s) = some o → t D σ H := fun s tr h1 h2 h3 => by
    obtain ⟨o1, h4, h5⟩ := Option.bind_eq_some_iff.mp h3
    obtain ⟨v, fp, g1, g2, g3, g4, _⟩ := k.lend (M' := M) (H' := H) h1 h2
    refine hx _ _ h4 _ _ _ _ _ _ _ D g4 ?_
    have un : ∀ {e1 e2 : Env}, unL i s e1 = some e2 → ∀ {fps' σ' H' M'}, Ok K CA Tb (lendH H0 H fp) M (lendP pin i v fp) e1 fps' σ' H' M' → Ok K CA Tb H0 M0 pin e2 (fps'.set i fp) σ' H' M' ∧ ∀ fr, Fresh (lendH H0 H fp) M' fps' fr → Fresh H0 M' (fps'.set i fp) fr := fun {e1 e2} he {fps' σ' H' M'} k' => by
      unfold unL at he
      split at he
      · rename_i t' c
        cases he
        obtain ⟨o2, f2, m1, m2, m3, m4, m5⟩ := k'.sls.get c
        have e5 : lendP pin i v fp i = (v, fp) := if_pos rfl
        rw [e5] at m4
        subst m4
        obtain ⟨v2, fp2, n1, n2, n3, n4, n5⟩ := k.lend (M' := M') (H' := H') h1 h2
        rw [g1] at n1; cases n1
        rw [g2] at n2; cases n2
        have := k.unlend h2 g2 g3 n5 k' m1
        exact ⟨this.1, this.2.1⟩
      · cases he
    cases o1 with
    | nx e1 =>
      obtain ⟨e2, h6, rfl⟩ := Option.map_eq_some_iff.mp h5
      exact fun fps' σ' H' M' k' => q _ _ _ _ (un h6 k').1
    | brk e1 =>
      obtain ⟨e2, h6, rfl⟩ := Option.map_eq_some_iff.mp h5
      exact fun fps' σ' H' M' k' => q _ _ _ _ (un h6 k').1
    | cont e1 =>
      obtain ⟨e2, h6, rfl⟩ := Option.map_eq_some_iff.mp h5
      exact fun fps' σ' H' M' k' => q _ _ _ _ (un h6 k').1
    | ret tt e1 =>
      obtain ⟨e2, h6, rfl⟩ := Option.map_eq_some_iff.mp h5
      exact fun fps' σ' H' M' w fr k' tw hf => q _ _ _ _ w fr (un h6 k').1 tw ((un h6 k').2 fr hf)
  unfold xLendS at e
  split at e
  · exact hx env o e H0 M0 pin fps σ H M D k q
  · rename_i tr _ c; exact main _ tr c rfl e
  · rename_i tr c; exact main _ tr c rfl e
  · exact hx env o e H0 M0 pin fps σ H M D k q
end
end Q

/-! ### layer Q: fields, calls, methods, new objects -/
namespace Q
open PySem L2 Y
section
variable (K : PySem.W.Frag) (CA : Str → Addr) (Tb : List Tbl2)
/-- the term t comes to the place ps of slot i -/
def SimP (t : TE) (i : Nat) (ps : Path) : Prop := ∀ (σ : L2.St) (H : Hp) (Q : VK) (v0 v1 : V), σ[i]? = some (some v0) → ValAt CA H v0 ps v1 → Q v1 H → t σ H Q
end
section
variable {K : PySem.W.Frag} {CA : Str → Addr} {Tb : List Tbl2} {H0 M0 H M H' M' : Hp} {pin : Nat → V × List Addr} {env : Env} {fps : List (List Addr)} {σ : L2.St}
theorem sim_pvar {i : Nat} : SimP CA (tVar i) i [] := fun σ H Q v0 v1 h1 h2 q => ⟨v0, h1, by rw [show v0 = v1 from h2]; exact q⟩
theorem ValAt.snoc {c f : Str} (hc : c ≠ "") : ∀ {ps : Path} {v w : V}, ValAt CA H v (ps ++ [(c, f)]) w → ∃ u, ValAt CA H v ps u ∧ ∃ a dx fvs, u = .ref a ∧ H a = some (.ins (CA c) dx fvs) ∧ fvs.lookup f = some w
  | [], v, w, ⟨a, u, e1, e2, e4⟩ => by
    rcases e2 with ⟨dx, fvs, x, y⟩ | ⟨z, _⟩
    · exact ⟨v, rfl, a, dx, fvs, e1, x, by rw [y, show u = w from e4]⟩
    · exact absurd z hc
  | _ :: ps, v, w, ⟨a, u, e1, e2, e4⟩ => by
    obtain ⟨u2, g1, g2⟩ := ValAt.snoc hc e4
    exact ⟨u2, ⟨a, u, e1, e2, g1⟩, g2⟩
theorem sim_pfld {t : TE} {i : Nat} {ps : Path} {c f : Str} (h : SimP CA t i ps) (hc : Cls K (CA c)) (hn : NoAttr K (CA c) f) (hne : c ≠ "" := by decide +kernel) : SimP CA (tFld K t f) i (ps ++ [(c, f)]) := fun σ H Q v0 v1 h1 h2 q => by
  obtain ⟨u, g1, a, dx, fvs, e1, e2, e3⟩ := h2.snoc hne
  exact h σ H _ v0 u h1 g1 ⟨a, CA c, dx, fvs, v1, e1, e2, hc, hn, e3, q⟩
/-- what is read at a place -/
def plTr (i : Nat) (ps : Path) (env : Env) : Option Tr := (env[i]?).bind fun s => s.tr?.bind fun t => t.sub ps
def xPl (i : Nat) (ps : Path) : XD := fun env => (plTr i ps env).bind fun t => match t with
  | .dat d => some (d, env)
  | _ => none
def xPlR (i : Nat) (ps : Path) : XD := fun env => match env[i]? with
  | some (.lent tr) => (tr.sub ps).bind fun t => match t with
    | .dat d => some (d, env)
    | .lst ds => some (.list ds, env)
    | _ => none
  | _ => xPl i ps env
theorem sim_pl {t : TE} {i : Nat} {ps : Path} (hp : SimP CA t i ps) : SimD K CA Tb t (xPl i ps) := fun env d env' e H0 M0 pin fps σ H M Q k q => by
  obtain ⟨tr, h1, h2⟩ := Option.bind_eq_some_iff.mp e
  obtain ⟨s, h3, h4⟩ := Option.bind_eq_some_iff.mp h1
  obtain ⟨t0, h5, h6⟩ := Option.bind_eq_some_iff.mp h4
  split at h2
  · rename_i d1
    cases h2
    cases s with
    | un => cases h5
    | own t1 =>
      obtain ⟨v0, v1, p1, fp, g1, g2, g3, _⟩ := k.mut h3 h5 h6
      exact hp σ H _ v0 v1 g1 g2 (q v1 H M fps k (Same.refl M) g3.datI)
    | arg t1 =>
      obtain ⟨v0, v1, p1, fp, g1, g2, g3, _⟩ := k.mut h3 h5 h6
      exact hp σ H _ v0 v1 g1 g2 (q v1 H M fps k (Same.refl M) g3.datI)
    | lent t1 =>
      cases h5
      obtain ⟨v0, v1, p1, g1, g2, g3, _⟩ := k.lentAt h3 h6
      exact hp σ H _ v0 v1 g1 g2 (q v1 H M fps k (Same.refl M) g3.datI)
  · cases h2
theorem sim_plR {t : TE} {i : Nat} {ps : Path} (hp : SimP CA t i ps) : SimR K CA Tb t (xPlR i ps) := fun env d env' e H0 M0 pin fps σ H M Q k q => by
  unfold xPlR at e
  split at e
  · rename_i tr h3
    obtain ⟨t1, h1, h2⟩ := Option.bind_eq_some_iff.mp e
    obtain ⟨v0, v1, p1, g1, g2, g3, g4⟩ := k.lentAt h3 h1
    split at h2
    · cases h2
      exact hp σ H _ v0 v1 g1 g2 (q v1 H M fps k (Same.refl M) (.dq g3.datI))
    · cases h2
      cases g3 with | lst a b => exact hp σ H _ v0 _ g1 g2 (q _ H M fps k (Same.refl M) (.own a (g4 _ (List.mem_singleton.mpr rfl)).2 b))
    · cases h2
  · exact simR_of (sim_pl hp) env d env' e H0 M0 pin fps σ H M Q k q
/-! arguments of own defs: data, or what is lent -/
inductive Ad where
  | d (x : PyData)
  | l (t : Tr)
def Ad.sv : Ad → Sv
  | Ad.d x => .own (.dat x)
  | Ad.l t => .lent t
inductive AdOk (K : PySem.W.Frag) (CA : Str → Addr) (Tb : List Tbl2) (H0 M : Hp) : Ad → V → List Addr → Prop
  | d {x : PyData} {v : V} : Dq K M v x → AdOk K CA Tb H0 M (.d x) v []
  | l {t : Tr} {v : V} {fp : List Addr} : TrOk K CA M H0 t v fp → (∀ a ∈ fp, H0 a ≠ none ∧ noT Tb a) → AdOk K CA Tb H0 M (.l t) v fp
inductive AdsOk (K : PySem.W.Frag) (CA : Str → Addr) (Tb : List Tbl2) (H0 M : Hp) : List Ad → List V → List (List Addr) → Prop
  | nil : AdsOk K CA Tb H0 M [] [] []
  | cons {a : Ad} {v : V} {l : List Addr} {as : List Ad} {vs : List V} {ls : List (List Addr)} : AdOk K CA Tb H0 M a v l → AdsOk K CA Tb H0 M as vs ls → AdsOk K CA Tb H0 M (a :: as) (v :: vs) (l :: ls)
theorem AdOk.same (s : Same M M') {a : Ad} {v : V} {l : List Addr} (h : AdOk K CA Tb H0 M a v l) : AdOk K CA Tb H0 M' a v l := by
  cases h with
  | d h => exact .d (Dq.same s h)
  | l h g => exact .l (TrOk.mono s (fun _ _ => rfl) h) g
abbrev XG := Env → Option (List Ad × Env)
abbrev XG1 := Env → Option (Ad × Env)
def SimG1 (K : PySem.W.Frag) (CA : Str → Addr) (Tb : List Tbl2) (t : TE) (x : XG1) : Prop := ∀ (env : Env) (d : Ad) (env' : Env), x env = some (d, env') → ∀ (H0 M0 : Hp) (pin : Nat → V × List Addr) (fps : List (List Addr)) (σ : L2.St) (H M : Hp) (Q : VK), Ok K CA Tb H0 M0 pin env fps σ H M →
  (∀ v H' M' fps' l, Ok K CA Tb H0 M0 pin env' fps' σ H' M' → Same M M' → AdOk K CA Tb H0 M' d v l → Q v H') → t σ H Q
def SimG (K : PySem.W.Frag) (CA : Str → Addr) (Tb : List Tbl2) (t : TA) (x : XG) : Prop := ∀ (env : Env) (d : List Ad) (env' : Env), x env = some (d, env') → ∀ (H0 M0 : Hp) (pin : Nat → V × List Addr) (fps : List (List Addr)) (σ : L2.St) (H M : Hp) (Q : List V → Hp → Prop), Ok K CA Tb H0 M0 pin env fps σ H M →
  (∀ vs H' M' fps' ls, Ok K CA Tb H0 M0 pin env' fps' σ H' M' → Same M M' → AdsOk K CA Tb H0 M' d vs ls → Q vs H') → t σ H Q
def gD (x : XD) : XG1 := x1 x fun d => some (Ad.d d)
theorem sim_gD {t : TE} {x : XD} (h : SimD K CA Tb t x) : SimG1 K CA Tb t (gD x) := fun env d env' e H0 M0 pin fps σ H M Q k q => by
  obtain ⟨d1, h1, h2⟩ := x1_some e
  cases h2
  exact h _ _ _ h1 H0 M0 pin fps σ H M Q k fun v H' M' f' k' s' dv => q v H' M' f' [] k' s' (.d dv)
/-- a lent place is lent on; data is data -/
def gL (i : Nat) (ps : Path) : XG1 := fun env => match env[i]? with
  | some (.lent tr) => (tr.sub ps).bind fun t => match t with
    | .dat d => some (.d d, env)
    | t => some (.l t, env)
  | some (.own tr) => (tr.sub ps).bind fun t => match t with
    | .dat d => some (.d d, env)
    | _ => none
  | some (.arg tr) => (tr.sub ps).bind fun t => match t with
    | .dat d => some (.d d, env)
    | _ => none
  | _ => none
theorem sim_gL {t : TE} {i : Nat} {ps : Path} (hp : SimP CA t i ps) : SimG1 K CA Tb t (gL i ps) := fun env d env' e H0 M0 pin fps σ H M Q k q => by
  unfold gL at e
  split at e
  · rename_i tr h3
    obtain ⟨t1, h1, h2⟩ := Option.bind_eq_some_iff.mp e
    obtain ⟨v0, v1, p1, g1, g2, g3, g4⟩ := k.lentAt h3 h1
    split at h2
    · cases h2
      exact hp σ H _ v0 v1 g1 g2 (q v1 H M fps [] k (Same.refl M) (AdOk.d g3.datI))
    · cases h2
      exact hp σ H _ v0 v1 g1 g2 (q v1 H M fps p1 k (Same.refl M) (AdOk.l g3 g4))
  · rename_i tr h3
    obtain ⟨t1, h1, h2⟩ := Option.bind_eq_some_iff.mp e
    obtain ⟨v0, v1, p1, fp, g1, g2, g3, _⟩ := k.mut h3 (tr := tr) rfl h1
    split at h2
    · cases h2
      exact hp σ H _ v0 v1 g1 g2 (q v1 H M fps [] k (Same.refl M) (AdOk.d g3.datI))
    · cases h2
  · rename_i tr h3
    obtain ⟨t1, h1, h2⟩ := Option.bind_eq_some_iff.mp e
    obtain ⟨v0, v1, p1, fp, g1, g2, g3, _⟩ := k.mut h3 (tr := tr) rfl h1
    split at h2
    · cases h2
      exact hp σ H _ v0 v1 g1 g2 (q v1 H M fps [] k (Same.refl M) (AdOk.d g3.datI))
    · cases h2
  · cases e
def agNil : XG := fun env => some ([], env)
def agCons (a : XG1) (b : XG) : XG := x2 a b fun d ds => some (d :: ds)
theorem sim_agNil : SimG K CA Tb tNil agNil := fun env d env' e H0 M0 pin fps σ H M Q k q => by cases e; exact q [] H M fps [] k (Same.refl M) .nil
theorem sim_agCons {ta : TE} {tr : TA} {a : XG1} {b : XG} (ha : SimG1 K CA Tb ta a) (hb : SimG K CA Tb tr b) : SimG K CA Tb (tCons ta tr) (agCons a b) := fun env d env' e H0 M0 pin fps σ H M Q k q => by
  obtain ⟨d1, e1, d2, h1, h2, h3⟩ := x2_some e
  cases h3
  exact ha _ _ _ h1 H0 M0 pin fps σ H M _ k fun x H1 M1 f1 l1 k1 s1 r1 => hb _ _ _ h2 H0 M0 pin f1 σ H1 M1 _ k1 fun y H2 M2 f2 l2 k2 s2 r2 => q _ H2 M2 f2 _ k2 (s1.trans s2) (.cons (r1.same s2) r2)
/-! a def's promise -/
def PX (K : PySem.W.Frag) (CA : Str → Addr) (Tb : List Tbl2) (f : Env → Option (Tr × Env)) : Sp := fun vs H Q _ => ∃ (H0 : Hp) (pin : Nat → V × List Addr) (M : Hp) (as envf : Env) (r : Tr) (fps : List (List Addr)), f as = some (r, envf) ∧ (∀ (i : Nat) (v : V), vs[i]? = some v → (pin i).1 = v) ∧ Ok K CA Tb H0 M pin as fps (vs.map some) H M ∧
  ∀ v H' M' fps' fr, Ok K CA Tb H0 M pin envf fps' (vs.map some) H' M' → TrOk K CA M' H' r v fr → Fresh H0 M' fps' fr → Q v H'
/-- what is left of the arguments behind a body -/
def clean : Nat → Env → Env
  | 0, _ => []
  | n + 1, [] => .un :: clean n []
  | n + 1, .arg t :: e => .arg t :: clean n e
  | n + 1, _ :: e => .un :: clean n e
def cleanF : Nat → Env → List (List Addr) → List (List Addr)
  | 0, _, _ => []
  | n + 1, .arg t :: e, fp :: fps => fp :: cleanF n e fps
  | n + 1, _ :: e, _ :: fps => [] :: cleanF n e fps
  | n + 1, _, _ => [] :: cleanF n [] []
theorem clean_len : ∀ (n : Nat) (e : Env), (clean n e).length = n
  | 0, _ => by simp [clean]
  | n + 1, [] => by simp [clean, clean_len]
  | n + 1, s :: e => by cases s <;> simp [clean, clean_len]
theorem cleanF_len : ∀ (n : Nat) (e : Env) (f : List (List Addr)), (cleanF n e f).length = n
  | 0, _, _ => by simp [cleanF]
  | n + 1, [], f => by cases f <;> simp [cleanF, cleanF_len]
  | n + 1, s :: e, [] => by cases s <;> simp [cleanF, cleanF_len]
  | n + 1, s :: e, fp :: fps => by cases s <;> simp [cleanF, cleanF_len]
theorem clean_get : ∀ {n : Nat} {e : Env} {i : Nat} {s : Sv}, (clean n e)[i]? = some s → s = .un ∨ ∃ t, s = .arg t ∧ e[i]? = some (.arg t)
  | 0, _, i, s, h => by simp [clean] at h
  | n + 1, [], i, s, h => by
    cases i with
    | zero => simp [clean] at h; exact .inl h.symm
    | succ i =>
      have h' : (clean n [])[i]? = some s := by simpa [clean] using h
      rcases clean_get h' with z | ⟨t, _, z⟩
      · exact .inl z
      · simp at z
  | n + 1, x :: e, i, s, h => by
    cases i with
    | zero =>
      cases x with
      | arg t => simp [clean] at h; exact .inr ⟨t, h.symm, rfl⟩
      | _ => simp [clean] at h; exact .inl h.symm
    | succ i =>
      have h' : (clean n e)[i]? = some s := by cases x <;> simpa [clean] using h
      rcases clean_get h' with z | ⟨t, e1, z⟩
      · exact .inl z
      · exact .inr ⟨t, e1, by simpa using z⟩
theorem cleanF_get : ∀ {n : Nat} {e : Env} {f : List (List Addr)} {i : Nat} {fp : List Addr}, e.length = f.length → (cleanF n e f)[i]? = some fp → fp = [] ∨ ∃ t, e[i]? = some (.arg t) ∧ f[i]? = some fp
  | 0, _, _, i, s, _, h => by simp [cleanF] at h
  | n + 1, [], [], i, s, _, h => by
    cases i with
    | zero => simp [cleanF] at h; exact .inl h
    | succ i =>
      have h' : (cleanF n [] [])[i]? = some s := by simpa [cleanF] using h
      rcases cleanF_get (by rfl) h' with z | ⟨t, z, _⟩
      · exact .inl z
      · simp at z
  | n + 1, x :: e, fp :: f, i, s, hl, h => by
    have hl' : e.length = f.length := by simpa using hl
    cases i with
    | zero =>
      cases x with
      | arg t => simp [cleanF] at h; exact .inr ⟨t, rfl, by rw [h]; rfl⟩
      | _ => simp [cleanF] at h; exact .inl h
    | succ i =>
      have h' : (cleanF n e f)[i]? = some s := by cases x <;> simpa [cleanF] using h
      rcases cleanF_get hl' h' with z | ⟨t, z, z2⟩
      · exact .inl z
      · exact .inr ⟨t, by simpa using z, by simpa using z2⟩
theorem clean_un : ∀ {n : Nat} {e : Env} {f : List (List Addr)} {i : Nat} {fp : List Addr}, e.length = f.length → (clean n e)[i]? = some .un → (cleanF n e f)[i]? = some fp → fp = []
  | 0, _, _, i, s, _, h, _ => by simp [clean] at h
  | n + 1, [], [], i, s, _, h, h2 => by
    cases i with
    | zero => simp [cleanF] at h2; exact h2
    | succ i => exact clean_un (n := n) (e := []) (f := []) (i := i) rfl (by simpa [clean] using h) (by simpa [cleanF] using h2)
  | n + 1, x :: e, fp :: f, i, s, hl, h, h2 => by
    have hl' : e.length = f.length := by simpa using hl
    cases i with
    | zero => cases x <;> simp [clean, cleanF] at h h2 <;> exact h2
    | succ i => exact clean_un (n := n) (e := e) (f := f) (i := i) hl' (by cases x <;> simpa [clean] using h) (by cases x <;> simpa [cleanF] using h2)
theorem cleanF_sub : ∀ (n : Nat) (e : Env) (f : List (List Addr)), e.length = f.length → (cleanF n e f).flatten.Sublist f.flatten
  | 0, _, _, _ => by simp [cleanF]
  | n + 1, [], [], _ => by
    rw [show cleanF (n + 1) [] [] = [] :: cleanF n [] [] by simp [cleanF], List.flatten_cons, List.nil_append]
    exact cleanF_sub n [] [] rfl
  | n + 1, x :: e, fp :: f, hl => by
    have hl' : e.length = f.length := by simpa using hl
    have ih := cleanF_sub n e f hl'
    cases x with
    | arg t =>
      rw [show cleanF (n + 1) (.arg t :: e) (fp :: f) = fp :: cleanF n e f by simp [cleanF], List.flatten_cons, List.flatten_cons]
      exact List.Sublist.append (List.Sublist.refl _) ih
    | un =>
      rw [show cleanF (n + 1) (.un :: e) (fp :: f) = [] :: cleanF n e f by simp [cleanF], List.flatten_cons, List.flatten_cons, List.nil_append]
      exact ih.trans (List.sublist_append_right _ _)
    | own t =>
      rw [show cleanF (n + 1) (.own t :: e) (fp :: f) = [] :: cleanF n e f by simp [cleanF], List.flatten_cons, List.flatten_cons, List.nil_append]
      exact ih.trans (List.sublist_append_right _ _)
    | lent t =>
      rw [show cleanF (n + 1) (.lent t :: e) (fp :: f) = [] :: cleanF n e f by simp [cleanF], List.flatten_cons, List.flatten_cons, List.nil_append]
      exact ih.trans (List.sublist_append_right _ _)
/-- a def by its body -/
def callX (n m : Nat) (body : XS) : Env → Option (Tr × Env) := fun as => if as.length = n then match body (as ++ List.replicate m .un) with
  | some (.ret t e) => some (t, clean n e)
  | some (.nx e) => some (.dat .none, clean n e)
  | _ => none else none
theorem PX.len {f : Env → Option (Tr × Env)} {n m : Nat} {body : XS} (hf : f = callX n m body) : ∀ vs H Q E, PX K CA Tb f vs H Q E → vs.length = n := fun vs H Q E ⟨H0, pin, M, as, envf, r, fps, h, _, k, _⟩ => by
  rw [hf] at h
  unfold callX at h
  split at h
  · rename_i c
    have := k.sls.le
    rw [List.length_map] at this
    rw [← this, c]
  · cases h
theorem pin_of {vs : List V} {as : Env} (k : Ok K CA Tb H0 M pin as fps (vs.map some) H M) {e : Env} {fps' : List (List Addr)} {σ' : L2.St} (k' : Ok K CA Tb H0 M pin e fps' σ' H' M') (hp : ∀ (i : Nat) (v : V), vs[i]? = some v → (∃ t, e[i]? = some (.arg t)) → (pin i).1 = v) :
    Ok K CA Tb H0 M pin (clean vs.length e) (cleanF vs.length e fps') (vs.map some) H' M' := by
  have hl : e.length = fps'.length := by rw [k'.sls.le, k'.sls.lf]
  refine ⟨k'.base, k'.tab, k'.tab0, k'.sub, k'.mt, k'.grow, k'.new, ⟨by rw [clean_len, List.length_map], by rw [cleanF_len, List.length_map], fun i s o fp h1 h2 h3 => ?_⟩, (cleanF_sub _ _ _ hl).nodup k'.nd, fun a ha => k'.own a ((cleanF_sub _ _ _ hl).subset ha), k'.pinOk⟩
  rcases clean_get h1 with rfl | ⟨t, rfl, z⟩
  · exact clean_un hl h1 h3
  · have hi : i < fps'.length := by rw [← hl]; exact (List.getElem?_eq_some_iff.mp z).1
    obtain ⟨o', f', g1, g2, g3⟩ := k'.sls.get z
    rw [List.getElem?_map] at h2
    obtain ⟨v, h4, h5⟩ := Option.map_eq_some_iff.mp h2
    have ep := hp i v h4 ⟨t, z⟩
    obtain ⟨_, g4⟩ := g3
    have ef : fp = f' := by
      have key : ∀ {n : Nat} {e : Env} {f : List (List Addr)} {i : Nat} {t : Tr} {fp : List Addr}, e[i]? = some (.arg t) → (cleanF n e f)[i]? = some fp → e.length = f.length → f[i]? = some fp := by
        intro n
        induction n with
        | zero => intro e f i t fp h1 h2 _; simp [cleanF] at h2
        | succ n ih =>
          intro e f i t fp h1 h2 hl
          cases e with
          | nil => simp at h1
          | cons x e =>
            cases f with
            | nil => simp at hl
            | cons g f =>
              cases i with
              | zero =>
                have ex : x = .arg t := by simpa using h1
                subst ex
                simpa [cleanF] using h2
              | succ i => 
                have h2' : (cleanF n e f)[i]? = some fp := by cases x <;> simpa [cleanF] using h2
                simpa using ih (by simpa using h1) h2' (by simpa using hl)
      have := key z h3 hl
      rw [g2] at this
      exact (Option.some.inj this).symm
    rw [ef]
    exact ⟨by rw [← h5, ep], g4⟩
theorem Ok.more {vs : List V} {as : Env} (m : Nat) (k : Ok K CA Tb H0 M0 pin as fps (vs.map some) H M) : Ok K CA Tb H0 M0 pin (as ++ List.replicate m .un) (fps ++ List.replicate m []) (vs.map some ++ List.replicate m none) H M := by
  have e1 := k.sls.le
  have e2 := k.sls.lf
  have ef : (fps ++ List.replicate m ([] : List Addr)).flatten = fps.flatten := by
    rw [List.flatten_append]
    have : (List.replicate m ([] : List Addr)).flatten = [] := by
      rw [List.flatten_eq_nil_iff]; intro l hl; exact (List.mem_replicate.mp hl).2
    rw [this, List.append_nil]
  refine ⟨k.base, k.tab, k.tab0, k.sub, k.mt, k.grow, k.new, ⟨by simp [e1], by simp [e2], fun i s o fp h1 h2 h3 => ?_⟩, by rw [ef]; exact k.nd, fun a ha => k.own a (by rw [ef] at ha; exact ha), k.pinOk⟩
  by_cases c : i < as.length
  · rw [List.getElem?_append_left c] at h1
    rw [List.getElem?_append_left (by rw [← e1]; exact c)] at h2
    rw [List.getElem?_append_left (by rw [e2, ← e1]; exact c)] at h3
    exact k.sls.at_ i s o fp h1 h2 h3
  · rw [List.getElem?_append_right (by omega), List.getElem?_replicate] at h1
    rw [List.getElem?_append_right (by rw [← e1] at *; omega), List.getElem?_replicate] at h2
    rw [List.getElem?_append_right (by rw [e2, ← e1]; omega), List.getElem?_replicate] at h3
    split at h1
    · split at h3
      · rw [← Option.some.inj h1, ← Option.some.inj h3]; rfl
      · cases h3
    · cases h1
/-- a body is walked to the promise -/
theorem runX {f : Env → Option (Tr × Env)} {t : TS} {vs : List V} {H : Hp} {Q : VK} {E : XK} {N : List Str} {n m : Nat} {body : XS} (hf : f = callX n m body) (hN : N.length = n + m) (hs : SimS K CA Tb t body) (h : PX K CA Tb f vs H Q E) : t { nx := fun _ H' => Q .non H', rt := Q } (L2.start N vs) H := by
  have hv := PX.len hf _ _ _ _ h
  obtain ⟨H0, pin, M, as, envf, r, fps, h, hp, k, q⟩ := h
  rw [hf] at h
  unfold callX at h
  split at h
  case isFalse => cases h
  unfold L2.start
  rw [show N.length - vs.length = m by omega]
  have pk : ∀ {e : Env} (i : Nat) (v : V), vs[i]? = some v → (∃ t, e[i]? = some (Sv.arg t)) → (pin i).1 = v := fun i v h4 _ => hp i v h4
  split at h
  · rename_i t1 e1 hb
    cases h
    refine hs _ _ hb H0 M pin _ _ H M _ (k.more m) fun fps' σ' H' M' v fr k' tv hf' => ?_
    have := pin_of k k' pk
    rw [hv] at this
    exact q v H' M' _ fr (by rw [← hv] at this ⊢; exact this) tv ⟨hf'.1, fun a ha => ⟨(hf'.2 a ha).1, (hf'.2 a ha).2.1, fun z => (hf'.2 a ha).2.2 ((cleanF_sub _ _ _ (by rw [k'.sls.le, k'.sls.lf])).subset z)⟩⟩
  · rename_i e1 hb
    cases h
    refine hs _ _ hb H0 M pin _ _ H M _ (k.more m) fun fps' σ' H' M' k' => ?_
    have := pin_of k k' pk
    rw [hv] at this
    exact q .non H' M' _ [] this (.dat .non) ⟨List.nodup_nil, fun a ha => nomatch ha⟩
  · cases h
end
end Q

/-! ### layer Q: calls -/
namespace Q
open PySem L2 Y
section
variable {K : PySem.W.Frag} {CA : Str → Addr} {Tb : List Tbl2} {H0 M0 H M H' M' : Hp} {pin : Nat → V × List Addr} {env : Env} {fps : List (List Addr)} {σ : L2.St}
theorem AdsOk.len {ads : List Ad} {vs : List V} {ls : List (List Addr)} (h : AdsOk K CA Tb H0 M ads vs ls) : ads.length = vs.length ∧ ls.length = vs.length := by
  induction h with
  | nil => exact ⟨rfl, rfl⟩
  | cons _ _ ih => exact ⟨by rw [List.length_cons, List.length_cons, ih.1], by rw [List.length_cons, List.length_cons, ih.2]⟩
theorem AdsOk.get {ads : List Ad} {vs : List V} {ls : List (List Addr)} (h : AdsOk K CA Tb H0 M ads vs ls) : ∀ {i : Nat} {a : Ad}, ads[i]? = some a → ∃ v l, vs[i]? = some v ∧ ls[i]? = some l ∧ AdOk K CA Tb H0 M a v l := by
  induction h with
  | nil => intro i a h; cases h
  | cons x _ ih =>
    intro i a h
    cases i with
    | zero => cases h; exact ⟨_, _, rfl, rfl, x⟩
    | succ i => exact ih (by simpa using h)
theorem AdsOk.pinA {ads : List Ad} {vs : List V} {ls : List (List Addr)} (h : AdsOk K CA Tb H0 M ads vs ls) {i : Nat} {a : Addr} (ha : a ∈ (ls[i]?).getD []) : H0 a ≠ none ∧ noT Tb a := by
  cases e : ls[i]? with
  | none => rw [e] at ha; exact nomatch ha
  | some l =>
    rw [e] at ha
    have hi : i < ads.length := by
      rw [h.len.1, ← h.len.2]; exact (List.getElem?_eq_some_iff.mp e).1
    obtain ⟨v, l2, e1, e2, x⟩ := h.get (List.getElem?_eq_getElem hi)
    rw [e] at e2
    cases e2
    generalize ads[i] = ad at x
    cases x with
    | d x => exact nomatch (show a ∈ ([] : List Addr) from ha)
    | l x y => exact y a ha
/-- the callee's start, with an own thing ahead of the arguments (or none) -/
theorem callee (k : Ok K CA Tb H0 M0 pin env fps σ H M) {ads : List Ad} {vs : List V} {ls : List (List Addr)} (ha : AdsOk K CA Tb H0 M ads vs ls) {Hc : Hp} {p1 : List Addr} (hc : ∀ a, Hc a = if a ∈ p1 then none else H a) (nt : ∀ a ∈ p1, noT Tb a) (hm : ∀ a ∈ p1, H0 a = none ∧ M a = none ∧ H a ≠ none) (nd : p1.Nodup) :
    (p1 = [] → Ok K CA Tb Hc M (fun i => ((vs[i]?).getD .non, (ls[i]?).getD [])) (ads.map Ad.sv) (ads.map fun _ => []) (vs.map some) H M) ∧
    (∀ t1 v1, TrOk K CA M H t1 v1 p1 → Ok K CA Tb Hc M (fun i => (((v1 :: vs)[i]?).getD .non, (([] :: ls)[i]?).getD [])) (.arg t1 :: ads.map Ad.sv) (p1 :: ads.map fun _ => []) ((v1 :: vs).map some) H M) := by
  have e0 : ∀ a, H0 a ≠ none → noT Tb a → Hc a = H0 a := fun a h n => by
    rw [hc, if_neg (fun z => h (hm a z).1)]
    cases e : H0 a with
    | none => exact absurd e h
    | some u => exact k.base a u e n
  have base : ∀ a o, Hc a = some o → noT Tb a → H a = some o := fun a o e _ => by
    rw [hc] at e
    split at e
    · cases e
    · exact e
  have tab0 : ∀ t ∈ Tb, Hc t.1 ≠ none := fun t ht => by
    rw [hc, if_neg (fun z => nt _ z t ht rfl)]
    obtain ⟨ps, e⟩ := (k.tab.2 t ht).tbl
    rw [e]; exact fun z => nomatch z
  have sl : ∀ (i : Nat) (s : Sv) (o : Option V) (fp : List Addr), (ads.map Ad.sv)[i]? = some s → (vs.map some)[i]? = some o → (ads.map fun _ => ([] : List Addr))[i]? = some fp → SlOk K CA Tb Hc M H ((vs[i]?).getD .non, (ls[i]?).getD []) s o fp := fun i s o fp h1 h2 h3 => by
    rw [List.getElem?_map] at h1 h2 h3
    obtain ⟨a, g1, rfl⟩ := Option.map_eq_some_iff.mp h1
    obtain ⟨v, l, g2, g3, x⟩ := ha.get g1
    rw [g2] at h2
    rw [g1] at h3
    cases h2
    cases h3
    rw [g2, g3]
    cases x with
    | d x => exact ⟨v, rfl, .dat x⟩
    | l x y => exact ⟨rfl, rfl, TrOk.mono (Same.refl M) (fun a ha => e0 a (y a ha).1 (y a ha).2) x⟩
  have fl : (ads.map fun _ => ([] : List Addr)).flatten = [] := by
    rw [List.flatten_eq_nil_iff]; intro l hl; obtain ⟨_, _, rfl⟩ := List.mem_map.mp hl; rfl
  have pk : ∀ (i : Nat), ∀ a ∈ (ls[i]?).getD [], Hc a ≠ none ∧ noT Tb a := fun i a h => by
    obtain ⟨h1, h2⟩ := ha.pinA h
    exact ⟨by rw [e0 a h1 h2]; exact h1, h2⟩
  have ll := ha.len
  refine ⟨fun e => ?_, fun t1 v1 x1 => ?_⟩
  · exact ⟨base, k.tab, tab0, k.sub, k.mt, Same.refl M, fun _ _ e => .inl e, ⟨by simp [ll.1], by simp [ll.1], sl⟩, by rw [fl]; exact List.nodup_nil, (fun a h => by rw [fl] at h; exact nomatch h), pk⟩
  · refine ⟨base, k.tab, tab0, k.sub, k.mt, Same.refl M, fun _ _ e => .inl e, ⟨by simp [ll.1], by simp [ll.1], fun i s o fp h1 h2 h3 => ?_⟩, by rw [List.flatten_cons, fl, List.append_nil]; exact nd, fun a h => ?_, fun i a h => ?_⟩
    · cases i with
      | zero =>
        cases h1; cases h2; cases h3
        exact ⟨rfl, x1⟩
      | succ i => exact sl i s o fp (by simpa using h1) (by simpa using h2) (by simpa using h3)
    · rw [List.flatten_cons, fl, List.append_nil] at h
      exact ⟨by rw [hc, if_pos h], (hm a h).2.1, (hm a h).2.2⟩
    · cases i with
      | zero => exact nomatch (show a ∈ ([] : List Addr) from h)
      | succ i => exact pk i a (by simpa using h)
/-- a call with read arguments -/
theorem call_core0 {f : Env → Option (Tr × Env)} {r : Tr} {envf : Env} {Q : VK} {E : XK} (k : Ok K CA Tb H0 M0 pin env fps σ H M) {ads : List Ad} {vs : List V} {ls : List (List Addr)} (ha : AdsOk K CA Tb H0 M ads vs ls) (hf : f (ads.map Ad.sv) = some (r, envf))
    (q : ∀ v H' M' fr, Ok K CA Tb H0 M0 pin env fps σ H' M' → Same M M' → TrOk K CA M' H' r v fr → Fresh H0 M' fps fr → Q v H') : PX K CA Tb f vs H Q E := by
  have c := (callee k ha (Hc := H) (p1 := []) (fun a => by simp) (fun _ h => nomatch h) (fun _ h => nomatch h) List.nodup_nil).1 rfl
  refine ⟨H, _, M, _, envf, r, _, hf, fun i v h => by show (vs[i]?).getD .non = v; rw [h]; rfl, c, fun v H' M' fps' fr k' tv hfr => ?_⟩
  have ch : Chg Tb H M [] H' M' := ⟨fun a o e _ z => k'.base a o e z, k'.tab, k'.grow, k'.sub, fun a o e => (k'.new a o e).imp id .inl, k'.mt⟩
  refine q v H' M' fr (k.ext ch) k'.grow tv ⟨hfr.1, fun a h => ?_⟩
  obtain ⟨h1, h2, _⟩ := hfr.2 a h
  exact ⟨(k.new_none h1).1, h2, (k.new_none h1).2.2⟩
/-- a call with a thing of one's own ahead, which may change -/
theorem call_core1 {f : Env → Option (Tr × Env)} {r tr t1 t1' : Tr} {envr : Env} {i : Nat} {s : Sv} {ps : Path} {v0 v1 : V} {Q : VK} {E : XK} (k : Ok K CA Tb H0 M0 pin env fps σ H M) {ads : List Ad} {vs : List V} {ls : List (List Addr)} (ha : AdsOk K CA Tb H0 M ads vs ls) (hs : env[i]? = some s) (ht : s.mut? = some tr) (hp : tr.sub ps = some t1) (hv0 : σ[i]? = some (some v0)) (hv1 : ValAt CA H v0 ps v1)
    (hf : f (.arg t1 :: ads.map Ad.sv) = some (r, .arg t1' :: envr)) (q : ∀ v H' M' fps' fr, Ok K CA Tb H0 M0 pin (env.set i (s.put (tr.put ps t1'))) fps' σ H' M' → Same M M' → TrOk K CA M' H' r v fr → Fresh H0 M' fps' fr → Q v H') : PX K CA Tb f (v1 :: vs) H Q E := by
  obtain ⟨v0', v1', p1, fp, g1, g2, g3, g4, g5, g6, back⟩ := k.mut hs ht hp
  rw [hv0] at g1
  cases g1
  rw [g2.uniq hv1] at g3 back
  have own := fun a (h : a ∈ p1) => k.own a (mem_flat g4 (g5 a h))
  have nt : ∀ a ∈ p1, noT Tb a := fun a h x hx e => k.tab0 x hx (by rw [e]; exact (own a h).1)
  have c := (callee k ha (Hc := fun a => if a ∈ p1 then none else H a) (p1 := p1) (fun a => rfl) nt own g6).2 t1 v1 g3
  refine ⟨_, _, M, _, _, r, _, hf, fun i v h => by show ((v1 :: vs)[i]?).getD .non = v; rw [h]; rfl, c, fun v H' M' fps' fr k' tv hfr => ?_⟩
  obtain ⟨o, p1', m1, m2, m3, m4⟩ := k'.sls.get (i := 0) (s := .arg t1') rfl
  have m4 : TrOk K CA M' H' t1' v1 p1' := m4
  have non : ∀ a, (if a ∈ p1 then none else H a) = none → a ∈ p1 ∨ H a = none := fun a e => by
    split at e
    · rename_i z; exact .inl z
    · exact .inr e
  have ch : Chg Tb H M p1 H' M' := ⟨fun a o e n z => k'.base a o (by show (if a ∈ p1 then none else H a) = _; rw [if_neg n]; exact e) z, k'.tab, k'.grow, k'.sub, fun a o e => (k'.new a o e).imp id fun z => (non a z).symm, k'.mt⟩
  obtain ⟨fp', n1, n2⟩ := back M' H' t1' p1' ch m4 (nd_slot k'.nd m2) (fun a h => by
    obtain ⟨h1, h2, h3⟩ := k'.own a (mem_flat m2 h)
    exact ⟨non a h1, h2, h3⟩)
  refine q v H' M' _ fr n1 k'.grow tv ⟨hfr.1, fun a h => ?_⟩
  obtain ⟨h1, h2, h3⟩ := hfr.2 a h
  have h1 := non a h1
  have h0 : H0 a = none := by
    rcases h1 with z | z
    · exact (own a z).1
    · exact (k.new_none z).1
  refine ⟨h0, h2, fun z => ?_⟩
  rcases flat_memG z with z | z
  · rcases n2 a z with ⟨y1, y2⟩ | y
    · rcases h1 with w | w
      · exact y2 w
      · exact (k.own a (mem_flat g4 y1)).2.2 w
    · exact h3 (mem_flat m2 y)
  · rcases h1 with w | w
    · exact flat_other k.nd g4 (g5 a w) z rfl
    · exact (k.own a (flat_set z)).2.2 w
end
section
variable {K : PySem.W.Frag} {CA : Str → Addr} {Tb : List Tbl2}
def xCall (f : Env → Option (Tr × Env)) (g : XG) : XN := x1 g fun ads => (f (ads.map Ad.sv)).map (·.1)
theorem sim_call {f : Env → Option (Tr × Env)} {E : XK} {ta : TA} {g : XG} (hg : SimG K CA Tb ta g) : SimN K CA Tb (tCall (PX K CA Tb f) [] E ta) (xCall f g) := fun env d env' e H0 M0 pin fps σ H M Q k q => by
  obtain ⟨ads, h1, h2⟩ := x1_some e
  obtain ⟨⟨r, envf⟩, h3, rfl⟩ := Option.map_eq_some_iff.mp h2
  refine hg _ _ _ h1 H0 M0 pin fps σ H M _ k fun vs H1 M1 f1 ls k1 s1 a1 => ?_
  rw [List.append_nil]
  exact call_core0 k1 a1 h3 fun v H' M' fr k' s' tv hf => q v H' M' f1 fr k' (s1.trans s') tv hf
/-- with a thing of one's own at the place i first -/
def afterM (i : Nat) (ps : Path) (f : Env → Option (Tr × Env)) (ads : List Ad) (e : Env) : Option (Tr × Env) := match e[i]? with
  | some s => match s.mut? with
    | some tr => match tr.sub ps with
      | some t1 => match f (.arg t1 :: ads.map Ad.sv) with
        | some (r, .arg t1' :: _) => some (r, e.set i (s.put (tr.put ps t1')))
        | _ => none
      | none => none
    | none => none
  | none => none
theorem afterM_some {i : Nat} {ps : Path} {f : Env → Option (Tr × Env)} {ads : List Ad} {e e' : Env} {r : Tr} (h : afterM i ps f ads e = some (r, e')) : ∃ s tr t1 t1' envr, e[i]? = some s ∧ s.mut? = some tr ∧ tr.sub ps = some t1 ∧ f (.arg t1 :: ads.map Ad.sv) = some (r, .arg t1' :: envr) ∧ e' = e.set i (s.put (tr.put ps t1')) := by
  unfold afterM at h
  split at h
  · rename_i s h1
    split at h
    · rename_i tr h2
      split at h
      · rename_i t1 h3
        split at h
        · rename_i r' t1' envr h4
          cases h
          exact ⟨s, tr, t1, t1', envr, h1, h2, h3, h4, rfl⟩
        · cases h
      · cases h
    · cases h
  · cases h
def xCall1 (i : Nat) (f : Env → Option (Tr × Env)) (g : XG) : XN := fun env => match (env[i]?).bind Sv.mut? with
  | some _ => match g env with
    | some (ads, e1) => afterM i [] f ads e1
    | none => none
  | none => none
theorem Ok.val {H0 M0 H M : Hp} {pin : Nat → V × List Addr} {env : Env} {fps : List (List Addr)} {σ : L2.St} (k : Ok K CA Tb H0 M0 pin env fps σ H M) {i : Nat} {s : Sv} {tr : Tr} (hs : env[i]? = some s) (ht : s.mut? = some tr) : ∃ v0, σ[i]? = some (some v0) := by
  obtain ⟨v0, _, _, _, g, _⟩ := k.mut hs ht (ps := []) (t1 := tr) (by cases tr <;> rfl)
  exact ⟨v0, g⟩
theorem sim_call1 {i : Nat} {f : Env → Option (Tr × Env)} {E : XK} {ta : TA} {g : XG} (hg : SimG K CA Tb ta g) : SimN K CA Tb (tCall (PX K CA Tb f) [] E (tCons (tVar i) ta)) (xCall1 i f g) := fun env d env' e H0 M0 pin fps σ H M Q k q => by
  unfold xCall1 at e
  split at e
  · rename_i tr0 h0
    obtain ⟨s0, h01, h02⟩ := Option.bind_eq_some_iff.mp h0
    obtain ⟨v0, hv0⟩ := k.val h01 h02
    split at e
    · rename_i ads e1 h1
      obtain ⟨s, tr, t1, t1', envr, g1, g2, g3, g4, rfl⟩ := afterM_some e
      refine ⟨v0, hv0, hg _ _ _ h1 H0 M0 pin fps σ H M _ k fun vs H1 M1 f1 ls k1 s1 a1 => ?_⟩
      show PX K CA Tb f ((v0 :: vs) ++ []) H1 Q E
      rw [List.append_nil]
      exact call_core1 k1 a1 g1 g2 g3 hv0 (show ValAt CA H1 v0 [] v0 from rfl) g4 fun v H' M' f' fr k' s' tv hf => q v H' M' f' fr k' (s1.trans s') tv hf
    · cases e
  · cases e
theorem FsOk.none {M H : Hp} {f : Str} : ∀ {fs : List (Str × Tr)} {fvs : List (Str × V)} {fp : List Addr}, FsOk K CA M H fs fvs fp → fs.lookup f = none → fvs.lookup f = none
  | _, _, _, .nil, _ => rfl
  | _, _, _, .cons (f := g) a b, h => by
    rw [List.lookup_cons] at h ⊢
    cases c : f == g with
    | true => rw [c] at h; cases h
    | false => rw [c] at h; exact FsOk.none b h
/-- a method of a lent object -/
def xMethL (c m : Str) (i : Nat) (ps : Path) (f : Env → Option (Tr × Env)) (g : XG) : XN := fun env => match env[i]? with
  | some (.lent tr) => match tr.sub ps with
    | some (.obj c' fs) => if c' = c ∧ (fs.lookup m).isNone = true then x1 g (fun ads => (f (.lent (.obj c fs) :: ads.map Ad.sv)).map (·.1)) env else none
    | _ => none
  | _ => none
theorem sim_methL {m c : Str} {i : Nat} {ps : Path} {f : Env → Option (Tr × Env)} {E : XK} {tr : TE} {ta : TA} {g : XG} (hp : SimP CA tr i ps) (hg : SimG K CA Tb ta g) : SimN K CA Tb (tMeth (CA c) m (PX K CA Tb f) [] E tr ta) (xMethL c m i ps f g) := fun env d env' e H0 M0 pin fps σ H M Q k q => by
  unfold xMethL at e
  split at e
  · rename_i tt h1
    split at e
    · rename_i c' fs h2
      split at e
      · rename_i h30
        obtain ⟨ec, h31⟩ := h30
        have h3 : fs.lookup m = none := Option.isNone_iff_eq_none.mp h31
        obtain ⟨ads, h4, h5⟩ := x1_some e
        obtain ⟨⟨r, envf⟩, h6, rfl⟩ := Option.map_eq_some_iff.mp h5
        obtain ⟨v0, v1, p1, g1, g2, g3, g4⟩ := k.lentAt h1 h2
        subst ec
        have g3' := g3
        cases g3 with
        | @obj _ a dx _ fvs fq a1 a2 =>
        have a0 := g4 _ List.mem_cons_self
        refine hp σ H _ v0 _ g1 g2 ⟨a, dx, fvs, rfl, k.base _ _ a1 a0.2, FsOk.none a2 h3, ?_⟩
        refine hg _ _ _ h4 H0 M0 pin fps σ H M _ k fun vs H1 M1 f1 ls k1 s1 b1 => ?_
        rw [List.append_nil]
        exact call_core0 k1 (ads := .l (.obj c' fs) :: ads) (.cons (.l (TrOk.mono s1 (fun _ _ => rfl) g3') g4) b1) h6 fun v H' M' fr k' s' tv hf => q v H' M' f1 fr k' (s1.trans s') tv hf
      · cases e
    · cases e
  · cases e
/-- a method of an object of one's own, which may change -/
def isObjNo (c m : Str) : Tr → Bool
  | .obj c' fs => decide (c' = c) && (fs.lookup m).isNone
  | _ => false
def xMethM (c m : Str) (i : Nat) (f : Env → Option (Tr × Env)) (g : XG) : XN := fun env => match (env[i]?).bind Sv.mut? with
  | some tr => if isObjNo c m tr = true then match g env with
    | some (ads, e1) => afterM i [] f ads e1
    | none => none else none
  | none => none
theorem isObjNo_some {c m : Str} {t : Tr} (h : isObjNo c m t = true) : ∃ fs, t = .obj c fs ∧ fs.lookup m = none := by
  cases t with
  | obj c' fs =>
    rw [isObjNo, Bool.and_eq_true] at h
    obtain rfl := of_decide_eq_true h.1
    exact ⟨fs, rfl, Option.isNone_iff_eq_none.mp h.2⟩
  | _ => cases h
theorem sim_methM {m c : Str} {i : Nat} {f : Env → Option (Tr × Env)} {E : XK} {ta : TA} {g : XG} (hg : SimG K CA Tb ta g) : SimN K CA Tb (tMeth (CA c) m (PX K CA Tb f) [] E (tVar i) ta) (xMethM c m i f g) := fun env d env' e H0 M0 pin fps σ H M Q k q => by
  unfold xMethM at e
  split at e
  · rename_i tt h1
    obtain ⟨s, h11, h12⟩ := Option.bind_eq_some_iff.mp h1
    split at e
    · rename_i h2
      obtain ⟨fs, rfl, h3⟩ := isObjNo_some h2
      split at e
      · rename_i ads e1 h4
        obtain ⟨v0, v1, p1, fp, g1, g2, g3, g4, g5, g6, _⟩ := k.mut h11 h12 (ps := []) rfl
        cases g3 with
        | @obj _ a dx _ fvs fq a1 a2 =>
        have g2' : v0 = .ref a := g2
        subst g2'
        refine ⟨_, g1, a, dx, fvs, rfl, a1, FsOk.none a2 h3, ?_⟩
        refine hg _ _ _ h4 _ _ _ _ _ _ _ _ k fun vs H1 M1 f1 ls k1 s1 b1 => ?_
        rw [List.append_nil]
        obtain ⟨s', tr', t1, t1', envr, o1, o2, o3, o4, rfl⟩ := afterM_some e
        exact call_core1 k1 b1 o1 o2 o3 g1 (show ValAt CA H1 (.ref a) [] (.ref a) from rfl) o4 fun v H' M' f' fr k' s' tv hf => q v H' M' f' fr k' (s1.trans s') tv hf
      · cases e
    · cases e
  · cases e
theorem xLend_mut {α : Type} {i : Nat} {x : Env → Option (α × Env)} {env env' : Env} {d : α} {s : Sv} {t : Tr} {c : Str} {fs : List (Str × Tr)} {ps : Path} (h : xLend i x env = some (d, env')) (h1 : env[i]? = some s) (h2 : s.mut? = some t) (h3 : t.sub ps = some (.obj c fs)) : ∃ e1, x (env.set i (.lent t)) = some (d, e1) ∧ env' = e1.set i s := by
  unfold xLend at h
  rw [h1] at h
  have nd : ∀ d, t ≠ .dat d := fun d z => by
    subst z
    cases ps with
    | nil => cases h3
    | cons p ps => simp [Tr.sub] at h3
  cases s with
  | un => cases h2
  | lent t => cases h2
  | arg t =>
    cases h2
    obtain ⟨⟨d1, e1⟩, g1, g2⟩ := Option.map_eq_some_iff.mp h
    cases g2
    exact ⟨e1, g1, rfl⟩
  | own t =>
    cases h2
    cases t with
    | dat d => exact absurd rfl (nd d)
    | _ =>
      obtain ⟨⟨d1, e1⟩, g1, g2⟩ := Option.map_eq_some_iff.mp h
      cases g2
      exact ⟨e1, g1, rfl⟩
/-- .. at a place within it; the arguments are data, reckoned while it is lent -/
def allD (ads : List Ad) : Bool := ads.all fun a => match a with | .d _ => true | .l _ => false
def xMethP (c m : Str) (i : Nat) (ps : Path) (f : Env → Option (Tr × Env)) (g : XG) : XN := fun env => match (env[i]?).bind Sv.mut? with
  | some tr => match tr.sub ps with
    | some t1 => if isObjNo c m t1 = true then match xLend i g env with
      | some (ads, e1) => if allD ads = true then afterM i ps f ads e1 else none
      | none => none else none
    | none => none
  | none => none
theorem adsD {H0 H0' M : Hp} {ads : List Ad} {vs : List V} {ls : List (List Addr)} (h : AdsOk K CA Tb H0 M ads vs ls) (a : allD ads = true) : AdsOk K CA Tb H0' M ads vs ls := by
  induction h with
  | nil => exact .nil
  | cons x _ ih =>
    simp only [allD, List.all_cons, Bool.and_eq_true] at a
    refine .cons ?_ (ih a.2)
    cases x with
    | d x => exact .d x
    | l x y => cases a.1
theorem sim_methP {m c : Str} {i : Nat} {ps : Path} {f : Env → Option (Tr × Env)} {E : XK} {tr : TE} {ta : TA} {g : XG} (hp : SimP CA tr i ps) (hg : SimG K CA Tb ta g) : SimN K CA Tb (tMeth (CA c) m (PX K CA Tb f) [] E tr ta) (xMethP c m i ps f g) := fun env d env' e H0 M0 pin fps σ H M Q k q => by
  unfold xMethP at e
  split at e
  · rename_i tt h1
    obtain ⟨s, h11, h12⟩ := Option.bind_eq_some_iff.mp h1
    split at e
    · rename_i t0 h2
      split at e
      · rename_i h3
        obtain ⟨fs, e0, h33⟩ := isObjNo_some h3
        subst e0
        split at e
        · rename_i ads e1 h4
          split at e
          · rename_i hd
            obtain ⟨v0, v1, p1, fp, g1, g2, g3, g4, g5, g6, _⟩ := k.mut h11 h12 h2
            cases g3 with
            | @obj _ a dx _ fvs fq a1 a2 =>
            refine hp σ H _ v0 _ g1 g2 ⟨a, dx, fvs, rfl, a1, FsOk.none a2 h33, ?_⟩
            have fin : ∀ {f1 H1 M1 vs ls}, Ok K CA Tb H0 M0 pin e1 f1 σ H1 M1 → Same M M1 → ValAt CA H1 v0 ps (.ref a) → AdsOk K CA Tb H0 M1 ads vs ls → PX K CA Tb f (.ref a :: vs) H1 Q E := fun {f1 H1 M1 vs ls} k1 s1 hv1 b1 => by
              obtain ⟨s', tr', t1, t1', envr, o1, o2, o3, o4, rfl⟩ := afterM_some e
              exact call_core1 k1 b1 o1 o2 o3 g1 hv1 o4 fun v H' M' f' fr k' s' tv hf => q v H' M' f' fr k' (s1.trans s') tv hf
            obtain ⟨e2, m3, rfl⟩ := xLend_mut h4 h11 h12 h2
            · obtain ⟨v, fp', n1, n2, n3, n4, _⟩ := k.lend (M' := M) (H' := H) h11 h12
              rw [g1] at n1; cases n1
              refine hg _ _ _ m3 _ _ _ _ _ _ _ _ n4 fun vs H1 M1 f1 ls k1 s1 b1 => ?_
              rw [List.append_nil]
              obtain ⟨v2, fp2, m1, m2, m3', m4, m5⟩ := k.lend (M' := M1) (H' := H1) h11 h12
              rw [g1] at m1; cases m1
              rw [n2] at m2; cases m2
              obtain ⟨k2, _, keep⟩ := k.unlend h12 n2 n3 m5 k1 g1
              exact fin k2 s1 (n3.keepAt keep ⟨_, h2⟩ g2) (adsD b1 hd)
          · cases e
        · cases e
      · cases e
    · cases e
  · cases e
/-- a new object -/
def xMake (c : Str) (f : Env → Option (Tr × Env)) (g : XG) : XN := x1 g fun ads => match f (.arg (.obj c []) :: ads.map Ad.sv) with
  | some (.dat .none, .arg t :: _) => some t
  | _ => none
theorem sim_make {c : Str} {f : Env → Option (Tr × Env)} {E : XK} {ta : TA} {g : XG} (hg : SimG K CA Tb ta g) : SimN K CA Tb (tMake (CA c) (PX K CA Tb f) [] E ta) (xMake c f g) := fun env d env' e H0 M0 pin fps σ H M Q k q => by
  obtain ⟨ads, h1, h2⟩ := x1_some e
  split at h2
  case h_2 => cases h2
  rename_i t1 envr h3
  cases h2
  refine hg _ _ _ h1 H0 M0 pin fps σ H M _ k fun vs H1 M1 f1 ls k1 s1 a1 => ?_
  intro x dx nx ndx nex
  rw [List.append_nil]
  have mx := none_of k1.sub nx
  have mdx := none_of k1.sub ndx
  have tx := tab_ne k1.tab nx
  have tdx := tab_ne k1.tab ndx
  have hup : ∀ a o, H1 a = some o → (upd (upd H1 dx (.own x)) x (.ins (CA c) dx [])) a = some o := fun a o e => by
    rw [upd_ne (fun z => by rw [z, nx] at e; cases e), upd_ne (fun z => by rw [z, ndx] at e; cases e)]; exact e
  have hdn : ∀ a, (upd (upd H1 dx (.own x)) x (.ins (CA c) dx [])) a = none → H1 a = none := fun a e => by
    cases e2 : H1 a with
    | none => rfl
    | some u => rw [hup a u e2] at e; cases e
  have k2 : Ok K CA Tb H0 M0 pin env' f1 σ (upd (upd H1 dx (.own x)) x (.ins (CA c) dx [])) M1 := k1.extE ⟨hup, Same.refl _, fun a u e => hup a u (k1.sub a u e), fun _ _ e => .inl e⟩
  have hx : TrOk K CA M1 (upd (upd H1 dx (.own x)) x (.ins (CA c) dx [])) (.obj c []) (.ref x) [x] := .obj (ps := []) upd_same .nil
  -- the call, seen from a state in which the new object stands in a slot behind all others
  have e0 := k1.new_none nx
  have c0 := (callee k2 a1 (Hc := fun a => if a ∈ [x] then none else (upd (upd H1 dx (.own x)) x (.ins (CA c) dx [])) a) (p1 := [x]) (fun a => rfl) (fun a h => by rw [List.mem_singleton.mp h]; exact tx)
    (fun a h => by rw [List.mem_singleton.mp h]; exact ⟨e0.1, mx, by rw [upd_same]; exact fun z => nomatch z⟩) (List.pairwise_singleton _ _)).2 _ _ hx
  refine ⟨_, _, M1, _, _, _, _, h3, fun i v h => by show ((V.ref x :: vs)[i]?).getD .non = v; rw [h]; rfl, c0, fun v H' M' fps' fr k' tv hfr => ?_⟩
  obtain ⟨o, p1', m1, m2, m3, m4⟩ := k'.sls.get (i := 0) (s := .arg d) rfl
  have m4 : TrOk K CA M' H' d (.ref x) p1' := m4
  have dv := tv.datI
  refine ⟨dq_non dv, ?_⟩
  have non : ∀ a, (if a ∈ [x] then none else (upd (upd H1 dx (.own x)) x (.ins (CA c) dx [])) a) = none → H1 a = none := fun a e => by
    split at e
    · rename_i z; rw [List.mem_singleton.mp z]; exact nx
    · exact hdn a e
  have ch : Chg Tb H1 M1 [] H' M' := ⟨fun a o e n z => k'.base a o (by
      show (if a ∈ [x] then none else _) = _
      rw [if_neg (fun z => by rw [List.mem_singleton.mp z, nx] at e; cases e)]; exact hup a o e) z, k'.tab, k'.grow, k'.sub, fun a o e => (k'.new a o e).imp id fun z => .inl (non a z), k'.mt⟩
  refine q (.ref x) H' M' f1 p1' (k1.ext ch) (s1.trans k'.grow) m4 ⟨nd_slot k'.nd m2, fun a h => ?_⟩
  obtain ⟨y1, y2, y3⟩ := k'.own a (mem_flat m2 h)
  have := k1.new_none (non a y1)
  exact ⟨this.1, y2, this.2.2⟩
end
end Q

/-! ### layer Q: statements -/
namespace Q
open PySem L2 Y
section
variable (K : PySem.W.Frag) (CA : Str → Addr) (Tb : List Tbl2)
abbrev XT := PyData → Env → Option Env
abbrev XTs := List PyData → Env → Option Env
def SimTG (g : TG) (x : XT) (is : List Nat) : Prop := ∀ (env : Env) (d : PyData) (env' : Env), x d env = some env' → ∀ (H0 M0 : Hp) (pin : Nat → V × List Addr) (fps : List (List Addr)) (σ : L2.St) (H M : Hp) (v : V) (Q : L2.St → Hp → Prop), Ok K CA Tb H0 M0 pin env fps σ H M → Dq K M v d →
  (∀ σ' fps', Ok K CA Tb H0 M0 pin env' fps' σ' H M → (∀ j, j ∉ is → σ'[j]? = σ[j]?) → σ'.length = σ.length → Q σ' H) → g v σ H Q
def SimTGs (g : TGs) (x : XTs) (is : List Nat) : Prop := ∀ (env : Env) (d : List PyData) (env' : Env), x d env = some env' → ∀ (H0 M0 : Hp) (pin : Nat → V × List Addr) (fps : List (List Addr)) (σ : L2.St) (H M : Hp) (v : List V) (Q : L2.St → Hp → Prop), Ok K CA Tb H0 M0 pin env fps σ H M → DqAll K M v d →
  (∀ σ' fps', Ok K CA Tb H0 M0 pin env' fps' σ' H M → (∀ j, j ∉ is → σ'[j]? = σ[j]?) → σ'.length = σ.length → Q σ' H) → g v σ H Q
/-- a walk over data; what is lent stands still -/
def WkQ (J : It) (ys : List PyData) (H0 M0 : Hp) : Prop := ∃ (G : Hp → Prop) (Y : Nat → Hp → V → Hp → Prop), Walk J ys.length G Y ∧ (∀ H M, (∀ a o, H0 a = some o → noT Tb a → H a = some o) → Same M0 M → Same M H → G H) ∧
  ∀ i H M x H', i < ys.length → (∀ a o, H0 a = some o → noT Tb a → H a = some o) → Same M0 M → Same M H → Y i H x H' → ∃ M' d, Ext H M H' M' ∧ ys[i]? = some d ∧ Dq K M' x d
def SimW (wi : TI) (x : XA) : Prop := ∀ (env : Env) (d : List PyData) (env' : Env), x env = some (d, env') → ∀ (H0 M0 : Hp) (pin : Nat → V × List Addr) (fps : List (List Addr)) (σ : L2.St) (H M : Hp) (Q : It → Hp → Prop), Ok K CA Tb H0 M0 pin env fps σ H M →
  (∀ J H' M' fps', Ok K CA Tb H0 M0 pin env' fps' σ H' M' → Same M M' → WkQ K Tb J d H0 M' → Q J H') → wi σ H Q
end
section
variable {K : PySem.W.Frag} {CA : Str → Addr} {Tb : List Tbl2} {H0 M0 H M H' M' : Hp} {pin : Nat → V × List Addr} {env : Env} {fps : List (List Addr)} {σ : L2.St}
theorem Ok.re (k : Ok K CA Tb H0 M0 pin env fps σ H M) : Ok K CA Tb H0 M pin env fps σ H M := ⟨k.base, k.tab, k.tab0, k.sub, k.mt, Same.refl M, fun _ _ e => .inl e, k.sls, k.nd, k.own, k.pinOk⟩
theorem Ok.back {env' : Env} {fps' : List (List Addr)} {σ' : L2.St} (k : Ok K CA Tb H0 M0 pin env fps σ H M) (k1 : Ok K CA Tb H0 M pin env' fps' σ' H' M') : Ok K CA Tb H0 M0 pin env' fps' σ' H' M' :=
  ⟨k1.base, k1.tab, k1.tab0, k1.sub, k1.mt, k.grow.trans k1.grow, fun a o e => (k1.new a o e).elim (k.new a o) .inr, k1.sls, k1.nd, k1.own, k1.pinOk⟩
/-! blocks -/
def xNext : XS := fun env => some (.nx env)
def xSeq (a b : XS) : XS := fun env => match a env with
  | some (.nx e) => b e
  | o => o
theorem sim_next : SimS K CA Tb tNext xNext := fun env o e H0 M0 pin fps σ H M D k q => by cases e; exact q fps σ H M k
theorem sim_seq {t u : TS} {a b : XS} (ha : SimS K CA Tb t a) (hb : SimS K CA Tb u b) : SimS K CA Tb (tSeq t u) (xSeq a b) := fun env o e H0 M0 pin fps σ H M D k q => by
  unfold xSeq at e
  split at e
  · rename_i e1 h1
    exact ha _ _ h1 H0 M0 pin fps σ H M { D with nx := u D } k fun f' σ' H' M' k' => hb _ _ e H0 M0 pin f' σ' H' M' D k' q
  · rename_i hn
    refine ha _ _ e H0 M0 pin fps σ H M { D with nx := u D } k ?_
    cases o with
    | nx e2 => exact absurd e (hn e2)
    | _ => exact q
def xBrk : XS := fun env => some (.brk env)
def xCont : XS := fun env => some (.cont env)
theorem sim_brk : SimS K CA Tb tBreak xBrk := fun env o e H0 M0 pin fps σ H M D k q => by cases e; exact q fps σ H M k
theorem sim_cont : SimS K CA Tb tCont xCont := fun env o e H0 M0 pin fps σ H M D k q => by cases e; exact q fps σ H M k
theorem sim_ifS {c : TT} {t u : TS} {xc : XB} {a b : XS} (hc : SimT K CA Tb c xc) (ha : SimS K CA Tb t a) (hb : SimS K CA Tb u b) : SimS K CA Tb (tIfS c t u) (xIte xc a b) := fun env o e H0 M0 pin fps σ H M D k q => by
  rcases xIte_some e with ⟨e1, h1, h2⟩ | ⟨e1, h1, h2⟩
  · refine hc _ _ _ h1 H0 M0 pin fps σ H M _ k fun H1 M1 f1 k1 s1 => ?_
    rw [if_pos rfl]
    exact ha _ _ h2 H0 M0 pin f1 σ H1 M1 D k1 q
  · refine hc _ _ _ h1 H0 M0 pin fps σ H M _ k fun H1 M1 f1 k1 s1 => ?_
    rw [if_neg Bool.false_ne_true]
    exact hb _ _ h2 H0 M0 pin f1 σ H1 M1 D k1 q
/-! targets -/
def gSet (i : Nat) : XT := fun d env => match env[i]? with
  | some _ => some (env.set i (.own (.dat d)))
  | none => none
theorem sim_gName {i : Nat} : SimTG K CA Tb (gName i) (gSet i) [i] := fun env d env' e H0 M0 pin fps σ H M v Q k hv q => by
  unfold gSet at e
  split at e
  · rename_i s h
    cases e
    have hi : i < env.length := (List.getElem?_eq_some_iff.mp h).1
    exact q _ _ (k.setD hi hv) (fun j hj => List.getElem?_set_ne (fun e => hj (by rw [e]; exact List.mem_singleton.mpr rfl))) List.length_set
  · cases e
def gNilX : XTs := fun ds env => match ds with
  | [] => some env
  | _ => none
def gConsX (a : XT) (b : XTs) : XTs := fun ds env => match ds with
  | d :: ds => match a d env with
    | some e => b ds e
    | none => none
  | [] => none
theorem sim_gNilX : SimTGs K CA Tb L2.gNil gNilX [] := fun env d env' e H0 M0 pin fps σ H M v Q k hv q => by
  unfold gNilX at e
  split at e
  · cases e; exact ⟨dqA_nil hv, q σ fps k (fun _ _ => rfl) rfl⟩
  · cases e
theorem sim_gConsX {g : TG} {gs : TGs} {a : XT} {b : XTs} {is1 is2 : List Nat} (h1 : SimTG K CA Tb g a is1) (h2 : SimTGs K CA Tb gs b is2) : SimTGs K CA Tb (L2.gCons g gs) (gConsX a b) (is1 ++ is2) := fun env d env' e H0 M0 pin fps σ H M v Q k hv q => by
  unfold gConsX at e
  split at e
  · rename_i d1 ds
    split at e
    · rename_i e1 g1
      cases hv with | cons x y =>
      refine ⟨_, _, rfl, h1 _ _ _ g1 H0 M0 pin fps σ H M _ _ k x fun σ1 f1 k1 z1 l1 => h2 _ _ _ e H0 M0 pin f1 σ1 H M _ _ k1 y fun σ2 f2 k2 z2 l2 => q σ2 f2 k2 (fun j hj => ?_) (l2.trans l1)⟩
      rw [List.mem_append, not_or] at hj
      exact (z2 j hj.2).trans (z1 j hj.1)
    · cases e
  · cases e
def gTupX (n : Nat) (b : XTs) : XT := fun d env => match d with
  | .tuple ds => if ds.length = n then b ds env else none
  | _ => none
theorem sim_gTup {n : Nat} {gs : TGs} {b : XTs} {is : List Nat} (h : SimTGs K CA Tb gs b is) : SimTG K CA Tb (gTup K n gs) (gTupX n b) is := fun env d env' e H0 M0 pin fps σ H M v Q k hv q => by
  unfold gTupX at e
  split at e
  · split at e
    · rename_i ds hl
      obtain ⟨a, xs, rfl, h1, h2⟩ := dq_tupI hv
      exact ⟨a, xs, rfl, Same.sqT k.sub h1, by rw [DqAll.len h2]; exact hl, h _ _ _ e H0 M0 pin fps σ H M _ _ k h2 q⟩
    · cases e
  · cases e
/-! assignments -/
def xAsg (a : XD) (g : XT) : XS := fun env => match a env with
  | some (d, e) => (g d e).map .nx
  | none => none
theorem sim_asg {te : TE} {g : TG} {a : XD} {x : XT} {is : List Nat} (ha : SimD K CA Tb te a) (hg : SimTG K CA Tb g x is) : SimS K CA Tb (tAsg te g) (xAsg a x) := fun env o e H0 M0 pin fps σ H M D k q => by
  unfold xAsg at e
  split at e
  · rename_i d e1 h1
    obtain ⟨e2, h2, rfl⟩ := Option.map_eq_some_iff.mp e
    exact ha _ _ _ h1 H0 M0 pin fps σ H M _ k fun v H1 M1 f1 k1 s1 dv => hg _ _ _ h2 H0 M0 pin f1 σ H1 M1 v _ k1 dv fun σ' f' k' _ _ => q f' σ' H1 M1 k'
  · cases e
def xSet (i : Nat) (a : XD) : XS := xAsg a (gSet i)
def xSetN (i : Nat) (a : XN) : XS := fun env => match a env with
  | some (t, e) => match e[i]? with
    | some _ => some (.nx (e.set i (.own t)))
    | none => none
  | none => none
theorem sim_set {i : Nat} {te : TE} {a : XD} (ha : SimD K CA Tb te a) : SimS K CA Tb (tAsg te (gName i)) (xSet i a) := sim_asg ha sim_gName
theorem sim_setN {i : Nat} {te : TE} {a : XN} (ha : SimN K CA Tb te a) : SimS K CA Tb (tAsg te (gName i)) (xSetN i a) := fun env o e H0 M0 pin fps σ H M D k q => by
  unfold xSetN at e
  split at e
  · rename_i t e1 h1
    split at e
    · rename_i s h2
      cases e
      have hi : i < e1.length := (List.getElem?_eq_some_iff.mp h2).1
      exact ha _ _ _ h1 H0 M0 pin fps σ H M _ k fun v H1 M1 f1 fr k1 s1 tv hf => q _ _ H1 M1 (k1.setN hi tv hf.1 hf.2)
    · cases e
  · cases e
def xDrop (a : XN) : XS := fun env => (a env).map fun p => .nx p.2
theorem sim_drop {te : TE} {a : XN} (ha : SimN K CA Tb te a) : SimS K CA Tb (tDrop te) (xDrop a) := fun env o e H0 M0 pin fps σ H M D k q => by
  obtain ⟨⟨t, e1⟩, h1, rfl⟩ := Option.map_eq_some_iff.mp e
  exact ha _ _ _ h1 H0 M0 pin fps σ H M _ k fun v H1 M1 f1 fr k1 s1 tv hf => q f1 σ H1 M1 k1
def xRet (a : XD) : XS := fun env => (a env).map fun p => .ret (.dat p.1) p.2
def xRetN (a : XN) : XS := fun env => (a env).map fun p => .ret p.1 p.2
theorem sim_ret {te : TE} {a : XD} (ha : SimD K CA Tb te a) : SimS K CA Tb (tRet te) (xRet a) := fun env o e H0 M0 pin fps σ H M D k q => by
  obtain ⟨⟨t, e1⟩, h1, rfl⟩ := Option.map_eq_some_iff.mp e
  exact ha _ _ _ h1 H0 M0 pin fps σ H M _ k fun v H1 M1 f1 k1 s1 dv => q f1 σ H1 M1 v [] k1 (.dat dv) ⟨List.nodup_nil, fun a ha => nomatch ha⟩
theorem sim_retN {te : TE} {a : XN} (ha : SimN K CA Tb te a) : SimS K CA Tb (tRet te) (xRetN a) := fun env o e H0 M0 pin fps σ H M D k q => by
  obtain ⟨⟨t, e1⟩, h1, rfl⟩ := Option.map_eq_some_iff.mp e
  exact ha _ _ _ h1 H0 M0 pin fps σ H M _ k fun v H1 M1 f1 fr k1 s1 tv hf => q f1 σ H1 M1 v fr k1 tv hf
def xRet0 : XS := fun env => some (.ret (.dat .none) env)
theorem sim_ret0 : SimS K CA Tb tRetN xRet0 := fun env o e H0 M0 pin fps σ H M D k q => by cases e; exact q fps σ H M .non [] k (.dat .non) ⟨List.nodup_nil, fun a ha => nomatch ha⟩
/-- a thing of one's own is taken out of its slot: returned, or handed on -/
def xMove (i : Nat) : XN := fun env => match env[i]? with
  | some (.own t) => some (t, env.set i .un)
  | _ => none
theorem sim_move {i : Nat} : SimN K CA Tb (tVar i) (xMove i) := fun env d env' e H0 M0 pin fps σ H M Q k q => by
  unfold xMove at e
  split at e
  · rename_i t h
    cases e
    obtain ⟨o, fp, e1, e2, v, rfl, x⟩ := k.sls.get h
    have hi : i < env.length := (List.getElem?_eq_some_iff.mp h).1
    refine ⟨v, e1, ?_⟩
    have k2 := k.setU (i := i) (o := some v) hi
    rw [show σ.set i (some v) = σ from by
      have h2 := List.getElem?_eq_some_iff.mp e1
      rw [← h2.2]; exact List.set_getElem_self _] at k2
    exact q v H M _ fp k2 (Same.refl M) x ⟨nd_slot k.nd e2, fun a ha => ⟨(k.own a (mem_flat e2 ha)).1, (k.own a (mem_flat e2 ha)).2.1, fun z => flat_other k.nd e2 ha z rfl⟩⟩
  · cases e
def xAug (i : Nat) (a : XD) (f : PyData → PyData → Option PyData) : XS := fun env => match (env[i]?).bind Sv.dat? with
  | some d => match a env with
    | some (e, e1) => (f d e).bind fun c => (gSet i c e1).map .nx
    | none => none
  | none => none
theorem sim_aug {i : Nat} {te : TE} {ti : TIp} {a : XD} {f : PyData → PyData → Option PyData} (ha : SimR K CA Tb te a) (hf : SimO K ti f) : SimS K CA Tb (tAug i te ti) (xAug i a f) := fun env o e H0 M0 pin fps σ H M D k q => by
  unfold xAug at e
  split at e
  · rename_i d h0
    split at e
    · rename_i d2 e1 h1
      obtain ⟨c, h2, h3⟩ := Option.bind_eq_some_iff.mp e
      obtain ⟨e2, h4, rfl⟩ := Option.map_eq_some_iff.mp h3
      have hx : xVar i env = some (d, env) := by
        obtain ⟨s, g1, g2⟩ := Option.bind_eq_some_iff.mp h0
        unfold xVar; rw [g1]; dsimp only; rw [g2]; rfl
      obtain ⟨v, g1, g2⟩ : ∃ v, σ[i]? = some (some v) ∧ Dq K M v d := by
        refine Classical.byContradiction fun z => ?_
        obtain ⟨v, g1, g2⟩ := sim_var (K := K) (CA := CA) (Tb := Tb) env d env hx H0 M0 pin fps σ H M (fun v H' => ∃ M', Dq K M' v d ∧ (Dq K M v d → True)) k (fun v H' M' fps' _ _ dv => ⟨M', dv, fun _ => trivial⟩)
        obtain ⟨s, y1, y2⟩ := Option.bind_eq_some_iff.mp h0
        obtain ⟨o, fp, y3, y4, y5⟩ := k.sls.get y1
        cases s with
        | un => cases y2
        | own t => cases t with
          | dat d2 => cases y2; obtain ⟨w, rfl, y5⟩ := y5; exact z ⟨w, y3, y5.datI⟩
          | _ => cases y2
        | arg t => cases t with
          | dat d2 => cases y2; obtain ⟨rfl, y5⟩ := y5; exact z ⟨_, y3, y5.datI⟩
          | _ => cases y2
        | lent t => cases t with
          | dat d2 => cases y2; obtain ⟨_, rfl, y5⟩ := y5; exact z ⟨_, y3, y5.datI⟩
          | _ => cases y2
      refine ⟨v, g1, ha _ _ _ h1 H0 M0 pin fps σ H M _ k fun y H1 M1 f1 k1 s1 r1 => hf _ _ _ h2 H1 M1 v y _ k1.sub (.dq (Dq.same s1 g2)) (r1.at k1) fun w H2 M2 x2 dw => ?_⟩
      exact sim_gName _ _ _ h4 H0 M0 pin f1 σ H2 M2 w _ (k1.extE x2) dw fun σ' f' k' _ _ => q f' σ' H2 M2 k'
    · cases e
  · cases e
/-! loops -/
def forGo (tg : XT) (body : XS) : List PyData → XS
  | [], e => some (.nx e)
  | d :: ds, e => match tg d e with
    | some e1 => match body e1 with
      | some (.nx e2) => forGo tg body ds e2
      | some (.cont e2) => forGo tg body ds e2
      | some (.brk e2) => some (.nx e2)
      | some (.ret t e2) => some (.ret t e2)
      | none => none
    | none => none
def xFor (src : XA) (tg : XT) (body : XS) : XS := fun env => match src env with
  | some (ds, e) => forGo tg body ds e
  | none => none
theorem sim_for {wi : TI} {g : TG} {tb : TS} {src : XA} {tg : XT} {body : XS} {is : List Nat} (hw : SimW K CA Tb wi src) (hg : SimTG K CA Tb g tg is) (hb : SimS K CA Tb tb body) : SimS K CA Tb (tFor wi g tb) (xFor src tg body) := fun env o e H0 M0 pin fps σ H M D k q => by
  unfold xFor at e
  split at e
  · rename_i ds e1 h1
    refine hw _ _ _ h1 H0 M0 pin fps σ H M _ k fun J H1 M1 f1 k1 s1 ⟨G, Y, w, hG, hY⟩ => ?_
    refine for_it w (fun i σ H => ∃ e f M2, forGo tg body (ds.drop i) e = some o ∧ Ok K CA Tb H0 M1 pin e f σ H M2) ⟨e1, f1, M1, e, k1.re⟩ ?_ ?_ ?_
    · rintro i σ H hi ⟨e, f, M2, _, k2⟩
      exact hG H M2 k2.base k2.grow k2.sub
    · rintro i x σ2 H2 H3 hi ⟨e2, f, M2, hI, k2⟩ y
      obtain ⟨M3, d, x3, hd', dv⟩ := hY i H2 M2 x H3 hi k2.base k2.grow k2.sub y
      rw [List.drop_eq_getElem_cons hi] at hI
      have ed : ds[i] = d := Option.some.inj ((List.getElem?_eq_getElem hi).symm.trans hd')
      rw [ed] at hI
      unfold forGo at hI
      split at hI
      · rename_i e3 h3
        refine hg _ _ _ h3 H0 M1 pin f σ2 H3 M3 x _ (k2.extE x3) dv fun σ4 f4 k4 _ _ => ?_
        split at hI
        · rename_i e4 h4
          exact hb _ _ h4 H0 M1 pin f4 σ4 H3 M3 _ k4 fun f5 σ5 H5 M5 k5 => ⟨e4, f5, M5, hI, k5⟩
        · rename_i e4 h4
          exact hb _ _ h4 H0 M1 pin f4 σ4 H3 M3 _ k4 fun f5 σ5 H5 M5 k5 => ⟨e4, f5, M5, hI, k5⟩
        · rename_i e4 h4
          cases hI
          exact hb _ _ h4 H0 M1 pin f4 σ4 H3 M3 _ k4 fun f5 σ5 H5 M5 k5 => q f5 σ5 H5 M5 (k1.back k5)
        · rename_i t e4 h4
          cases hI
          exact hb _ _ h4 H0 M1 pin f4 σ4 H3 M3 _ k4 fun f5 σ5 H5 M5 v fr k5 tv hf => q f5 σ5 H5 M5 v fr (k1.back k5) tv hf
        · cases hI
      · cases hI
    · rintro σ2 H2 ⟨e2, f, M2, hI, k2⟩
      rw [List.drop_length] at hI
      cases hI
      exact q f σ2 H2 M2 (k1.back k2)
  · cases e
def whileGo (c : XB) (body : XS) : Nat → XS
  | 0, _ => none
  | n + 1, e => match c e with
    | some (false, e1) => some (.nx e1)
    | some (true, e1) => match body e1 with
      | some (.nx e2) => whileGo c body n e2
      | some (.cont e2) => whileGo c body n e2
      | some (.brk e2) => some (.nx e2)
      | some (.ret t e2) => some (.ret t e2)
      | none => none
    | none => none
theorem whileGo_up {c : XB} {body : XS} {o : Out} : ∀ (n m : Nat) (e : Env), n ≤ m → whileGo c body n e = some o → whileGo c body m e = some o
  | 0, _, _, _, h => by cases h
  | n + 1, 0, _, hm, _ => by omega
  | n + 1, m + 1, e, hm, h => by
    unfold whileGo at h ⊢
    split at h
    · exact h
    · split at h
      · exact whileGo_up n m _ (by omega) h
      · exact whileGo_up n m _ (by omega) h
      · exact h
      · exact h
      · cases h
    · cases h
open Classical in
noncomputable def xWhile (c : XB) (body : XS) : XS := fun env => if h : ∃ o n, whileGo c body n env = some o then some h.choose else none
theorem xWhile_of {c : XB} {body : XS} {n : Nat} {env : Env} {o : Out} (h : whileGo c body n env = some o) : xWhile c body env = some o := by
  have hx : ∃ o n, whileGo c body n env = some o := ⟨o, n, h⟩
  unfold xWhile
  rw [dif_pos hx]
  obtain ⟨m, hm⟩ := hx.choose_spec
  have a1 := whileGo_up n (max n m) env (Nat.le_max_left _ _) h
  have a2 := whileGo_up m (max n m) env (Nat.le_max_right _ _) hm
  rw [a1] at a2
  rw [← Option.some.inj a2]
theorem xWhile_some {c : XB} {body : XS} {env : Env} {o : Out} (h : xWhile c body env = some o) : ∃ n, whileGo c body n env = some o := by
  unfold xWhile at h
  split at h
  · rename_i hx
    obtain ⟨m, hm⟩ := hx.choose_spec
    exact ⟨m, by rw [hm]; exact h⟩
  · cases h
theorem sim_while {c : TT} {tb : TS} {xc : XB} {body : XS} (hc : SimT K CA Tb c xc) (hb : SimS K CA Tb tb body) : SimS K CA Tb (tWhile c tb) (xWhile xc body) := fun env o e H0 M0 pin fps σ H M D k q => by
  obtain ⟨n0, h0⟩ := xWhile_some e
  refine ⟨fun m σ H => ∃ e f M1, whileGo xc body m e = some o ∧ Ok K CA Tb H0 M0 pin e f σ H M1, ⟨n0, env, fps, M, h0, k⟩, ?_⟩
  rintro m σ H ⟨e, f, M1, hI, k1⟩
  cases m with
  | zero => cases hI
  | succ m =>
    unfold whileGo at hI
    split at hI
    · rename_i e1 h1
      cases hI
      refine hc _ _ _ h1 H0 M0 pin f σ H M1 _ k1 fun H2 M2 f2 k2 s2 => ?_
      rw [if_neg Bool.false_ne_true]
      exact q f2 σ H2 M2 k2
    · rename_i e1 h1
      refine hc _ _ _ h1 H0 M0 pin f σ H M1 _ k1 fun H2 M2 f2 k2 s2 => ?_
      rw [if_pos rfl]
      refine ⟨fun σ H => ∃ m', m' < m + 1 ∧ ∃ e f M1, whileGo xc body m' e = some o ∧ Ok K CA Tb H0 M0 pin e f σ H M1, fun _ _ h => h, ?_⟩
      split at hI
      · rename_i e2 h2
        exact hb _ _ h2 H0 M0 pin f2 σ H2 M2 _ k2 fun f5 σ5 H5 M5 k5 => ⟨m, Nat.lt_succ_self m, e2, f5, M5, hI, k5⟩
      · rename_i e2 h2
        exact hb _ _ h2 H0 M0 pin f2 σ H2 M2 _ k2 fun f5 σ5 H5 M5 k5 => ⟨m, Nat.lt_succ_self m, e2, f5, M5, hI, k5⟩
      · rename_i e2 h2
        cases hI
        exact hb _ _ h2 H0 M0 pin f2 σ H2 M2 _ k2 fun f5 σ5 H5 M5 k5 => q f5 σ5 H5 M5 k5
      · rename_i t e2 h2
        cases hI
        exact hb _ _ h2 H0 M0 pin f2 σ H2 M2 _ k2 fun f5 σ5 H5 M5 v fr k5 tv hf => q f5 σ5 H5 M5 v fr k5 tv hf
      · cases hI
    · cases hI
/-! lists of one's own change -/
/-- the list at a place -/
def plMut (i : Nat) (ps : Path) (env : Env) : Option (Sv × Tr × Tr) := match env[i]? with
  | some s => match s.mut? with
    | some tr => (tr.sub ps).map fun t => (s, tr, t)
    | none => none
  | none => none
theorem plMut_some {i : Nat} {ps : Path} {s : Sv} {tr t : Tr} (h : plMut i ps env = some (s, tr, t)) : env[i]? = some s ∧ s.mut? = some tr ∧ tr.sub ps = some t := by
  unfold plMut at h
  split at h
  · rename_i s1 h1
    split at h
    · rename_i tr1 h2
      obtain ⟨t1, h3, h4⟩ := Option.map_eq_some_iff.mp h
      cases h4
      exact ⟨h1, h2, h3⟩
    · cases h
  · cases h
theorem Chg.upd1 (k : Ok K CA Tb H0 M0 pin env fps σ H M) {p : Addr} {o o' : HO} (hp : H p = some o) (ho : OwnO o) (hm : M p = none) : Chg Tb H M [p] (upd H p o') M :=
  ⟨fun a u e n _ => by rw [upd_ne (fun z => n (List.mem_singleton.mpr z))]; exact e, TabsG.but (fp := [p]) k.tab (fun a ha => by rw [List.mem_singleton.mp ha]; exact ⟨o, hp, ho⟩) (fun a u e n => by rw [upd_ne (fun z => n (List.mem_singleton.mpr z))]; exact e), Same.refl M,
    fun a u e => by rw [upd_ne (fun z => by rw [z, hm] at e; cases e)]; exact k.sub a u e, fun _ _ e => .inl e, k.mt⟩
/-- an own list is written: what follows holds with the new list at its place -/
theorem Ok.put {i : Nat} {s : Sv} {tr : Tr} {ds es : List PyData} {ps : Path} {v0 v1 : V} (k : Ok K CA Tb H0 M0 pin env fps σ H M) (h : plMut i ps env = some (s, tr, .lst ds)) (hv : σ[i]? = some (some v0)) (hv1 : ValAt CA H v0 ps v1) :
    ∃ p vs, v1 = .ref p ∧ H p = some (.lst vs) ∧ DqAll K M vs ds ∧ ∀ ws, DqAll K M ws es → ∃ fp', Ok K CA Tb H0 M0 pin (env.set i (s.put (tr.put ps (.lst es)))) fp' σ (upd H p (.lst ws)) M := by
  obtain ⟨h1, h2, h3⟩ := plMut_some h
  obtain ⟨v0', v1', p1, fp, g1, g2, g3, g4, g5, g6, back⟩ := k.mut h1 h2 h3
  rw [hv] at g1; cases g1
  have := g2.uniq hv1
  subst this
  cases g3 with
  | @lst _ p vs a b =>
  have hm := k.own p (mem_flat g4 (g5 p (List.mem_singleton.mpr rfl)))
  refine ⟨p, vs, rfl, a, b, fun ws hw => ?_⟩
  obtain ⟨fp', n1, _⟩ := back M (upd H p (.lst ws)) (.lst es) [p] (Chg.upd1 k a trivial hm.2.1) (.lst upd_same hw) (List.pairwise_singleton _ _) (fun a ha => by
    rw [List.mem_singleton.mp ha]; exact ⟨.inl (List.mem_singleton.mpr rfl), hm.2.1, by rw [upd_same]; exact fun z => nomatch z⟩)
  exact ⟨_, n1⟩
/-- o.append(e): the argument is reckoned while o's owner is lent -/
def xApp (i : Nat) (ps : Path) (a : XD) : XS := fun env => match plMut i ps env with
  | some (_, _, .lst _) => match xLend i a env with
    | some (d, e1) => match plMut i ps e1 with
      | some (s, tr, .lst ds) => if shortB (ds.length + 1) = true then some (.nx (e1.set i (s.put (tr.put ps (.lst (ds ++ [d])))))) else none
      | _ => none
    | none => none
  | _ => none
theorem lend_keep {i : Nat} {t : TE} {a : XD} (ha : SimD K CA Tb t a) {d : PyData} {e1 : Env} (h1 : xLend i a env = some (d, e1)) {ps : Path} {s : Sv} {tr : Tr} {ds : List PyData} (h : plMut i ps env = some (s, tr, .lst ds)) (k : Ok K CA Tb H0 M0 pin env fps σ H M) {v0 v1 : V} (hv : σ[i]? = some (some v0)) (hv1 : ValAt CA H v0 ps v1) {Q : VK}
    (q : ∀ v H' M' fps', Ok K CA Tb H0 M0 pin e1 fps' σ H' M' → Same M M' → Dq K M' v d → ValAt CA H' v0 ps v1 → (∀ p, v1 = .ref p → H' p = H p) → Q v H') : t σ H Q := by
  obtain ⟨g1, g2, g3⟩ := plMut_some h
  have key : ∃ e2, a (env.set i (.lent tr)) = some (d, e2) ∧ e1 = e2.set i s := by
    have nd : ∀ d, tr ≠ .dat d := fun d z => by
      subst z
      cases ps with
      | nil => cases g3
      | cons p ps => simp [Tr.sub] at g3
    unfold xLend at h1
    rw [g1] at h1
    cases s with
    | un => cases g2
    | lent t => cases g2
    | arg t =>
      cases g2
      obtain ⟨⟨d1, e1⟩, n1, n2⟩ := Option.map_eq_some_iff.mp h1
      cases n2
      exact ⟨e1, n1, rfl⟩
    | own t =>
      cases g2
      cases tr with
      | dat d => exact absurd rfl (nd d)
      | _ =>
        obtain ⟨⟨d1, e1⟩, n1, n2⟩ := Option.map_eq_some_iff.mp h1
        cases n2
        exact ⟨e1, n1, rfl⟩
  obtain ⟨e2, m3, rfl⟩ := key
  obtain ⟨v, fp', n1, n2, n3, n4, _⟩ := k.lend (M' := M) (H' := H) g1 g2
  rw [hv] at n1; cases n1
  refine ha _ _ _ m3 _ _ _ _ _ _ _ _ n4 fun w H1 M1 f1 k1 s1 dw => ?_
  obtain ⟨v2, fp2, m1, m2, m3', m4, m5⟩ := k.lend (M' := M1) (H' := H1) g1 g2
  rw [hv] at m1; cases m1
  rw [n2] at m2; cases m2
  obtain ⟨k2, _, keep⟩ := k.unlend g2 n2 n3 m5 k1 hv
  refine q w H1 M1 _ k2 s1 dw (n3.keepAt keep ⟨_, g3⟩ hv1) fun p e => ?_
  obtain ⟨v1', p1, rest, y1, y2, y3, _⟩ := n3.at g3
  rw [y1.uniq hv1, e] at y2
  cases y2 with | lst a b => exact keep p (y3.mem_iff.mpr (List.mem_append_left _ (List.mem_singleton.mpr rfl)))
theorem sim_app {to te : TE} {i : Nat} {ps : Path} {a : XD} (hp : SimP CA to i ps) (ha : SimD K CA Tb te a) : SimS K CA Tb (tDrop (tBM K "list" rAppend to (tCons te tNil))) (xApp i ps a) := fun env o e H0 M0 pin fps σ H M D k q => by
  unfold xApp at e
  split at e
  · rename_i s0 tr0 ds0 h0
    split at e
    · rename_i d e1 h1
      split at e
      · rename_i s tr ds h2
        split at e
        · rename_i hl
          cases e
          obtain ⟨g1, g2, g3⟩ := plMut_some h0
          obtain ⟨v0, v1, p1, fp, n1, n2, n3, n4, n5, n6, _⟩ := k.mut g1 g2 g3
          refine hp σ H _ v0 v1 n1 n2 ⟨?_, ?_⟩
          · cases n3 with | lst a b => exact .inl ⟨rfl, _, SqL.of a⟩
          · refine lend_keep ha h1 h0 k n1 n2 fun w H1 M1 f1 k1 s1 dw hv1 _ => ?_
            obtain ⟨p, vs, rfl, a1, a2, a3⟩ := k1.put (es := ds ++ [d]) h2 n1 hv1
            obtain ⟨fp', k2⟩ := a3 (vs ++ [w]) (DqAll.app a2 (.cons dw .nil))
            refine ⟨p, vs, w, rfl, rfl, a1, ?_, q _ _ _ _ k2⟩
            have := of_decide_eq_true hl
            rw [DqAll.len a2]; omega
        · cases e
      · cases e
    · cases e
  · cases e
/-- o.extend(e) -/
def xExt (i : Nat) (ps : Path) (a : XD) : XS := fun env => match plMut i ps env with
  | some (_, _, .lst _) => match xLend i a env with
    | some (.list es, e1) => match plMut i ps e1 with
      | some (s, tr, .lst ds) => if shortB (ds.length + es.length) = true then some (.nx (e1.set i (s.put (tr.put ps (.lst (ds ++ es)))))) else none
      | _ => none
    | _ => none
  | _ => none
theorem sim_ext {to te : TE} {i : Nat} {ps : Path} {a : XD} (hp : SimP CA to i ps) (ha : SimD K CA Tb te a) : SimS K CA Tb (tDrop (tBM K "list" rExtend to (tCons te tNil))) (xExt i ps a) := fun env o e H0 M0 pin fps σ H M D k q => by
  unfold xExt at e
  split at e
  · rename_i s0 tr0 ds0 h0
    split at e
    · rename_i es e1 h1
      split at e
      · rename_i s tr ds h2
        split at e
        · rename_i hl
          cases e
          obtain ⟨g1, g2, g3⟩ := plMut_some h0
          obtain ⟨v0, v1, p1, fp, n1, n2, n3, n4, n5, n6, _⟩ := k.mut g1 g2 g3
          refine hp σ H _ v0 v1 n1 n2 ⟨?_, ?_⟩
          · cases n3 with | lst a b => exact .inl ⟨rfl, _, SqL.of a⟩
          · refine lend_keep ha h1 h0 k n1 n2 fun w H1 M1 f1 k1 s1 dw hv1 _ => ?_
            obtain ⟨p, vs, rfl, a1, a2, a3⟩ := k1.put (es := ds ++ es) h2 n1 hv1
            obtain ⟨b, zs, rfl, b1, b2⟩ := dq_lstI dw
            obtain ⟨fp', k2⟩ := a3 (vs ++ zs) (DqAll.app a2 b2)
            refine ⟨p, b, vs, zs, rfl, rfl, a1, k1.sub _ _ b1, ?_, q _ _ _ _ k2⟩
            have := of_decide_eq_true hl
            rw [DqAll.len a2, DqAll.len b2]; exact this
        · cases e
      · cases e
    · cases e
  · cases e
/-- o.pop() -/
def xPop (i : Nat) (ps : Path) : XD := fun env => match plMut i ps env with
  | some (s, tr, .lst ds) => (ds[ds.length - 1]?).map fun d => (d, env.set i (s.put (tr.put ps (.lst ds.dropLast))))
  | _ => none
theorem DqAll.init {M : Hp} : ∀ {vs : List V} {ds : List PyData}, DqAll K M vs ds → DqAll K M vs.dropLast ds.dropLast
  | _, _, .nil => .nil
  | _, _, .cons a .nil => .nil
  | _, _, .cons a (.cons b c) => .cons a (DqAll.init (.cons b c))
theorem sim_pop {to : TE} {i : Nat} {ps : Path} (hp : SimP CA to i ps) : SimD K CA Tb (tBM0 K "list" rPop to) (xPop i ps) := fun env d env' e H0 M0 pin fps σ H M Q k q => by
  unfold xPop at e
  split at e
  · rename_i s tr ds h0
    obtain ⟨d1, h1, h2⟩ := Option.map_eq_some_iff.mp e
    cases h2
    obtain ⟨g1, g2, g3⟩ := plMut_some h0
    obtain ⟨v0, v1, p1, fp, n1, n2, n3, n4, n5, n6, _⟩ := k.mut g1 g2 g3
    obtain ⟨p, vs, rfl, a1, a2, a3⟩ := k.put (es := ds.dropLast) h0 n1 n2
    obtain ⟨y, y1, y2⟩ := DqAll.get a2 h1
    obtain ⟨fp', k2⟩ := a3 vs.dropLast (DqAll.init a2)
    refine hp σ H _ v0 _ n1 n2 ⟨.inl ⟨rfl, _, SqL.of a1⟩, p, vs, y, rfl, rfl, a1, by rw [DqAll.len a2]; exact y1, q _ _ _ _ k2 (Same.refl M) y2⟩
  · cases e
end
end Q

/-! ### layer Q: comprehensions, generators of any and all -/
namespace Q
open PySem L2 Y
section
variable {K : PySem.W.Frag} {CA : Str → Addr} {Tb : List Tbl2} {H0 M0 H M H' M' : Hp} {pin : Nat → V × List Addr} {env : Env} {fps : List (List Addr)} {σ : L2.St}
def wipeX (e : Env) : List Nat → Env
  | [] => e
  | v :: vs => (wipeX e vs).set v .un
def restoreX (e1 : Env) : List Nat → Env → Env
  | [], e => e
  | v :: vs, e => (restoreX e1 vs e).set v ((e1[v]?).getD .un)
def calmS : Sv → Bool
  | .un => true
  | .own (.dat _) => true
  | _ => false
def calmX (e : Env) (vs : List Nat) : Bool := vs.all fun v => match e[v]? with
  | some s => calmS s
  | none => false
theorem wipeX_len (e : Env) : ∀ vs : List Nat, (wipeX e vs).length = e.length
  | [] => rfl
  | v :: vs => by rw [wipeX, List.length_set, wipeX_len]
theorem restoreX_len (e1 e : Env) : ∀ vs : List Nat, (restoreX e1 vs e).length = e.length
  | [] => rfl
  | v :: vs => by rw [restoreX, List.length_set, restoreX_len]
theorem Ok.wiped (k : Ok K CA Tb H0 M0 pin env fps σ H M) : ∀ vs : List Nat, (∀ v ∈ vs, v < env.length) → ∃ f, Ok K CA Tb H0 M0 pin (wipeX env vs) f (wipe σ vs) H M ∧ ∀ a ∈ f.flatten, a ∈ fps.flatten
  | [], _ => ⟨fps, k, fun _ h => h⟩
  | v :: vs, hv => by
    obtain ⟨f, h, hf⟩ := Ok.wiped k vs fun x hx => hv x (List.mem_cons_of_mem _ hx)
    exact ⟨_, h.setU (by rw [wipeX_len]; exact hv v List.mem_cons_self), fun a ha => hf a (flat_set ha)⟩
theorem wipeX_get {e : Env} {s : Sv} : ∀ {vs : List Nat} {i : Nat}, (wipeX e vs)[i]? = some s → (i ∈ vs ∧ s = .un) ∨ (i ∉ vs ∧ e[i]? = some s)
  | [], i, h => .inr ⟨fun z => (nomatch z), h⟩
  | v :: vs, i, h => by
    rw [wipeX, List.getElem?_set] at h
    by_cases c : v = i
    · subst c
      rw [if_pos rfl] at h
      split at h
      · exact .inl ⟨List.mem_cons_self, (Option.some.inj h).symm⟩
      · cases h
    · rw [if_neg c] at h
      rcases wipeX_get h with ⟨a, b⟩ | ⟨a, b⟩
      · exact .inl ⟨List.mem_cons_of_mem _ a, b⟩
      · exact .inr ⟨fun z => (List.mem_cons.mp z).elim (fun e => c e.symm) a, b⟩
theorem restoreX_get {e1 e : Env} {s : Sv} : ∀ {vs : List Nat} {i : Nat}, (restoreX e1 vs e)[i]? = some s → (i ∈ vs ∧ s = (e1[i]?).getD .un) ∨ (i ∉ vs ∧ e[i]? = some s)
  | [], i, h => .inr ⟨fun z => (nomatch z), h⟩
  | v :: vs, i, h => by
    rw [restoreX, List.getElem?_set] at h
    by_cases c : v = i
    · subst c
      rw [if_pos rfl] at h
      split at h
      · exact .inl ⟨List.mem_cons_self, (Option.some.inj h).symm⟩
      · cases h
    · rw [if_neg c] at h
      rcases restoreX_get h with ⟨a, b⟩ | ⟨a, b⟩
      · exact .inl ⟨List.mem_cons_of_mem _ a, b⟩
      · exact .inr ⟨fun z => (List.mem_cons.mp z).elim (fun e => c e.symm) a, b⟩
/-- behind a block its names hold what they held before -/
theorem Ok.unwipe {vs : List Nat} {e : Env} {f : List (List Addr)} (k : Ok K CA Tb H0 M0 pin env fps σ H M) (c : calmX env vs = true) (k' : Ok K CA Tb H0 M pin e f (wipe σ vs) H' M') (hu : ∀ i ∈ vs, e[i]? = some .un) : Ok K CA Tb H0 M0 pin (restoreX env vs e) f σ H' M' := by
  have lw : (wipe σ vs).length = σ.length := wipe_length _ _
  have k2 := k.back k'
  refine ⟨k2.base, k2.tab, k2.tab0, k2.sub, k2.mt, k2.grow, k2.new, ⟨by rw [restoreX_len, k'.sls.le, lw], by rw [k'.sls.lf, lw], fun i s o fp h1 h2 h3 => ?_⟩, k2.nd, k2.own, k2.pinOk⟩
  rcases restoreX_get h1 with ⟨a, rfl⟩ | ⟨a, h4⟩
  · have hi := List.all_eq_true.mp c i a
    obtain ⟨o', f', g1, g2, g3⟩ := k'.sls.get (hu i a)
    rw [h3] at g2; cases g2
    cases e0 : env[i]? with
    | none => rw [e0] at hi; cases hi
    | some s0 =>
      rw [e0] at hi
      obtain ⟨o2, f2, n1, n2, n3⟩ := k.sls.get e0
      rw [h2] at n1; cases n1
      show SlOk K CA Tb H0 M' H' (pin i) s0 o fp
      have g3' : fp = [] := g3
      subst g3'
      cases s0 with
      | un => rfl
      | own t =>
        cases t with
        | dat d => obtain ⟨v, rfl, x⟩ := n3; exact ⟨v, rfl, .dat (Dq.same k'.grow x.datI)⟩
        | _ => cases hi
      | arg t => cases hi
      | lent t => cases hi
  · refine k'.sls.at_ i s o fp h4 ?_ h3
    rw [wipe_out a]; exact h2
/-- a list of its own beside: it stands while other things are done -/
theorem Ok.side {D : Addr} {o : HO} (k : Ok K CA Tb H0 M0 pin env fps σ H M) {o0 : HO} (hD : H D = some o0) (ho : OwnO o0) (h0 : H0 D = none) (hm : M D = none) (hf : D ∉ fps.flatten) : Ok K CA Tb H0 M0 pin env fps σ (upd H D o) M := by
  have nt : noT Tb D := noT_of k.tab hD fun ps z => by rw [z] at ho; exact ho
  have ne : ∀ a ∈ fps.flatten, a ≠ D := fun a ha z => hf (by rw [← z]; exact ha)
  refine ⟨fun a u e z => ?_, TabsG.but (fp := [D]) k.tab (fun a ha => by rw [List.mem_singleton.mp ha]; exact ⟨o0, hD, ho⟩) (fun a u e n => by rw [upd_ne (fun z => n (List.mem_singleton.mpr z))]; exact e), k.tab0, fun a u e => ?_, k.mt, k.grow, k.new, ⟨k.sls.le, k.sls.lf, fun i s o' fp h1 h2 h3 => SlOk.mono (Same.refl M) (fun a ha => upd_ne (ne a (mem_flat h3 ha))) (k.sls.at_ i s o' fp h1 h2 h3)⟩, k.nd, fun a ha => ?_, k.pinOk⟩
  · rw [upd_ne (fun z => by rw [z, h0] at e; cases e)]; exact k.base a u e z
  · rw [upd_ne (fun z => by rw [z, hm] at e; cases e)]; exact k.sub a u e
  · obtain ⟨f1, f2, f3⟩ := k.own a ha
    exact ⟨f1, f2, by rw [upd_ne (ne a ha)]; exact f3⟩
theorem Ok.guard {D : Addr} {o : HO} (k : Ok K CA Tb H0 M0 pin env fps σ H M) (hD : H D = some o) (ho : OwnO o) (h0 : H0 D = none) (hf : D ∉ fps.flatten) : Ok K CA Tb (upd H0 D o) M pin env fps σ H M := by
  have up : ∀ a, H0 a ≠ none → upd H0 D o a = H0 a := fun a h => upd_ne fun z => h (by rw [z]; exact h0)
  refine ⟨fun a u e z => ?_, k.tab, fun t ht => by rw [up _ (k.tab0 t ht)]; exact k.tab0 t ht, k.sub, k.mt, Same.refl M, fun _ _ e => .inl e, ⟨k.sls.le, k.sls.lf, fun i s o' fp h1 h2 h3 => ?_⟩, k.nd, fun a ha => ?_, fun i a ha => by rw [up a (k.pinOk i a ha).1]; exact k.pinOk i a ha⟩
  · by_cases c : a = D
    · subst c; rw [upd_same] at e; rw [← Option.some.inj e]; exact hD
    · rw [upd_ne c] at e; exact k.base a u e z
  · have y := k.sls.at_ i s o' fp h1 h2 h3
    cases s with
    | un => exact y
    | own t => exact y
    | arg t => exact y
    | lent t =>
      obtain ⟨y1, y2, y3⟩ := y
      exact ⟨y1, y2, TrOk.mono (Same.refl M) (fun a ha => up a (k.pinOk i a ha).1) y3⟩
  · obtain ⟨f1, f2, f3⟩ := k.own a ha
    exact ⟨by rw [upd_ne (fun z => hf (by rw [← z]; exact ha))]; exact f1, f2, f3⟩
theorem Ok.unguard {D : Addr} {o : HO} {env' : Env} {fps' : List (List Addr)} {σ' : L2.St} (k : Ok K CA Tb H0 M0 pin env fps σ H M) (hD : H D = some o) (ho : OwnO o) (h0 : H0 D = none) (hm : M D = none) (k' : Ok K CA Tb (upd H0 D o) M pin env' fps' σ' H' M') : Ok K CA Tb H0 M0 pin env' fps' σ' H' M' ∧ H' D = some o ∧ M' D = none ∧ D ∉ fps'.flatten := by
  have up : ∀ a, H0 a ≠ none → upd H0 D o a = H0 a := fun a h => upd_ne fun z => h (by rw [z]; exact h0)
  have nt : noT Tb D := noT_of k.tab hD fun ps z => by rw [z] at ho; exact ho
  have nn : ∀ a, upd H0 D o a = none → H0 a = none ∧ a ≠ D := fun a e => by
    by_cases c : a = D
    · subst c; rw [upd_same] at e; cases e
    · rw [upd_ne c] at e; exact ⟨e, c⟩
  refine ⟨⟨fun a u e z => k'.base a u (by rw [up a (by rw [e]; exact fun z => nomatch z)]; exact e) z, k'.tab, k.tab0, k'.sub, k'.mt, k.grow.trans k'.grow, fun a u e => ?_, ⟨k'.sls.le, k'.sls.lf, fun i s o' fp h1 h2 h3 => ?_⟩, k'.nd, fun a ha => ?_, k.pinOk⟩, k'.base D o upd_same nt, ?_, fun z => (nn D (k'.own D z).1).2 rfl⟩
  · rcases k'.new a u e with z | z
    · exact k.new a u z
    · exact .inr (nn a z).1
  · have y := k'.sls.at_ i s o' fp h1 h2 h3
    cases s with
    | un => exact y
    | own t => exact y
    | arg t => exact y
    | lent t =>
      obtain ⟨y1, y2, y3⟩ := y
      exact ⟨y1, y2, TrOk.mono (Same.refl M') (fun a ha => (up a (k.pinOk i a ha).1).symm) y3⟩
  · obtain ⟨f1, f2, f3⟩ := k'.own a ha
    exact ⟨(nn a f1).1, f2, f3⟩
  · cases e : M' D with
    | none => rfl
    | some u =>
      rcases k'.new D u e with z | z
      · rw [hm] at z; cases z
      · rw [upd_same] at z; cases z
def lcGo (tg : XT) (tst : XB) (elt : XD) (vs : List Nat) : List PyData → Env → Option (List PyData × Env)
  | [], e => some ([], e)
  | d :: ds, e => match tg d e with
    | some e1 => match tst e1 with
      | some (true, e2) => match elt e2 with
        | some (c, e3) => (lcGo tg tst elt vs ds (wipeX e3 vs)).map fun p => (c :: p.1, p.2)
        | none => none
      | some (false, e2) => lcGo tg tst elt vs ds (wipeX e2 vs)
      | none => none
    | none => none
def unX (e : Env) (vs : List Nat) : Bool := vs.all fun v => match e[v]? with
  | some .un => true
  | _ => false
def xLc (src : XA) (tg : XT) (tst : XB) (elt : XD) (vs : List Nat) : XN := fun env => match src env with
  | some (ds, e1) => if calmX e1 vs = true ∧ shortB (ds.length + 1) = true then match lcGo tg tst elt vs ds (wipeX e1 vs) with
    | some (out, e2) => if unX e2 vs = true then some (.lst out, restoreX e1 vs e2) else none
    | none => none else none
  | none => none
theorem calm_lt {e : Env} {vs : List Nat} (c : calmX e vs = true) : ∀ v ∈ vs, v < e.length := fun v hv => by
  have := List.all_eq_true.mp c v hv
  cases h : e[v]? with
  | none => rw [h] at this; cases this
  | some s => exact (List.getElem?_eq_some_iff.mp h).1
theorem unX_get {e : Env} {vs : List Nat} (c : unX e vs = true) : ∀ v ∈ vs, e[v]? = some .un := fun v hv => by
  have := List.all_eq_true.mp c v hv
  split at this
  · rename_i h; exact h
  · cases this
theorem sim_lc {wi : TI} {g : TG} {tt : TT} {te : TE} {vs is : List Nat} {src : XA} {tg : XT} {tst : XB} {elt : XD} (hw : SimW K CA Tb wi src) (hg : SimTG K CA Tb g tg is) (ht : SimT K CA Tb tt tst) (he : SimD K CA Tb te elt) (hi : ∀ j ∈ is, j ∈ vs) : SimN K CA Tb (tLc wi g tt te vs) (xLc src tg tst elt vs) := fun env d env' e H0 M0 pin fps σ H M Q k q => by
  unfold xLc at e
  split at e
  case h_2 => cases e
  rename_i ds e1 h1
  split at e
  case isFalse => cases e
  rename_i hcs
  obtain ⟨hc, hsz⟩ := hcs
  split at e
  case h_2 => cases e
  rename_i out e2 h2
  split at e
  case isFalse => cases e
  rename_i hu
  cases e
  have hsz : ds.length + 1 ≤ sizeLine := of_decide_eq_true hsz
  refine hw _ _ _ h1 H0 M0 pin fps σ H M _ k fun J H1 M1 f1 k1 s1 ⟨G, Y, w, hG, hY⟩ => ?_
  intro D hD
  have nD := k1.new_none hD
  obtain ⟨fw, kw, hfw⟩ := k1.wiped vs (calm_lt hc)
  have kx : Ok K CA Tb H0 M1 pin (wipeX e1 vs) fw (wipe σ vs) (upd H1 D (.lst [])) M1 := kw.re.extE ⟨fun a u e => by rw [upd_ne (fun z => by rw [z, hD] at e; cases e)]; exact e, Same.refl M1, fun a u e => by rw [upd_ne (fun z => by rw [z, nD.2.1] at e; cases e)]; exact k1.sub a u e, fun _ _ e => .inl e⟩
  refine lc_it w (fun i H => ∃ ei f M2 acc done rest, Ok K CA Tb H0 M1 pin ei f (wipe σ vs) H M2 ∧ M2 D = none ∧ D ∉ f.flatten ∧ H D = some (.lst acc) ∧ DqAll K M2 acc done ∧ done.length ≤ i ∧ lcGo tg tst elt vs (ds.drop i) ei = some (rest, e2) ∧ out = done ++ rest) ?_ ?_ ?_ ?_
  · exact ⟨_, fw, M1, [], [], out, kx, nD.2.1, fun z => nD.2.2 (hfw D z), upd_same, .nil, Nat.le_refl _, h2, rfl⟩
  · rintro i H hi ⟨ei, f, M2, acc, done, rest, k2, _⟩
    exact hG H M2 k2.base k2.grow k2.sub
  · rintro i x H2 H3 hlt ⟨ei, f, M2, acc, done, rest, k2, m2, n2, h2', a2, l2, go, eo⟩ y
    obtain ⟨M3, d, x3, hd', dv⟩ := hY i H2 M2 x H3 hlt k2.base k2.grow k2.sub y
    rw [List.drop_eq_getElem_cons hlt] at go
    have ed : ds[i] = d := Option.some.inj ((List.getElem?_eq_getElem hlt).symm.trans hd')
    rw [ed] at go
    unfold lcGo at go
    have k3 := k2.extE x3
    have h3' : H3 D = some (.lst acc) := x3.h _ _ h2'
    have m3 : M3 D = none := by
      cases c : M3 D with
      | none => rfl
      | some u =>
        rcases x3.n D u c with e | e
        · rw [m2] at e; cases e
        · rw [h2'] at e; cases e
    have kg := k3.guard h3' trivial nD.1 n2
    split at go
    case h_2 => cases go
    rename_i eb hb
    refine hg _ _ _ hb _ _ _ _ _ _ _ x _ kg dv fun σ4 f4 k4 e4 l4 => ⟨wipe_eq e4 l4 hi, ?_⟩
    split at go
    · rename_i ec hcc
      split at go
      case h_2 => cases go
      rename_i c ed2 hdd
      obtain ⟨⟨rest1, e5⟩, go1, go2⟩ := Option.map_eq_some_iff.mp go
      cases go2
      refine ht _ _ _ hcc _ _ _ _ _ _ _ _ k4 fun H5 M5 f5 k5 s5 => ?_
      rw [if_pos rfl]
      refine he _ _ _ hdd _ _ _ _ _ _ _ _ k5 fun yv H6 M6 f6 k6 s6 dy => ?_
      obtain ⟨k7, h7, m7, n7⟩ := k3.unguard h3' trivial nD.1 m3 k6
      have lt6 : ∀ v ∈ vs, v < ed2.length := fun v hv => by
        rw [k6.sls.le, l4, wipe_length, ← k1.sls.le]; exact calm_lt hc v hv
      obtain ⟨f8, k8, hf8⟩ := k7.wiped vs lt6
      rw [wipe_eq e4 l4 hi] at k8
      have n8 : D ∉ f8.flatten := fun z => n7 (hf8 D z)
      refine ⟨acc, h7, by rw [DqAll.len a2]; omega, wipeX ed2 vs, f8, M6, acc ++ [yv], done ++ [c], rest1, k8.side h7 trivial nD.1 m7 n8, m7, n8, upd_same, DqAll.app (DqAll.same ((x3.m.trans k4.grow).trans (s5.trans s6) |> fun z => by
          exact (x3.m.trans (k6.grow))) a2) (.cons dy .nil), by rw [List.length_append, List.length_singleton]; omega, go1, by rw [eo, List.append_assoc]; rfl⟩
    · rename_i ec hcc
      refine ht _ _ _ hcc _ _ _ _ _ _ _ _ k4 fun H5 M5 f5 k5 s5 => ?_
      rw [if_neg Bool.false_ne_true]
      obtain ⟨k7, h7, m7, n7⟩ := k3.unguard h3' trivial nD.1 m3 k5
      have lt6 : ∀ v ∈ vs, v < ec.length := fun v hv => by
        rw [k5.sls.le, l4, wipe_length, ← k1.sls.le]; exact calm_lt hc v hv
      obtain ⟨f8, k8, hf8⟩ := k7.wiped vs lt6
      rw [wipe_eq e4 l4 hi] at k8
      exact ⟨wipeX ec vs, f8, M5, acc, done, rest, k8, m7, fun z => n7 (hf8 D z), h7, DqAll.same (x3.m.trans k5.grow) a2, by omega, go, eo⟩
    · cases go
  · rintro H2 ⟨ei, f, M2, acc, done, rest, k2, m2, n2, h2', a2, l2, go, eo⟩
    rw [List.drop_length] at go
    cases go
    rw [List.append_nil] at eo
    subst eo
    have k3 := k1.unwipe hc k2 (unX_get hu)
    refine q (.ref D) H2 M2 f [D] k3 (s1.trans k2.grow) (.lst h2' a2) ⟨List.pairwise_singleton _ _, fun a ha => by rw [List.mem_singleton.mp ha]; exact ⟨nD.1, m2, n2⟩⟩
/-! any, all of a generator -/
def capX (js : List (Option Nat)) (env : Env) : Env := js.map fun o => match o with
  | none => .un
  | some j => match env[j]? with
    | some (.own (.dat d)) => .own (.dat d)
    | some (.arg (.dat d)) => .own (.dat d)
    | some (.lent t) => .lent t
    | _ => .un
def genGo (stop : Bool) (tg : XT) (tst : XB) (elt : XD) : List PyData → Env → Option Bool
  | [], _ => some (!stop)
  | d :: ds, e => match tg d e with
    | some e1 => match tst e1 with
      | some (true, e2) => match elt e2 with
        | some (.bool c, e3) => if c = stop then some stop else genGo stop tg tst elt ds e3
        | _ => none
      | some (false, e2) => genGo stop tg tst elt ds e2
      | none => none
    | none => none
def xGen (js : List (Option Nat)) (stop : Bool) (src : XA) (tg : XT) (tst : XB) (elt : XD) : XD := fun env => match src env with
  | some (ds, e1) => (genGo stop tg tst elt ds (capX js e1)).map fun b => (.bool b, e1)
  | none => none
theorem tabbed_chg {P : Addr} {H2 : Hp} (k : Ok K CA Tb H0 M0 pin env fps σ H M) (hP : (P, none) ∈ Tb) (t : GxR.Tabbed P H H2) : Chg Tb H M [] H2 M := by
  have nt : ∀ a, noT Tb a → a ≠ P := fun a h z => h _ hP z.symm
  refine ⟨fun a o e _ z => by rw [t.2 a (nt a z)]; exact e, ⟨k.tab.1, fun u hu => ?_⟩, Same.refl M, fun a o e => by rw [t.2 a (nt a (k.mt a o e))]; exact k.sub a o e, fun _ _ e => .inl e, k.mt⟩
  by_cases e : u.1 = P
  · rw [uniq_of k.tab.1 u hu (P, none) hP e]; exact (show TabX H2 (P, none) from t.1)
  · refine (k.tab.2 u hu).but e (fun b o n h => by rw [t.2 b n]; exact h) fun c q z => ?_
    obtain ⟨ps, e2⟩ := (k.tab.2 _ hP).tbl
    rw [show H P = some (.tbl ps) from e2] at z
    exact LamX.codeO_ne ps (Option.some.inj z).symm
open Classical in
theorem sim_gen {P : Addr} {js : List (Option Nat)} {wi : TI} {g : TG} {tt : TT} {te : TE} {stop : Bool} {is : List Nat} {src : XA} {tg : XT} {tst : XB} {elt : XD} (hP : (P, none) ∈ Tb) (hw : SimW K CA Tb wi src) (hg : SimTG K CA Tb g tg is) (ht : SimT K CA Tb tt tst) (he : SimD K CA Tb te elt) : SimD K CA Tb (tGx P js wi g tt te stop) (xGen js stop src tg tst elt) := fun env d env' e H0 M0 pin fps σ H M Q k q => by
  unfold xGen at e
  split at e
  case h_2 => cases e
  rename_i ds e1 h1
  obtain ⟨b, h2, h3⟩ := Option.map_eq_some_iff.mp e
  cases h3
  refine hw _ _ _ h1 H0 M0 pin fps σ H M _ k fun J H1 M1 f1 k1 s1 ⟨G, Y, w, hG, hY⟩ => ?_
  refine ⟨(show GxR.TabG H1 P from k1.tab.2 _ hP), fun H2 t2 => ?_⟩
  have c2 := tabbed_chg k1 hP t2
  have k2 := k1.ext c2
  -- all that stands is lent
  let pin' : Nat → V × List Addr := fun i => match js[i]? with
    | some (some j) => pin j
    | _ => (.non, [])
  have up : ∀ j a, a ∈ (pin j).2 → H2 a = H0 a := fun j a ha => by
    obtain ⟨y1, y2⟩ := k2.pinOk j a ha
    cases e0 : H0 a with
    | none => exact absurd e0 y1
    | some u => exact k2.base a u e0 y2
  have kc : Ok K CA Tb H2 M1 pin' (capX js env') (js.map fun _ => []) (capSt js σ) H2 M1 := by
    refine ⟨fun _ _ e _ => e, k2.tab, (fun t ht => by obtain ⟨ps, e⟩ := (k2.tab.2 t ht).tbl; rw [e]; exact fun z => nomatch z), k2.sub, k2.mt, Same.refl M1, fun _ _ e => .inl e, ⟨by unfold capX capSt; simp, by unfold capSt; simp, fun i s o fp g1 g2 g3 => ?_⟩, ?_, ?_, fun i a ha => ?_⟩
    · unfold capX at g1
      unfold capSt at g2
      rw [List.getElem?_map] at g1 g2 g3
      obtain ⟨oj, j1, j2⟩ := Option.map_eq_some_iff.mp g1
      rw [j1] at g2 g3
      cases g2; cases g3
      cases oj with
      | none => cases j2; rfl
      | some j =>
        have ep : pin' i = pin j := by show (match js[i]? with | some (some j) => pin j | _ => _) = _; rw [j1]
        rw [ep]
        dsimp only at j2 ⊢
        cases ej : env'[j]? with
        | none => rw [ej] at j2; cases j2; rfl
        | some sj =>
          rw [ej] at j2
          obtain ⟨o', f', n1, n2, n3⟩ := k2.sls.get ej
          rw [n1]
          cases sj with
          | un => cases j2; rfl
          | own t =>
            cases t with
            | dat d => cases j2; obtain ⟨v, rfl, x⟩ := n3; exact ⟨v, rfl, .dat x.datI⟩
            | _ => cases j2; rfl
          | arg t =>
            cases t with
            | dat d => cases j2; obtain ⟨rfl, x⟩ := n3; exact ⟨_, rfl, .dat x.datI⟩
            | _ => cases j2; rfl
          | lent t => cases j2; obtain ⟨_, rfl, x⟩ := n3; exact ⟨rfl, rfl, TrOk.mono (Same.refl M1) (fun a ha => up j a ha) x⟩
    · rw [show (js.map fun _ => ([] : List Addr)).flatten = [] by rw [List.flatten_eq_nil_iff]; intro l hl; obtain ⟨_, _, rfl⟩ := List.mem_map.mp hl; rfl]; exact List.nodup_nil
    · intro a ha
      rw [show (js.map fun _ => ([] : List Addr)).flatten = [] by rw [List.flatten_eq_nil_iff]; intro l hl; obtain ⟨_, _, rfl⟩ := List.mem_map.mp hl; rfl] at ha
      exact nomatch ha
    · have : a ∈ (match js[i]? with | some (some j) => pin j | _ => (V.non, ([] : List Addr))).2 := ha
      split at this
      · rename_i j hj
        rw [up j a this]; exact k2.pinOk j a this
      · exact nomatch this
  have back : ∀ {e' : Env} {f' : List (List Addr)} {τ : L2.St} {H' M' : Hp}, Ok K CA Tb H2 M1 pin' e' f' τ H' M' → Ok K CA Tb H0 M0 pin env' f1 σ H' M' ∧ Same M1 M' := fun k' => ⟨k2.ext ⟨fun a o e _ z => k'.base a o e z, k'.tab, k'.grow, k'.sub, fun a o e => (k'.new a o e).imp id .inl, k'.mt⟩, k'.grow⟩
  refine gx_it w (fun i τ H => ∃ ei f M2, Ok K CA Tb H2 M1 pin' ei f τ H M2 ∧ genGo stop tg tst elt (ds.drop i) ei = some b) ⟨_, _, M1, kc, h2⟩ ?_ ?_ ?_
  · rintro i τ H hi ⟨ei, f, M2, k3, _⟩
    exact hG H M2 (fun a o e z => k3.base a o (by
      exact k2.base a o e z) z) k3.grow k3.sub
  · rintro i x τ H3 H4 hlt ⟨ei, f, M2, k3, go⟩ y
    obtain ⟨M3, d, x3, hd', dv⟩ := hY i H3 M2 x H4 hlt (fun a o e z => k3.base a o (k2.base a o e z) z) k3.grow k3.sub y
    rw [List.drop_eq_getElem_cons hlt] at go
    have ed : ds[i] = d := Option.some.inj ((List.getElem?_eq_getElem hlt).symm.trans hd')
    rw [ed] at go
    unfold genGo at go
    split at go
    case h_2 => cases go
    rename_i eb hb
    refine hg _ _ _ hb _ _ _ _ _ _ _ x _ (k3.extE x3) dv fun τ4 f4 k4 _ _ => ?_
    split at go
    · rename_i ec hcc
      split at go
      · rename_i c ed2 hdd
        refine ht _ _ _ hcc _ _ _ _ _ _ _ _ k4 fun H5 M5 f5 k5 s5 => ?_
        rw [if_pos rfl]
        refine he _ _ _ hdd _ _ _ _ _ _ _ _ k5 fun yv H6 M6 f6 k6 s6 dy => ⟨c, dq_bool dy, ?_⟩
        split at go
        · rename_i es
          cases go
          rw [if_pos es]
          obtain ⟨k7, s7⟩ := back k6
          exact q _ H6 M6 f1 k7 (s1.trans s7) (.bl _)
        · rename_i es
          rw [if_neg es]
          exact ⟨ed2, f6, M6, k6, go⟩
      · cases go
    · rename_i ec hcc
      refine ht _ _ _ hcc _ _ _ _ _ _ _ _ k4 fun H5 M5 f5 k5 s5 => ?_
      rw [if_neg Bool.false_ne_true]
      exact ⟨ec, f5, M5, k5, go⟩
    · cases go
  · rintro τ H3 ⟨ei, f, M2, k3, go⟩
    rw [List.drop_length] at go
    cases go
    obtain ⟨k7, s7⟩ := back k3
    exact q _ H3 M2 f1 k7 (s1.trans s7) (.bl _)
end
end Q

/-! ### layer Q: operators, builtins, walks by values -/
namespace Q
open PySem L2 Y
theorem ty_t {K : PySem.W.Frag} {H : Hp} {a : Addr} {xs : List V} (h : SqT K H a xs) : TyX K H (.ref a) (.type "tuple") := by
  rcases h with (h | ⟨o, h⟩) | ⟨o, its, n, h1, h2, _⟩
  · exact .base (.tup h)
  · exact .fTuple h
  · exact .kTuple h1 h2
def fII (f : Int → Int → PyData) : PyData → PyData → Option PyData
  | .int i, .int j => some (f i j)
  | _, _ => none
def fIIc (c : Int → Int → Bool) (f : Int → Int → PyData) : PyData → PyData → Option PyData
  | .int i, .int j => if c i j = true then some (f i j) else none
  | _, _ => none
def fU (f : Int → PyData) : PyData → Option PyData
  | .int i => some (f i)
  | _ => none
abbrev fAdd := fII fun i j => .int (i + j)
abbrev fSub := fII fun i j => .int (i - j)
def mulOk (i j : Int) : Bool := decide ((-(2 ^ 64) < i ∧ i < 2 ^ 64) ∨ (-(2 ^ 64) < j ∧ j < 2 ^ 64))
def divOk (_ j : Int) : Bool := decide (0 < j ∧ j < 1073741824)
def modOk (_ j : Int) : Bool := decide (0 < j)
def divNOk (_ j : Int) : Bool := decide (j ≠ 0 ∧ j.natAbs < 1073741824)
def modNOk (_ j : Int) : Bool := decide (j ≠ 0)
def powOk (i j : Int) : Bool := decide (0 ≤ j ∧ j ≤ 1000000 ∧ i.natAbs < 2 ^ 64)
abbrev fMul := fIIc mulOk fun i j => .int (i * j)
abbrev fDiv := fIIc divOk fun i j => .int (i / j)
abbrev fMod := fIIc modOk fun i j => .int (i % j)
abbrev fDivN := fIIc divNOk fun i j => .int (i.fdiv j)
abbrev fModN := fIIc modNOk fun i j => .int (i.fmod j)
abbrev fPow := fIIc powOk fun i j => .int (i ^ j.toNat)
abbrev fLt := fII fun i j => .bool (decide (i < j))
abbrev fLe := fII fun i j => .bool (decide (i ≤ j))
abbrev fGt := fII fun i j => .bool (decide (j < i))
abbrev fGe := fII fun i j => .bool (decide (j ≤ i))
abbrev fNeg := fU fun i => .int (-i)
def fEq : PyData → PyData → Option PyData
  | .int i, .int j => some (.bool (decide (i = j)))
  | .str i, .str j => some (.bool (decide (i = j)))
  | .bool i, .bool j => some (.bool (decide (i = j)))
  | _, _ => none
def fNe : PyData → PyData → Option PyData
  | .int i, .int j => some (.bool (!decide (i = j)))
  | .str i, .str j => some (.bool (!decide (i = j)))
  | .bool i, .bool j => some (.bool (!decide (i = j)))
  | _, _ => none
def fEqD (d e : PyData) : Option PyData := if SeqAt.shaped d = true ∧ SeqAt.shaped e = true then some (.bool (PyData.eqv d e)) else none
def fNeD (d e : PyData) : Option PyData := if SeqAt.shaped d = true ∧ SeqAt.shaped e = true then some (.bool (!PyData.eqv d e)) else none
def fIsN (d e : PyData) : Option PyData := match e with | .none => (match d with | .list _ => none | d => some (.bool (isN d))) | _ => none
def fNotN (d e : PyData) : Option PyData := match e with | .none => (match d with | .list _ => none | d => some (.bool (!isN d))) | _ => none
def fAddS : PyData → PyData → Option PyData
  | .str a, .str b => if shortB (a.length + b.length) = true then some (.str (a ++ b)) else none
  | _, _ => none
def signOf : PyData → Option Nat
  | .str ⟨⟨[c]⟩⟩ => some c
  | _ => none
def fInS (d e : PyData) : Option PyData := match signOf d, e with
  | some c, .str z => some (.bool (decide (c ∈ z.cps.toList)))
  | _, _ => none
def fCat : PyData → PyData → Option (List PyData)
  | .list a, .list b => if shortB (a.length + b.length) = true then some (a ++ b) else none
  | _, _ => none
def fCatT : PyData → PyData → Option PyData
  | .tuple a, .tuple b => if shortB (a.length + b.length) = true then some (.tuple (a ++ b)) else none
  | _, _ => none
def fIxL : PyData → PyData → Option PyData
  | .list a, .int i => atI a i
  | _, _ => none
def fIxT : PyData → PyData → Option PyData
  | .tuple a, .int i => atI a i
  | _, _ => none
def fIxS : PyData → PyData → Option PyData
  | .str z, .int i => if shortB z.length = true then (atI z.cps.toList i).map fun c => .str ⟨#[c]⟩ else none
  | _, _ => none
def fInD (neg : Bool) (d e : PyData) : Option PyData := match e with
  | .list ds => if SeqAt.shaped d = true ∧ SeqAt.shaped (.list ds) = true then some (.bool (if neg = true then !(ds.any fun z => PyData.eqv z d) else ds.any fun z => PyData.eqv z d)) else none
  | _ => none
section
variable {K : PySem.W.Frag} {CA : Str → Addr} {Tb : List Tbl2}
theorem simO_i0 {f : Int → Int → Int} : SimO K (rI0 fun i j => .int (f i j)) (fII fun i j => .int (f i j)) := fun d e c h H M x y Q s hx hy q => by
  cases d <;> cases e <;> first | (cases h; done) | skip
  cases h
  exact o_i0 H M x y Q s (hx.get rfl) (hy.get rfl) q
theorem simO_b0 {f : Int → Int → Bool} : SimO K (rI0 fun i j => .bl (f i j)) (fII fun i j => .bool (f i j)) := fun d e c h H M x y Q s hx hy q => by
  cases d <;> cases e <;> first | (cases h; done) | skip
  cases h
  exact o_b0 H M x y Q s (hx.get rfl) (hy.get rfl) q
theorem simO_iC {C : Int → Int → Prop} {cb : Int → Int → Bool} {f : Int → Int → Int} (hc : ∀ i j, cb i j = true → C i j) : SimO K (rI C fun i j => .int (f i j)) (fIIc cb fun i j => .int (f i j)) := fun d e c h H M x y Q s hx hy q => by
  cases d <;> cases e <;> first | (cases h; done) | skip
  dsimp only [fIIc] at h
  split at h
  · rename_i c1
    cases h
    exact o_iC (hc _ _ c1) H M x y Q s (hx.get rfl) (hy.get rfl) q
  · cases h
theorem simO_mul : SimO K (rI CMul fun i j => .int (i * j)) fMul := simO_iC fun i j h => by unfold mulOk at h; rw [decide_eq_true_eq] at h; exact h
theorem simO_div : SimO K (rI CDiv fun i j => .int (i / j)) fDiv := simO_iC fun i j h => by unfold divOk at h; rw [decide_eq_true_eq] at h; exact h
theorem simO_mod : SimO K (rI (fun _ j => 0 < j) fun i j => .int (i % j)) fMod := simO_iC fun i j h => by unfold modOk at h; rw [decide_eq_true_eq] at h; exact h
theorem simO_divN : SimO K (rI CDivN fun i j => .int (i.fdiv j)) fDivN := simO_iC fun i j h => by unfold divNOk at h; rw [decide_eq_true_eq] at h; exact h
theorem simO_modN : SimO K (rI (fun _ j => j ≠ 0) fun i j => .int (i.fmod j)) fModN := simO_iC fun i j h => by unfold modNOk at h; rw [decide_eq_true_eq] at h; exact h
theorem simO_pow : SimO K (rI CPow fun i j => .int (i ^ j.toNat)) fPow := simO_iC fun i j h => by unfold powOk at h; rw [decide_eq_true_eq] at h; exact h
theorem simU_neg : SimU K (rU fun i => .int (-i)) fNeg := fun d c h H M x Q s hx q => by
  cases d <;> first | (cases h; done) | skip
  cases h
  exact u_i H M x Q s (hx.get rfl) q
theorem simO_ip {f : Int → Int → Int} : SimO K (ipI f) (fII fun i j => .int (f i j)) := fun d e c h H M x y Q s hx hy q => by
  cases d <;> cases e <;> first | (cases h; done) | skip
  cases h
  exact o_ip H M x y Q s (hx.get rfl) (hy.get rfl) q
theorem simO_eq : SimO K rEq fEq := fun d e c h H M x y Q s hx hy q => by
  cases d <;> cases e <;> first | (cases h; done) | skip
  all_goals cases h
  · exact o_eqB H M x y Q s (hx.get rfl) (hy.get rfl) q
  · exact o_eqI H M x y Q s (hx.get rfl) (hy.get rfl) q
  · exact o_eqS H M x y Q s (hx.get rfl) (hy.get rfl) q
theorem simO_ne : SimO K rNe fNe := fun d e c h H M x y Q s hx hy q => by
  cases d <;> cases e <;> first | (cases h; done) | skip
  all_goals cases h
  · exact o_neB H M x y Q s (hx.get rfl) (hy.get rfl) q
  · exact o_neI H M x y Q s (hx.get rfl) (hy.get rfl) q
  · exact o_neS H M x y Q s (hx.get rfl) (hy.get rfl) q
theorem Rv.dp {M H : Hp} (s : Same M H) {v : V} {d : PyData} (h : Rv K [] M H v d) (c : d.canLay0 = true) : Dp K H v d := by
  cases h with
  | dq h => exact Dq.dp (Dq.same s h) c
  | own a b e => exact .lst (SqL.of a) (DqAll.dp (DqAll.same s e) (by rw [PyData.canLay0] at c; exact c))
theorem simO_eqD : SimO K (rEqD K) fEqD := fun d e c h H M x y Q s hx hy q => by
  unfold fEqD at h
  split at h
  · rename_i hh
    cases h
    exact ⟨d, e, hx.dp s (SeqAt.canLay_of_shaped hh.1), hy.dp s (SeqAt.canLay_of_shaped hh.2), hh.1, hh.2, q _ H M (Ext.refl s) (.bl _)⟩
  · cases h
theorem simO_neD : SimO K (rNeD K) fNeD := fun d e c h H M x y Q s hx hy q => by
  unfold fNeD at h
  split at h
  · rename_i hh
    cases h
    exact ⟨d, e, hx.dp s (SeqAt.canLay_of_shaped hh.1), hy.dp s (SeqAt.canLay_of_shaped hh.2), hh.1, hh.2, q _ H M (Ext.refl s) (.bl _)⟩
  · cases h
theorem simO_isN : SimO K (fun x y H Q => y = .non ∧ Q (.bl (decide (x = .non))) H) fIsN := fun d e c h H M x y Q s hx hy q => by
  cases e <;> first | (cases h; done) | skip
  cases d <;> cases h <;> exact o_isN H M x y Q s (hx.get rfl) (hy.get rfl) q
theorem simO_notN : SimO K (fun x y H Q => y = .non ∧ Q (.bl (!decide (x = .non))) H) fNotN := fun d e c h H M x y Q s hx hy q => by
  cases e <;> first | (cases h; done) | skip
  cases d <;> cases h <;> exact o_notN H M x y Q s (hx.get rfl) (hy.get rfl) q
theorem simO_addS : SimO K (fun x y H Q => ∃ i j, x = .str i ∧ y = .str j ∧ i.length + j.length ≤ sizeLine ∧ Q (.str (i ++ j)) H) fAddS := fun d e c h H M x y Q s hx hy q => by
  cases d <;> cases e <;> first | (cases h; done) | skip
  dsimp only [fAddS] at h
  split at h
  · rename_i hl
    cases h
    exact o_addS (of_decide_eq_true hl) H M x y Q s (hx.get rfl) (hy.get rfl) q
  · cases h
theorem signOf_some {d : PyData} {c : Nat} (h : signOf d = some c) : d = .str ⟨#[c]⟩ := by
  unfold signOf at h
  split at h
  · cases h; rfl
  · cases h
theorem simO_inS : SimO K (fun x y H Q => ∃ (c : Nat) (z : Str), x = .str ⟨#[c]⟩ ∧ y = .str z ∧ Q (.bl (decide (c ∈ z.cps.toList))) H) fInS := fun d e c h H M x y Q s hx hy q => by
  unfold fInS at h
  split at h
  · rename_i n z hs
    cases h
    rw [signOf_some hs] at hx
    exact o_inS H M x y Q s (hx.get rfl) (hy.get rfl) q
  · cases h
theorem simO_cat : SimON K rCat fCat := fun d e c h H M x y Q s hx hy q => by
  cases d <;> cases e <;> first | (cases h; done) | skip
  dsimp only [fCat] at h
  split at h
  · rename_i hl
    cases h
    obtain ⟨a, xs, rfl, h1, h2⟩ := hx.lst s
    obtain ⟨b, ys, rfl, h3, h4⟩ := hy.lst s
    refine ⟨a, b, xs, ys, rfl, rfl, h1, h3, by rw [DqAll.len h2, DqAll.len h4]; exact of_decide_eq_true hl, fun p hp => ?_⟩
    have mp := none_of s hp
    refine q p _ _ M ⟨fun a u e => ?_, Same.refl M, fun a u e => ?_, fun _ _ e => .inl e⟩ hp mp upd_same (DqAll.app h2 h4)
    · rw [upd_ne (fun z => by rw [z, hp] at e; cases e)]; exact e
    · rw [upd_ne (fun z => by rw [z, mp] at e; cases e)]; exact s a u e
  · cases h
theorem simO_catT : SimO K (rCatA K) fCatT := fun d e c h H M x y Q s hx hy q => by
  cases d <;> cases e <;> first | (cases h; done) | skip
  dsimp only [fCatT] at h
  split at h
  · rename_i hl
    cases h
    exact o_catA (of_decide_eq_true hl) H M x y Q s (hx.get rfl) (hy.get rfl) q
  · cases h
theorem simO_ixL : SimO K (rIxL K) fIxL := fun d e c h H M x y Q s hx hy q => by
  cases d <;> cases e <;> first | (cases h; done) | skip
  obtain ⟨a, xs, rfl, h1, h2⟩ := hx.lst s
  obtain ⟨v, e1, e2⟩ := dq_at h2 h
  exact ⟨a, xs, _, v, rfl, dq_int (hy.get rfl), SqL.of h1, e1, q v H M (Ext.refl s) e2⟩
theorem simO_ixT : SimO K (rIxT K) fIxT := fun d e c h H M x y Q s hx hy q => by
  cases d <;> cases e <;> first | (cases h; done) | skip
  exact o_ixT h H M x y Q s (hx.get rfl) (hy.get rfl) q
theorem simO_ixS : SimO K rIxS fIxS := fun d e c h H M x y Q s hx hy q => by
  cases d <;> cases e <;> first | (cases h; done) | skip
  dsimp only [fIxS] at h
  split at h
  · rename_i hl
    obtain ⟨n, h1, h2⟩ := Option.map_eq_some_iff.mp h
    cases h2
    exact o_ixS (of_decide_eq_true hl) h1 H M x y Q s (hx.get rfl) (hy.get rfl) q
  · cases h
theorem simO_inD : SimO K (rInD K) (fInD false) := fun d e c h H M x y Q s hx hy q => by
  cases e <;> first | (cases h; done) | skip
  unfold fInD at h
  dsimp only at h
  split at h
  · rename_i hh
    cases h
    exact ⟨d, _, hx.dp s (SeqAt.canLay_of_shaped hh.1), hy.dp s (SeqAt.canLay_of_shaped hh.2), hh.1, hh.2, q _ H M (Ext.refl s) (.bl _)⟩
  · cases h
theorem simO_notInD : SimO K (rNotInD K) (fInD true) := fun d e c h H M x y Q s hx hy q => by
  cases e <;> first | (cases h; done) | skip
  unfold fInD at h
  dsimp only at h
  split at h
  · rename_i hh
    cases h
    exact ⟨d, _, hx.dp s (SeqAt.canLay_of_shaped hh.1), hy.dp s (SeqAt.canLay_of_shaped hh.2), hh.1, hh.2, q _ H M (Ext.refl s) (.bl _)⟩
  · cases h
/-! builtins -/
def cLen : List PyData → Option PyData
  | [.list ds] => some (.int ds.length)
  | [.tuple ds] => some (.int ds.length)
  | _ => none
def cLenS : List PyData → Option PyData
  | [.str z] => if shortB z.length = true then some (.int z.length) else none
  | _ => none
def cInt : List PyData → Option PyData
  | [.int i] => some (.int i)
  | [.bool b] => some (.int (if b = true then 1 else 0))
  | _ => none
def cOrd : List PyData → Option PyData
  | [.str z] => if z.length = 1 then some (.int (z.cps.getD 0 0 : Nat)) else none
  | _ => none
def cMax2 : List PyData → Option PyData
  | [.int i, .int j] => some (.int (if j > i then j else i))
  | _ => none
def cMin2 : List PyData → Option PyData
  | [.int i, .int j] => some (.int (if j < i then j else i))
  | _ => none
def cTup : List PyData → Option PyData
  | [.list ds] => some (.tuple ds)
  | _ => none
def cTupT : List PyData → Option PyData
  | [.tuple ds] => some (.tuple ds)
  | _ => none
def cList : List PyData → Option (List PyData)
  | [.list ds] => some ds
  | [.tuple ds] => some ds
  | _ => none
theorem simC_len : SimC K (fun xs H Q => ∃ p ys, xs = [.ref p] ∧ (SqL K H p ys ∨ SqT K H p ys) ∧ Q (.int ys.length) H) cLen := fun d c h H M x Q s hx q => by
  unfold cLen at h
  split at h
  · cases h
    obtain ⟨v, rfl, hv⟩ := rvA_one hx
    obtain ⟨a, xs, rfl, h1, h2⟩ := hv.lst s
    refine ⟨a, xs, rfl, .inl (SqL.of h1), ?_⟩
    rw [DqAll.len h2]; exact q _ H M (Ext.refl s) (.int _)
  · cases h
    obtain ⟨v, rfl, hv⟩ := rvA_one hx
    exact c_lenT H M _ Q s (.cons (hv.get rfl) .nil) q
  · cases h
theorem simC_lenS : SimC K (fun xs H Q => ∃ z, xs = [.str z] ∧ z.length ≤ sizeLine ∧ Q (.int z.length) H) cLenS := fun d c h H M x Q s hx q => by
  unfold cLenS at h
  split at h
  · split at h
    · rename_i hl
      cases h
      obtain ⟨v, rfl, hv⟩ := rvA_one hx
      exact c_lenS (of_decide_eq_true hl) H M _ Q s (.cons (hv.get rfl) .nil) q
    · cases h
  · cases h
theorem simC_int : SimC K (fun xs H Q => (∃ i, xs = [.int i] ∧ Q (.int i) H) ∨ ∃ k, xs = [.bl k] ∧ Q (.int (if k then 1 else 0)) H) cInt := fun d c h H M x Q s hx q => by
  unfold cInt at h
  split at h
  · cases h
    obtain ⟨v, rfl, hv⟩ := rvA_one hx
    exact c_int H M _ Q s (.cons (hv.get rfl) .nil) q
  · cases h
    obtain ⟨v, rfl, hv⟩ := rvA_one hx
    exact c_intB H M _ Q s (.cons (hv.get rfl) .nil) q
  · cases h
theorem simC_ord : SimC K (fun xs H Q => ∃ x, xs = [.str x] ∧ x.length = 1 ∧ Q (.int (x.cps.getD 0 0 : Nat)) H) cOrd := fun d c h H M x Q s hx q => by
  unfold cOrd at h
  split at h
  · split at h
    · rename_i hl
      cases h
      obtain ⟨v, rfl, hv⟩ := rvA_one hx
      exact c_ord hl H M _ Q s (.cons (hv.get rfl) .nil) q
    · cases h
  · cases h
theorem simC_max2 : SimC K (fun xs H Q => ∃ i j, xs = [.int i, .int j] ∧ Q (.int (if j > i then j else i)) H) cMax2 := fun d c h H M x Q s hx q => by
  unfold cMax2 at h
  split at h
  · cases h
    obtain ⟨v, w, rfl, hv, hw⟩ := rvA_two hx
    exact c_max2 H M _ Q s (.cons (hv.get rfl) (.cons (hw.get rfl) .nil)) q
  · cases h
theorem simC_min2 : SimC K (fun xs H Q => ∃ i j, xs = [.int i, .int j] ∧ Q (.int (if j < i then j else i)) H) cMin2 := fun d c h H M x Q s hx q => by
  unfold cMin2 at h
  split at h
  · cases h
    obtain ⟨v, w, rfl, hv, hw⟩ := rvA_two hx
    exact c_min2 H M _ Q s (.cons (hv.get rfl) (.cons (hw.get rfl) .nil)) q
  · cases h
theorem simC_tup : SimC K (fun xs H Q => ∃ p ys, xs = [.ref p] ∧ ((SqL K H p ys ∧ ∀ l, H l = none → Q (.ref l) (upd H l (.tup ys))) ∨ (SqT K H p ys ∧ Q (.ref p) H))) cTup := fun d c h H M x Q s hx q => by
  unfold cTup at h
  split at h
  · cases h
    obtain ⟨v, rfl, hv⟩ := rvA_one hx
    obtain ⟨a, xs, rfl, h1, h2⟩ := hv.lst s
    exact ⟨a, xs, rfl, .inl ⟨SqL.of h1, fun p hp => q _ _ _ (Ext.laid s hp) (.tup (SqT.of upd_same) (DqAll.same (Ext.laid s hp).m h2))⟩⟩
  · cases h
theorem simC_tupT : SimC K (fun xs H Q => ∃ a ys, xs = [.ref a] ∧ SqT K H a ys ∧ Q (.ref a) H) cTupT := fun d c h H M x Q s hx q => by
  unfold cTupT at h
  split at h
  · cases h
    obtain ⟨v, rfl, hv⟩ := rvA_one hx
    obtain ⟨a, xs, rfl, h1, h2⟩ := dq_tupI (hv.get rfl)
    exact ⟨a, xs, rfl, Same.sqT s h1, q _ H M (Ext.refl s) (.tup h1 h2)⟩
  · cases h
theorem simC_list : SimCN K (fun xs H Q => ∃ p ys, xs = [.ref p] ∧ (SqL K H p ys ∨ SqT K H p ys) ∧ ∀ l, H l = none → Q (.ref l) (upd H l (.lst ys))) cList := fun d c h H M x Q s hx q => by
  have fin : ∀ {xs : List V} {p : Addr}, DqAll K M xs c → H p = none → Q (.ref p) (upd H p (.lst xs)) := fun {xs p} h2 hp => by
    have mp := none_of s hp
    refine q p _ _ M ⟨fun a u e => ?_, Same.refl M, fun a u e => ?_, fun _ _ e => .inl e⟩ hp mp upd_same h2
    · rw [upd_ne (fun z => by rw [z, hp] at e; cases e)]; exact e
    · rw [upd_ne (fun z => by rw [z, mp] at e; cases e)]; exact s a u e
  unfold cList at h
  split at h
  · cases h
    obtain ⟨v, rfl, hv⟩ := rvA_one hx
    obtain ⟨a, xs, rfl, h1, h2⟩ := hv.lst s
    exact ⟨a, xs, rfl, .inl (SqL.of h1), fun p hp => fin h2 hp⟩
  · cases h
    obtain ⟨v, rfl, hv⟩ := rvA_one hx
    obtain ⟨a, xs, rfl, h1, h2⟩ := dq_tupI (hv.get rfl)
    exact ⟨a, xs, rfl, .inr (Same.sqT s h1), fun p hp => fin h2 hp⟩
  · cases h
/-! isinstance -/
def kindN : PyData → String
  | .none => "NoneType"
  | .bool _ => "bool"
  | .int _ => "int"
  | .str _ => "str"
  | .tuple _ => "tuple"
  | .list _ => "list"
  | .dict _ => "dict"
def isiB (c : String) (d : PyData) : Option PyData := match d with
  | .dict _ => none
  | d => (kitB (kindN d) c).map .bool
theorem sim_isi {te : TE} {a : XD} {c : String} (ha : SimR K CA Tb te a) : SimD K CA Tb (tCB (rIsi K) (tCons te (tCons (tC (.ty c)) tNil))) (x1 a (isiB c)) := fun env d env' e H0 M0 pin fps σ H M Q k q => by
  obtain ⟨d1, h1, h2⟩ := x1_some e
  refine ha _ _ _ h1 H0 M0 pin fps σ H M _ k fun x H1 M1 f1 k1 s1 r1 => ?_
  have fin : ∀ {t : String}, kindN d1 = t → TyX K H1 x (.type t) → (∀ z, d1 ≠ .dict z) → rIsi K [x, .ty c] H1 Q := fun {t} ht ty nd => by
    unfold isiB at h2
    split at h2
    · rename_i z; exact absurd rfl (nd z)
    · obtain ⟨b, h3, rfl⟩ := Option.map_eq_some_iff.mp h2
      rw [ht] at h3
      exact ⟨x, .ty c, _, _, b, rfl, .ty _, ty, kit_ty h3, q _ H1 M1 f1 k1 s1 (.bl _)⟩
  cases r1 with
  | own a b c => exact fin rfl (.base (.lst (k1.base _ _ a b))) (fun _ z => nomatch z)
  | dq r1 =>
    cases r1 with
    | non => exact fin rfl (.base .non) (fun _ z => nomatch z)
    | bl _ => exact fin rfl (.base (.bl _)) (fun _ z => nomatch z)
    | int _ => exact fin rfl (.base (.int _)) (fun _ z => nomatch z)
    | str _ => exact fin rfl (.base (.str _)) (fun _ z => nomatch z)
    | tup h _ => exact fin rfl (ty_t (Same.sqT k1.sub h)) (fun _ z => nomatch z)
    | lst h _ => exact fin rfl (.base (.lst (k1.sub _ _ h))) (fun _ z => nomatch z)
    | dct h _ => unfold isiB at h2; cases h2
/-! methods of texts -/
def xM0 (a : XD) (f : Str → Option PyData) : XD := x1 a fun d => match d with
  | .str z => f z
  | _ => none
theorem sim_lower {te : TE} {a : XD} (ha : SimR K CA Tb te a) : SimD K CA Tb (tM0 (fun x xs H Q => ∃ a, x = .str a ∧ xs = [] ∧ a.length ≤ 5592405 ∧ Q (.str (Txt.lower a)) H) te) (xM0 a fun z => if decide (z.length ≤ 5592405) = true then some (.str (Txt.lower z)) else none) := fun env d env' e H0 M0 pin fps σ H M Q k q => by
  obtain ⟨d1, h1, h2⟩ := x1_some e
  split at h2
  · rename_i z
    dsimp only at h2
    split at h2
    · rename_i hl
      cases h2
      refine ha _ _ _ h1 H0 M0 pin fps σ H M _ k fun x H1 M1 f1 k1 s1 r1 => ?_
      rw [dq_str (r1.get rfl)]
      exact ⟨⟨z, rfl⟩, z, rfl, rfl, of_decide_eq_true hl, q _ H1 M1 f1 k1 s1 (.str _)⟩
    · cases h2
  · cases h2
def xWords (a : XD) : XN := x1 a fun d => match d with
  | .str z => if shortB (z.length + 2) = true then some (.lst ((Txt.words z).map .str)) else none
  | _ => none
theorem strs_dq {M : Hp} : ∀ zs : List Str, DqAll K M (zs.map V.str) (zs.map PyData.str)
  | [] => .nil
  | z :: zs => .cons (.str z) (strs_dq zs)
theorem sim_words {te : TE} {a : XD} (ha : SimR K CA Tb te a) : SimN K CA Tb (tM0 (fun x xs H Q => ∃ a, x = .str a ∧ xs = [] ∧ a.length + 2 ≤ sizeLine ∧ rNewStrs (Txt.words a) H Q) te) (xWords a) := fun env d env' e H0 M0 pin fps σ H M Q k q => by
  obtain ⟨d1, h1, h2⟩ := x1_some e
  split at h2
  · rename_i z
    split at h2
    · rename_i hl
      cases h2
      refine ha _ _ _ h1 H0 M0 pin fps σ H M _ k fun x H1 M1 f1 k1 s1 r1 => ?_
      rw [dq_str (r1.get rfl)]
      refine ⟨⟨z, rfl⟩, z, rfl, rfl, of_decide_eq_true hl, fun p hp => ?_⟩
      obtain ⟨a1, a2, a3⟩ := newL k1 hp (strs_dq (K := K) (M := M1) (Txt.words z))
      exact q _ _ M1 f1 [p] a1 s1 a2 a3
    · cases h2
  · cases h2
def fSt (f : Str → Str → Bool) : PyData → PyData → Option PyData
  | .str a, .str b => some (.bool (f a b))
  | _, _ => none
theorem sim_st {f : Str → Str → Bool} {to te : TE} {a b : XD} (ha : SimR K CA Tb to a) (hb : SimR K CA Tb te b) : SimD K CA Tb (tM1 (fun x xs H Q => ∃ a b, x = .str a ∧ xs = [.str b] ∧ Q (.bl (f a b)) H) to te) (x2 a b (fSt f)) := fun env d env' e H0 M0 pin fps σ H M Q k q => by
  obtain ⟨d1, e1, d2, h1, h2, h3⟩ := x2_some e
  cases d1 <;> cases d2 <;> first | (cases h3; done) | skip
  cases h3
  refine ha _ _ _ h1 H0 M0 pin fps σ H M _ k fun x H1 M1 f1 k1 s1 r1 => ?_
  rw [dq_str (r1.get rfl)]
  refine ⟨⟨_, rfl⟩, hb _ _ _ h2 H0 M0 pin f1 σ H1 M1 _ k1 fun y H2 M2 f2 k2 s2 r2 => ?_⟩
  rw [dq_str (r2.get rfl)]
  exact ⟨_, _, rfl, rfl, q _ H2 M2 f2 k2 (s1.trans s2) (.bl _)⟩
def strsOf : List PyData → Option (List Str)
  | [] => some []
  | .str z :: ds => (strsOf ds).map (z :: ·)
  | _ :: _ => none
theorem strsOf_some : ∀ {ds : List PyData} {zs : List Str}, strsOf ds = some zs → ds = zs.map .str
  | [], _, h => by cases h; rfl
  | .str z :: ds, zs, h => by
    obtain ⟨ys, h1, rfl⟩ := Option.map_eq_some_iff.mp h
    rw [strsOf_some h1]; rfl
  | .none :: _, _, h => by cases h
  | .bool _ :: _, _, h => by cases h
  | .int _ :: _, _, h => by cases h
  | .tuple _ :: _, _, h => by cases h
  | .list _ :: _, _, h => by cases h
  | .dict _ :: _, _, h => by cases h
def fJoin : PyData → PyData → Option PyData
  | .str a, .list ds => (strsOf ds).bind fun zs => if decide ((zs.map (·.length)).sum + zs.length * a.length ≤ 16777216) = true then some (.str (Txt.join a zs)) else none
  | _, _ => none
theorem dqA_strs {M : Hp} : ∀ {vs : List V} {zs : List Str}, DqAll K M vs (zs.map .str) → vs = zs.map V.str
  | _, [], h => dqA_nil h
  | _, z :: zs, h => by
    cases h with | cons a b =>
    rw [dq_str a, dqA_strs b]; rfl
theorem sim_join {to te : TE} {a b : XD} (ha : SimR K CA Tb to a) (hb : SimR K CA Tb te b) : SimD K CA Tb (tM1 (fun x xs H Q => ∃ a p, ∃ ys : List Str, x = .str a ∧ xs = [.ref p] ∧ (SqL K H p (ys.map V.str) ∨ SqT K H p (ys.map V.str)) ∧
    (ys.map (·.length)).sum + ys.length * a.length ≤ 16777216 ∧ Q (.str (Txt.join a ys)) H) to te) (x2 a b fJoin) := fun env d env' e H0 M0 pin fps σ H M Q k q => by
  obtain ⟨d1, e1, d2, h1, h2, h3⟩ := x2_some e
  cases d1 <;> cases d2 <;> first | (cases h3; done) | skip
  obtain ⟨zs, h4, h5⟩ := Option.bind_eq_some_iff.mp h3
  split at h5
  · rename_i hl
    cases h5
    rw [strsOf_some h4] at h2
    refine ha _ _ _ h1 H0 M0 pin fps σ H M _ k fun x H1 M1 f1 k1 s1 r1 => ?_
    rw [dq_str (r1.get rfl)]
    refine ⟨⟨_, rfl⟩, hb _ _ _ h2 H0 M0 pin f1 σ H1 M1 _ k1 fun y H2 M2 f2 k2 s2 r2 => ?_⟩
    obtain ⟨p, vs, rfl, g1, g2⟩ := (r2.at k2).lst k2.sub
    rw [dqA_strs g2] at g1
    exact ⟨_, p, zs, rfl, rfl, .inl (SqL.of g1), of_decide_eq_true hl, q _ H2 M2 f2 k2 (s1.trans s2) (.str _)⟩
  · cases h5
/-! slices -/
abbrev XO := Env → Option (Option Int × Env)
def SimSl (K : PySem.W.Frag) (CA : Str → Addr) (Tb : List Tbl2) (t : TO) (x : XO) : Prop := ∀ (env : Env) (o : Option Int) (env' : Env), x env = some (o, env') → ∀ (H0 M0 : Hp) (pin : Nat → V × List Addr) (fps : List (List Addr)) (σ : L2.St) (H M : Hp) (Q : Option Int → Hp → Prop), Ok K CA Tb H0 M0 pin env fps σ H M →
  (∀ H' M' fps', Ok K CA Tb H0 M0 pin env' fps' σ H' M' → Same M M' → Q o H') → t σ H Q
def xNoP : XO := fun env => some (none, env)
def xAtP (a : XD) : XO := x1 a fun d => match d with | .int i => some (some i) | _ => none
theorem sim_noP : SimSl K CA Tb tNoPart xNoP := fun env o env' e H0 M0 pin fps σ H M Q k q => by cases e; exact q H M fps k (Same.refl M)
theorem sim_atP {te : TE} {a : XD} (ha : SimR K CA Tb te a) : SimSl K CA Tb (tPart te) (xAtP a) := fun env o env' e H0 M0 pin fps σ H M Q k q => by
  obtain ⟨d1, h1, h2⟩ := x1_some e
  split at h2
  · rename_i i
    cases h2
    exact ha _ _ _ h1 H0 M0 pin fps σ H M _ k fun v H1 M1 f1 k1 s1 dv => ⟨i, dq_int (dv.get rfl), q H1 M1 f1 k1 s1⟩
  · cases h2
def x3 {α : Type} (a : XD) (lo hi : XO) (f : PyData → Option Int → Option Int → Option α) : Env → Option (α × Env) := fun env => match a env with
  | some (d, e1) => match lo e1 with
    | some (l, e2) => match hi e2 with
      | some (h, e3) => (f d l h).map fun c => (c, e3)
      | none => none
    | none => none
  | none => none
theorem x3_some {α : Type} {a : XD} {lo hi : XO} {f : PyData → Option Int → Option Int → Option α} {env env' : Env} {c : α} (h : x3 a lo hi f env = some (c, env')) : ∃ d e1 l e2 u, a env = some (d, e1) ∧ lo e1 = some (l, e2) ∧ hi e2 = some (u, env') ∧ f d l u = some c := by
  unfold x3 at h
  split at h
  · rename_i d e1 h1
    split at h
    · rename_i l e2 h2
      split at h
      · rename_i u e3 h3
        obtain ⟨c', h4, h5⟩ := Option.map_eq_some_iff.mp h
        cases h5
        exact ⟨d, e1, l, e2, u, h1, h2, h3, h4⟩
      · cases h
    · cases h
  · cases h
def slT : PyData → Option Int → Option Int → Option PyData
  | .tuple ds, lo, hi => some (.tuple (cutG ds lo hi))
  | _, _, _ => none
def slS : PyData → Option Int → Option Int → Option PyData
  | .str z, lo, hi => if shortB z.length = true then some (.str (cutS z lo hi)) else none
  | _, _, _ => none
def slL : PyData → Option Int → Option Int → Option Tr
  | .list ds, lo, hi => some (.lst (cutG ds lo hi))
  | _, _, _ => none
theorem sim_slT {te : TE} {tl th : TO} {a : XD} {lo hi : XO} (ha : SimR K CA Tb te a) (hl : SimSl K CA Tb tl lo) (hh : SimSl K CA Tb th hi) : SimD K CA Tb (L2.tSl (rSlA K) te tl th) (x3 a lo hi slT) := fun env d env' e H0 M0 pin fps σ H M Q k q => by
  obtain ⟨d1, e1, l, e2, u, h1, h2, h3, h4⟩ := x3_some e
  cases d1 <;> first | (cases h4; done) | skip
  cases h4
  exact ha _ _ _ h1 H0 M0 pin fps σ H M _ k fun x H1 M1 f1 k1 s1 r1 => hl _ _ _ h2 H0 M0 pin f1 σ H1 M1 _ k1 fun H2 M2 f2 k2 s2 => hh _ _ _ h3 H0 M0 pin f2 σ H2 M2 _ k2 fun H3 M3 f3 k3 s3 =>
    sl_T H3 M3 x Q k3.sub (Dq.same (s2.trans s3) (r1.get rfl)) fun v H4 M4 x4 dv => q v H4 M4 f3 (k3.extE x4) (((s1.trans s2).trans s3).trans x4.m) dv
theorem sim_slS {te : TE} {tl th : TO} {a : XD} {lo hi : XO} (ha : SimR K CA Tb te a) (hl : SimSl K CA Tb tl lo) (hh : SimSl K CA Tb th hi) : SimD K CA Tb (L2.tSl rSlS te tl th) (x3 a lo hi slS) := fun env d env' e H0 M0 pin fps σ H M Q k q => by
  obtain ⟨d1, e1, l, e2, u, h1, h2, h3, h4⟩ := x3_some e
  cases d1 <;> first | (cases h4; done) | skip
  dsimp only [slS] at h4
  split at h4
  · rename_i hz
    cases h4
    exact ha _ _ _ h1 H0 M0 pin fps σ H M _ k fun x H1 M1 f1 k1 s1 r1 => hl _ _ _ h2 H0 M0 pin f1 σ H1 M1 _ k1 fun H2 M2 f2 k2 s2 => hh _ _ _ h3 H0 M0 pin f2 σ H2 M2 _ k2 fun H3 M3 f3 k3 s3 =>
      sl_S (of_decide_eq_true hz) H3 M3 x Q k3.sub (Dq.same (s2.trans s3) (r1.get rfl)) fun v H4 M4 x4 dv => q v H4 M4 f3 (k3.extE x4) (((s1.trans s2).trans s3).trans x4.m) dv
  · cases h4
theorem sim_slL {te : TE} {tl th : TO} {a : XD} {lo hi : XO} (ha : SimR K CA Tb te a) (hl : SimSl K CA Tb tl lo) (hh : SimSl K CA Tb th hi) : SimN K CA Tb (L2.tSl (rSlL K) te tl th) (x3 a lo hi slL) := fun env d env' e H0 M0 pin fps σ H M Q k q => by
  obtain ⟨d1, e1, l, e2, u, h1, h2, h3, h4⟩ := x3_some e
  cases d1 <;> first | (cases h4; done) | skip
  cases h4
  refine ha _ _ _ h1 H0 M0 pin fps σ H M _ k fun x H1 M1 f1 k1 s1 r1 => hl _ _ _ h2 H0 M0 pin f1 σ H1 M1 _ k1 fun H2 M2 f2 k2 s2 => hh _ _ _ h3 H0 M0 pin f2 σ H2 M2 _ k2 fun H3 M3 f3 k3 s3 => ?_
  obtain ⟨p, xs, rfl, g1, g2⟩ := ((r1.same (s2.trans s3)).at k3).lst k3.sub
  refine ⟨p, xs, rfl, SqL.of g1, fun p hp => ?_⟩
  obtain ⟨a1, a2, a3⟩ := newL k3 hp (dqA_cut (lo := l) (hi := u) g2)
  exact q _ _ M3 f3 [p] a1 ((s1.trans s2).trans s3) a2 a3
/-! walks -/
def listD : PyData → Option (List PyData)
  | .list ds => some ds
  | _ => none
def tupD : PyData → Option (List PyData)
  | .tuple ds => some ds
  | _ => none
theorem sim_wL {te : TE} {a : XD} (ha : SimR K CA Tb te a) : SimW K CA Tb (iList K te) (x1 a listD) := fun env d env' e H0 M0 pin fps σ H M Q k q => by
  obtain ⟨d1, h1, h2⟩ := x1_some e
  cases d1 <;> first | (cases h2; done) | skip
  cases h2
  refine ha _ _ _ h1 H0 M0 pin fps σ H M _ k fun x H1 M1 f1 k1 s1 r1 => ?_
  cases r1 with
  | dq r1 =>
    obtain ⟨a, xs, rfl, g1, g2⟩ := dq_lstI r1
    refine ⟨a, rfl, ⟨xs, SqL.of (k1.sub _ _ g1)⟩, q _ H1 M1 f1 k1 s1 ⟨_, _, by rw [← DqAll.len g2]; exact walk_list (xs := xs), fun H M z a b => SqL.of (b _ _ (a _ _ g1)), ?_⟩⟩
    rintro i H M x H' hi z a b ⟨rfl, hx⟩
    obtain ⟨d, e1, e2⟩ := DqAll.getV g2 hx
    exact ⟨M, d, Ext.refl b, e1, Dq.same a e2⟩
  | @own a xs _ g1 g3 g2 =>
    refine ⟨a, rfl, ⟨xs, SqL.of (k1.base _ _ g1 g3)⟩, q _ H1 M1 f1 k1 s1 ⟨_, _, by rw [← DqAll.len g2]; exact walk_list (xs := xs), fun H M z a b => SqL.of (z _ _ g1 g3), ?_⟩⟩
    rintro i H M x H' hi z a b ⟨rfl, hx⟩
    obtain ⟨d, e1, e2⟩ := DqAll.getV g2 hx
    exact ⟨M, d, Ext.refl b, e1, Dq.same a e2⟩
theorem sim_wT {te : TE} {a : XD} (ha : SimR K CA Tb te a) : SimW K CA Tb (iTup K te) (x1 a tupD) := fun env d env' e H0 M0 pin fps σ H M Q k q => by
  obtain ⟨d1, h1, h2⟩ := x1_some e
  cases d1 <;> first | (cases h2; done) | skip
  cases h2
  refine ha _ _ _ h1 H0 M0 pin fps σ H M _ k fun x H1 M1 f1 k1 s1 r1 => ?_
  obtain ⟨a, xs, rfl, g1, g2⟩ := dq_tupI (r1.get rfl)
  refine ⟨a, rfl, ⟨xs, Same.sqT k1.sub g1⟩, q _ H1 M1 f1 k1 s1 ⟨_, _, by rw [← DqAll.len g2]; exact walk_tup (xs := xs), fun H M z a b => Same.sqT b (Same.sqT a g1), ?_⟩⟩
  rintro i H M x H' hi z a b ⟨rfl, hx⟩
  obtain ⟨d, e1, e2⟩ := DqAll.getV g2 hx
  exact ⟨M, d, Ext.refl b, e1, Dq.same a e2⟩
def signsD : PyData → Option (List PyData)
  | .str z => some (z.cps.toList.map encS)
  | _ => none
theorem sim_wS {te : TE} {a : XD} (ha : SimR K CA Tb te a) : SimW K CA Tb (iStr te) (x1 a signsD) := fun env d env' e H0 M0 pin fps σ H M Q k q => by
  obtain ⟨d1, h1, h2⟩ := x1_some e
  cases d1 <;> first | (cases h2; done) | skip
  rename_i z
  cases h2
  refine ha _ _ _ h1 H0 M0 pin fps σ H M _ k fun x H1 M1 f1 k1 s1 r1 => ?_
  rw [dq_str (r1.get rfl)]
  refine ⟨z, rfl, q _ H1 M1 f1 k1 s1 ⟨_, _, by rw [List.length_map, Array.length_toList]; exact walk_str (z := z), fun _ _ _ _ _ => True.intro, ?_⟩⟩
  rintro i H M x H' hi _ a b ⟨rfl, c, e1, rfl⟩
  refine ⟨M, .str ⟨#[c]⟩, Ext.refl b, ?_, .str _⟩
  rw [List.getElem?_map, Array.getElem?_toList, e1]; rfl
theorem wk_of {J : It} {ys : List PyData} {M0 H0 : Hp} (h : Wk K J ys M0) : WkQ K Tb J ys H0 M0 := by
  obtain ⟨G, Y, w, hG, hY⟩ := h
  exact ⟨G, Y, w, fun H M _ a b => hG H M a b, fun i H M x H' hi _ a b y => hY i H M x H' hi a b y⟩
def rng1D : List PyData → Option (List PyData)
  | [.int j] => if decide (-(2 ^ 62) ≤ j ∧ j < 2 ^ 62) = true then some (intsD 0 j.toNat) else none
  | _ => none
def rng2D : List PyData → Option (List PyData)
  | [.int i, .int j] => if decide ((-(2 ^ 62) ≤ i ∧ i < 2 ^ 62) ∧ -(2 ^ 62) ≤ j ∧ j < 2 ^ 62) = true then some (intsD i (j - i).toNat) else none
  | _ => none
theorem sim_wR1 {ta : TA} {a : XA} (ha : SimRA K CA Tb ta a) : SimW K CA Tb (iRng1 ta) (x1 a rng1D) := fun env d env' e H0 M0 pin fps σ H M Q k q => by
  obtain ⟨d1, h1, h2⟩ := x1_some e
  unfold rng1D at h2
  split at h2
  · split at h2
    · rename_i j hj
      cases h2
      have hj := of_decide_eq_true hj
      refine ha _ _ _ h1 H0 M0 pin fps σ H M _ k fun x H1 M1 f1 k1 s1 r1 => ?_
      obtain ⟨v, rfl, hv⟩ := rvA_one r1
      rw [dq_int (hv.get rfl)]
      exact ⟨j, rfl, hj.1, hj.2, q _ H1 M1 f1 k1 s1 (wk_of wk_range)⟩
    · cases h2
  · cases h2
theorem sim_wR2 {ta : TA} {a : XA} (ha : SimRA K CA Tb ta a) : SimW K CA Tb (iRng2 ta) (x1 a rng2D) := fun env d env' e H0 M0 pin fps σ H M Q k q => by
  obtain ⟨d1, h1, h2⟩ := x1_some e
  unfold rng2D at h2
  split at h2
  · split at h2
    · rename_i i j hj
      cases h2
      have hj := of_decide_eq_true hj
      refine ha _ _ _ h1 H0 M0 pin fps σ H M _ k fun x H1 M1 f1 k1 s1 r1 => ?_
      obtain ⟨v, w, rfl, hv, hw⟩ := rvA_two r1
      rw [dq_int (hv.get rfl), dq_int (hw.get rfl)]
      exact ⟨i, j, rfl, ⟨hj.1.1, hj.1.2, hj.2.1, hj.2.2⟩, q _ H1 M1 f1 k1 s1 (wk_of wk_range)⟩
    · cases h2
  · cases h2
theorem wkQ_pair {J : It} {n : Nat} {G : Hp → Prop} {xs ys : Nat → Option V} {ds : List PyData} {H0 M0 : Hp} (w : Walk J n G (YPair xs ys)) (hn : ds.length = n) (hG : ∀ H M, (∀ a o, H0 a = some o → noT Tb a → H a = some o) → Same M0 M → Same M H → G H)
    (h : ∀ i x y, xs i = some x → ys i = some y → ∃ d e, ds[i]? = some (.tuple [d, e]) ∧ Dq K M0 x d ∧ Dq K M0 y e) : WkQ K Tb J ds H0 M0 := by
  refine ⟨G, _, by rw [hn]; exact w, hG, ?_⟩
  rintro i H M x H' hi _ a b ⟨T, u, v, rfl, hT, rfl, e1, e2⟩
  obtain ⟨d, e, h1, h2, h3⟩ := h i u v e1 e2
  have x1 := Ext.laid b (o := .tup [u, v]) hT
  exact ⟨_, _, x1, h1, .tup (SqT.of upd_same) (.cons (Dq.same (a.trans x1.m) h2) (.cons (Dq.same (a.trans x1.m) h3) .nil))⟩
theorem Rv.lstS {M0 H M H0 : Hp} {pin : Nat → V × List Addr} {env : Env} {fps : List (List Addr)} {σ : L2.St} (k : Ok K CA Tb H0 M0 pin env fps σ H M) {v : V} {ds : List PyData} (h : Rv K Tb M H0 v (.list ds)) : ∃ p vs, v = .ref p ∧ H p = some (.lst vs) ∧ DqAll K M vs ds ∧ ∀ H' M', (∀ a o, H0 a = some o → noT Tb a → H' a = some o) → Same M M' → Same M' H' → H' p = some (.lst vs) := by
  cases h with
  | dq h =>
    obtain ⟨p, vs, e, h1, h2⟩ := dq_lstI h
    exact ⟨p, vs, e, k.sub _ _ h1, h2, fun H' M' _ a b => b _ _ (a _ _ h1)⟩
  | own a b c => exact ⟨_, _, rfl, k.base _ _ a b, c, fun H' M' z _ _ => z _ _ a b⟩
def enumD : List PyData → Option (List PyData)
  | [.list ds] => some (enums ds)
  | _ => none
theorem sim_wE {ta : TA} {a : XA} (ha : SimRA K CA Tb ta a) : SimW K CA Tb (iEnum K ta) (x1 a enumD) := fun env d env' e H0 M0 pin fps σ H M Q k q => by
  obtain ⟨d1, h1, h2⟩ := x1_some e
  unfold enumD at h2
  split at h2
  · cases h2
    refine ha _ _ _ h1 H0 M0 pin fps σ H M _ k fun x H1 M1 f1 k1 s1 r1 => ?_
    obtain ⟨v, rfl, hv⟩ := rvA_one r1
    obtain ⟨p, xs, rfl, g1, g2, g3⟩ := hv.lstS k1
    refine ⟨p, xs, rfl, SqL.of g1, q _ H1 M1 f1 k1 s1 (wkQ_pair (walk_enum (xs := xs)) (by rw [enums_len, DqAll.len g2]) (fun H M z a b => SqL.of (g3 H M z a b)) ?_)⟩
    intro i x y e1 e2
    obtain ⟨d, f1, f2⟩ := DqAll.getV g2 e2
    rw [← Option.some.inj e1]
    exact ⟨_, d, enums_get f1, .int _, f2⟩
  · cases h2
def zipD : List PyData → Option (List PyData)
  | [.list ds, .list es] => some (zips ds es)
  | [.tuple ds, .tuple es] => some (zips ds es)
  | _ => none
theorem walk_zipT' {K : PySem.W.Frag} {a b : Addr} {xs ys : List V} {n : Nat} (hn : n = min xs.length ys.length) : Walk (RZ.ItzT K a b) n (fun H => SqT K H a xs ∧ SqT K H b ys) (YPair (fun i => xs[i]?) (fun i => ys[i]?)) := by
  subst hn
  refine ⟨fun i _ hi q => ?_, fun _ q => ⟨xs, ys, q.1, q.2, by omega⟩, fun i H v H' _ q y => ?_⟩
  · have h1 : i < xs.length := by omega
    have h2 : i < ys.length := by omega
    exact ⟨xs, ys, xs[i], ys[i], q.1, q.2, by simp [h1], by simp [h2]⟩
  · obtain ⟨T, x, z, h1, h2, h3, h4, h5⟩ := y
    exact ⟨T, x, z, h1, h2, h3, h4 xs q.1, h5 ys q.2⟩
theorem sim_wZ {ta : TA} {a : XA} (ha : SimRA K CA Tb ta a) : SimW K CA Tb (RZ.iZipA K ta) (x1 a zipD) := fun env d env' e H0 M0 pin fps σ H M Q k q => by
  obtain ⟨d1, h1, h2⟩ := x1_some e
  unfold zipD at h2
  split at h2
  · cases h2
    refine ha _ _ _ h1 H0 M0 pin fps σ H M _ k fun x H1 M1 f1 k1 s1 r1 => ?_
    obtain ⟨v, w, rfl, hv, hw⟩ := rvA_two r1
    obtain ⟨p, xs, rfl, g1, g2, g3⟩ := hv.lstS k1
    obtain ⟨p2, ys, rfl, m1, m2, m3⟩ := hw.lstS k1
    refine ⟨p, p2, xs, ys, rfl, .inl ⟨SqL.of g1, SqL.of m1, q _ H1 M1 f1 k1 s1 (wkQ_pair (walk_zip (xs := xs) (ys := ys) rfl) (by unfold zips; rw [List.length_zipWith, DqAll.len g2, DqAll.len m2]) (fun H M z a b => ⟨SqL.of (g3 H M z a b), SqL.of (m3 H M z a b)⟩) ?_)⟩⟩
    intro i x y e1 e2
    obtain ⟨d, f1, f2⟩ := DqAll.getV g2 e1
    obtain ⟨e, f3, f4⟩ := DqAll.getV m2 e2
    exact ⟨d, e, zips_get f1 f3, f2, f4⟩
  · cases h2
    refine ha _ _ _ h1 H0 M0 pin fps σ H M _ k fun x H1 M1 f1 k1 s1 r1 => ?_
    obtain ⟨v, w, rfl, hv, hw⟩ := rvA_two r1
    obtain ⟨p, xs, rfl, g1, g2⟩ := dq_tupI (hv.get rfl)
    obtain ⟨p2, ys, rfl, m1, m2⟩ := dq_tupI (hw.get rfl)
    refine ⟨p, p2, xs, ys, rfl, .inr ⟨Same.sqT k1.sub g1, Same.sqT k1.sub m1, q _ H1 M1 f1 k1 s1 (wkQ_pair (walk_zipT' (xs := xs) (ys := ys) rfl) (by unfold zips; rw [List.length_zipWith, DqAll.len g2, DqAll.len m2]) (fun H M z a b => ⟨Same.sqT b (Same.sqT a g1), Same.sqT b (Same.sqT a m1)⟩) ?_)⟩⟩
    intro i x y e1 e2
    obtain ⟨d, f1, f2⟩ := DqAll.getV g2 e1
    obtain ⟨e, f3, f4⟩ := DqAll.getV m2 e2
    exact ⟨d, e, zips_get f1 f3, f2, f4⟩
  · cases h2
/-! the script -/
def xScrLen (i : Nat) : XD := fun env => match env[i]? with
  | some (.own (.scr ns)) => some (.int ns.length, env)
  | some (.lent (.scr ns)) => some (.int ns.length, env)
  | _ => none
def xScrIx (i : Nat) (b : XD) : XD := fun env => match env[i]? with
  | some (.lent (.scr ns)) => match b env with
    | some (.int j, e1) => (atI ns j).map fun z => (.int z, e1)
    | _ => none
  | _ => none
theorem scr_at {H0 M0 H M : Hp} {pin : Nat → V × List Addr} {env : Env} {fps : List (List Addr)} {σ : L2.St} (k : Ok K CA Tb H0 M0 pin env fps σ H M) {i : Nat} {ns : List Int} (h : env[i]? = some (.lent (.scr ns))) : ∃ a, σ[i]? = some (some (.ref a)) ∧ SqL K M a (ns.map V.int) := by
  obtain ⟨o, fp, e1, e2, e3, rfl, x⟩ := k.sls.get h
  generalize pin i = w at x e1
  obtain ⟨w1, w2⟩ := w
  cases x with | scr x => exact ⟨_, e1, x⟩
theorem sim_scrLen {i : Nat} : SimD K CA Tb (tCB (fun xs H Q => ∃ p ys, xs = [.ref p] ∧ (SqL K H p ys ∨ SqT K H p ys) ∧ Q (.int ys.length) H) (tCons (tVar i) tNil)) (xScrLen i) := fun env d env' e H0 M0 pin fps σ H M Q k q => by
  unfold xScrLen at e
  split at e
  · rename_i ns h
    cases e
    obtain ⟨o, fp, e1, e2, v, rfl, x⟩ := k.sls.get h
    cases x with | scr x =>
    refine ⟨_, e1, _, _, rfl, .inl (Same.sqL k.sub x), ?_⟩
    rw [List.length_map]; exact q _ H M fps k (Same.refl M) (.int _)
  · rename_i ns h
    cases e
    obtain ⟨a, e1, x⟩ := scr_at k h
    refine ⟨_, e1, _, _, rfl, .inl (Same.sqL k.sub x), ?_⟩
    rw [List.length_map]; exact q _ H M fps k (Same.refl M) (.int _)
  · cases e
theorem at_map {ns : List Int} {j z : Int} (h : atI ns j = some z) : atI (ns.map V.int) j = some (.int z) := by
  unfold atI at h ⊢
  rw [List.length_map]
  cases c : ixN ns.length j with
  | none => rw [c] at h; cases h
  | some n =>
    rw [c] at h
    show (ns.map V.int)[n]? = _
    rw [List.getElem?_map, show ns[n]? = some z from h]; rfl
theorem sim_scrIx {i : Nat} {tb : TE} {b : XD} (hb : SimR K CA Tb tb b) : SimD K CA Tb (tOp (rIxL K) (tVar i) tb) (xScrIx i b) := fun env d env' e H0 M0 pin fps σ H M Q k q => by
  unfold xScrIx at e
  split at e
  · rename_i ns h
    split at e
    · rename_i j e1 h1
      obtain ⟨z, h2, h3⟩ := Option.map_eq_some_iff.mp e
      cases h3
      obtain ⟨a, g1, x⟩ := scr_at k h
      exact ⟨_, g1, hb _ _ _ h1 H0 M0 pin fps σ H M _ k fun y H1 M1 f1 k1 s1 r1 => ⟨a, _, j, _, rfl, dq_int (r1.get rfl), Same.sqL (s1.trans k1.sub) x, at_map h2, q _ H1 M1 f1 k1 s1 (.int _)⟩⟩
    · cases e
  · cases e
end
end Q

/-! ### sets of texts: what they are, adding -/
section
open PySem.Spec PyProof.Rows
def kT (e : Int × Value) : Str := match e.2 with
  | .str k _ => k
  | _ => ⟨#[]⟩
def GoodT (w : World) (e : Int × Value) : Prop := ∃ k tk, e.2 = Value.str k tk ∧ e.1 = hashStr w k
/-- the set of texts at a: L its members, each once, in some order -/
def SetS (w : World) (h : Heap) (a : Addr) (L : List Str) : Prop :=
  ∃ o es ep t, h.get? a = some o ∧ o.ExactSet ∧ o.data = .set es ep t ∧ (∀ e ∈ es.toList, GoodT w e) ∧ L.Nodup ∧ (es.toList.map kT).Perm L ∧
    es.size < scanBound ∧ t.fits es.size = true ∧ Ris t.place.toList ∧ (w.params.followText "set-order" = true ∨ t.led = true)
/-- one more -/
def addS (L : List Str) (k : Str) : List Str := if k ∈ L then L else L ++ [k]
theorem mem_addS {L : List Str} {k x : Str} : x ∈ addS L k ↔ x ∈ L ∨ x = k := by
  unfold addS
  split
  · rename_i h
    exact ⟨.inl, fun z => z.elim id fun e => e ▸ h⟩
  · rw [List.mem_append, List.mem_singleton]
theorem addS_len {L : List Str} {k : Str} : (addS L k).length ≤ L.length + 1 := by
  unfold addS
  split
  · omega
  · rw [List.length_append]; exact Nat.le_refl _
variable {P : Program} {w : World} {h h' : Heap} {a : Addr} {L : List Str}
theorem SetS.at (R : SetS w h a L) (k : ∀ o, h.get? a = some o → h'.get? a = some o) : SetS w h' a L := by
  obtain ⟨o, es, ep, t, ho, r⟩ := R
  exact ⟨o, es, ep, t, k o ho, r⟩
theorem goodT_elems {l : List (Int × Value)} (g : ∀ e ∈ l, GoodT w e) : ElemsOf (strKind P w) l := fun e he => by
  obtain ⟨k, tk, h1, h2⟩ := g e he
  exact ⟨⟨k, by rw [h1]; show Value.isStrOf k (.str k tk) = true; simp [Value.isStrOf], h2⟩, by rw [h1] <;> rfl⟩
theorem goodT_is {e : Int × Value} (g : GoodT w e) (k : Str) : (strKind P w).is k e.2 = true ↔ kT e = k := by
  obtain ⟨k0, tk, h1, _⟩ := g
  unfold kT
  rw [h1]
  show (Value.isStrOf k (.str k0 tk) = true) ↔ k0 = k
  simp [Value.isStrOf]
theorem goodT_mem {l : List (Int × Value)} (g : ∀ e ∈ l, GoodT w e) (k : Str) : k ∈ l.map kT ↔ ∃ e ∈ l, (strKind P w).is k e.2 = true := by
  rw [List.mem_map]
  constructor
  · rintro ⟨e, he, q⟩
    exact ⟨e, he, (goodT_is (g e he) k).2 q⟩
  · rintro ⟨e, he, q⟩
    exact ⟨e, he, (goodT_is (g e he) k).1 q⟩
theorem SetS.size (R : SetS w h a L) : L.length < scanBound := by
  obtain ⟨o, es, ep, t, ho, hex, hd, g, nd, pm, hb, _⟩ := R
  rw [← pm.length_eq, List.length_map, Array.length_toList]
  exact hb
end
section
open PySem.Spec PyProof.Rows
variable {P : Program} {w : World} {A : Around} {E : Value → Shared → Prop} {s : Shared} {a : Addr} {L : List Str}
theorem setS_add_tail {g : Bool → Sem Unit} (hg : ∀ (b : Bool) (s₁ : Shared) (Q' : Unit → Shared → Prop), Q' () s₁ → wpAny (model P w) A (g b) Q' E s₁)
    {o : Obj} {es : Array (Int × Value)} {ep : Nat} {t : SetTable} (ho : s.heap.get? a = some o) (hex : o.ExactSet) (hd : o.data = .set es ep t)
    {es1 : Array (Int × Value)} {t2 : SetTable} {L' : List Str} (g1 : ∀ e ∈ es1.toList, GoodT w e) (nd1 : L'.Nodup) (m1 : (es1.toList.map kT).Perm L')
    (hb1 : es1.size < scanBound) (hf2 : t2.fits es1.size = true) (hr : Ris t2.place.toList) (hl : w.params.followText "set-order" = true ∨ t2.led = true) {wasDummy : Bool} {R : Option Bool → Shared → Prop}
    (hR : ∀ h', Heap.SameBut a s.heap h' → SetS w h' a L' → R (some true) { s with heap := h' }) :
    wpAny (model P w) A (do
        storeSet a es1 t2
        if (!wasDummy && t2.tooFull) = true then do
            g (relayAll t2 es1 (SetTable.grown es1.size)).2.2
            storeSet a (relayAll t2 es1 (SetTable.grown es1.size)).1 (relayAll t2 es1 (SetTable.grown es1.size)).2.1
            pure (some true)
          else pure (some true)) R E s := by
  refine wpAny_bind (wpAny_storeSet_of ho hd ?_ (fits_of_scanBound hb1))
  have ho1 := store_at (es' := es1) (t' := t2) ho hd
  have sb1 := Heap.SameBut.update s.heap a (Obj.putSet es1 t2)
  split
  · have pm := relayAll_perm t2 es1 (SetTable.grown es1.size)
    have hf3 := relayAll_fits t2 es1 (SetTable.grown es1.size)
    have hr3 := relayAll_ris t2 es1 (SetTable.grown es1.size)
    have hl3 := relayAll_led t2 es1 (SetTable.grown es1.size)
    generalize relayAll t2 es1 (SetTable.grown es1.size) = Z at pm hf3 hr3 hl3 ⊢
    obtain ⟨es2, t3, gave⟩ := Z
    dsimp only at pm hf3 hr3 hl3 ⊢
    have hsz : es2.size = es1.size := by rw [← Array.length_toList, pm.length_eq, Array.length_toList]
    have hb2 : es2.size < scanBound := by rw [hsz]; exact hb1
    refine wpAny_bind (hg _ _ _ ?_)
    refine wpAny_bind (wpAny_storeSet_of ho1 rfl ?_ (fits_of_scanBound hb2))
    have ho2 := store_at (es' := es2) (t' := t3) ho1 rfl
    refine wpAny_pure (hR _ (sb1.trans (Heap.SameBut.update _ a _)) ?_)
    exact ⟨_, es2, _, t3, ho2, hex, rfl, fun e he => g1 e (pm.mem_iff.mp he), nd1, (pm.map kT).trans m1, hb2, hf3, hr3,
      hl.imp id fun z => by rw [hl3]; exact z⟩
  · exact wpAny_pure (hR _ sb1 ⟨_, es1, _, t2, ho1, hex, rfl, g1, nd1, m1, hb1, hf2, hr, hl⟩)
theorem setS_add_hashed {k : Str} {tk : Tok} {Q : Bool → Shared → Prop} (R : SetS w s.heap a L) (room : L.length + 1 < scanBound)
    (hQ : ∀ b h', Heap.SameBut a s.heap h' → SetS w h' a (addS L k) → Q b { s with heap := h' }) :
    wpAny (model P w) A (setAddHashed a (.str k tk) ((strKind P w).hash k)) Q E s := by
  obtain ⟨o, es, ep, t, ho, hex, hd, g, nd, pm0, hb, hf, hr, hl⟩ := R
  have hkey : (strKind P w).is k (.str k tk) = true := by show Value.isStrOf k (.str k tk) = true; simp [Value.isStrOf]
  have hsc : (Value.str k tk).scannable = true := rfl
  have hel : ElemsOf (strKind P w) es.toList := goodT_elems g
  have hm : ∀ x, x ∈ L ↔ x ∈ es.toList.map kT := fun x => pm0.mem_iff.symm
  have hn : es.size = L.length := by rw [← pm0.length_eq, List.length_map, Array.length_toList]
  unfold setAddHashed setAddHashedIn
  refine wpAny_holding (wpAny_bind (wpAny_setState_of ho hd hf ?_))
  dsimp only
  rw [byScan_of hsc hb hel]
  simp only [↓reduceIte]
  unfold setAddByScan
  refine wpAny_bind ?_
  refine wpAny_bind (wpAny_rule ?_)
  refine wpAny_bind (wpAny_setScan_of hkey ho hd hf hel ?_)
  cases hfi : List.findIdx? (fun e => (strKind P w).is k e.2) es.toList with
  | some j =>
    dsimp only
    obtain ⟨hj, pj, _⟩ := List.findIdx?_eq_some_iff_getElem.mp hfi
    have hSk : k ∈ L := (hm k).2 ((goodT_mem (P := P) (w := w) g k).2 ⟨es.toList[j], List.getElem_mem hj, pj⟩)
    refine wpAny_pure (wpAny_pure ?_)
    exact hQ _ s.heap (Heap.SameBut.refl a s.heap) (by
      unfold addS
      rw [if_pos hSk]
      exact ⟨o, es, ep, t, ho, hex, hd, g, nd, pm0, hb, hf, hr, hl⟩)
  | none =>
    dsimp only
    have hnk : k ∉ L := fun z => by
      obtain ⟨e, he, q⟩ := (goodT_mem (P := P) (w := w) g k).1 ((hm k).1 z)
      have c := List.findIdx?_eq_none_iff.mp hfi e he
      rw [q] at c
      cases c
    have hgw : ∀ (b : Bool) {s₁ : Shared} {Q' : Unit → Shared → Prop}, Q' () s₁ → wpAny (model P w) A (match b with | true => rule "set.scan.the-table-gave-way" | false => pure ()) Q' E s₁ :=
      fun b s₁ Q' q => by cases b <;> first | exact wpAny_pure q | exact wpAny_rule q
    have pm := layNew_perm t es ((strKind P w).hash k) (.str k tk)
    have hf1 := layNew_fits t es ((strKind P w).hash k) (.str k tk)
    have hr1 := layNew_ris t es ((strKind P w).hash k) (.str k tk) hr
    have hl1 := layNew_led t es ((strKind P w).hash k) (.str k tk)
    generalize layNew t es ((strKind P w).hash k) (.str k tk) = Z at pm hf1 hr1 hl1 ⊢
    obtain ⟨es1, t1, wasDummy, gave⟩ := Z
    dsimp only at pm hf1 hr1 hl1 ⊢
    rw [Array.toList_push] at pm
    have pc : es1.toList.Perm (((strKind P w).hash k, Value.str k tk) :: es.toList) := pm.trans (List.perm_append_singleton _ _)
    have eL : addS L k = L ++ [k] := if_neg hnk
    have pk : (es1.toList.map kT).Perm (addS L k) := by
      rw [eL]
      exact (pc.map kT).trans ((List.Perm.cons k pm0).trans (List.perm_append_singleton _ _).symm)
    have g1 : ∀ e ∈ es1.toList, GoodT w e := fun e he => by
      rcases List.mem_cons.mp (pc.mem_iff.mp he) with z | z
      · rw [z]; exact ⟨k, tk, rfl, rfl⟩
      · exact g e z
    have nd1 : (addS L k).Nodup := by
      rw [eL]
      exact (List.perm_append_singleton k L).nodup_iff.mpr (List.nodup_cons.mpr ⟨hnk, nd⟩)
    have hsz : es1.size = L.length + 1 := by rw [← Array.length_toList, pc.length_eq, List.length_cons, Array.length_toList, hn]
    have hb1 : es1.size < scanBound := by rw [hsz]; exact room
    have hled : w.params.followText "set-order" = true ∨ t1.led = true := hl.imp id fun z => by rw [hl1]; exact z
    refine wpAny_bind (hgw _ ?_)
    split
    · refine wpAny_bind ?_
      rw [hashByValue_scannable 8 hsc]
      refine wpAny_pure ?_
      refine setS_add_tail ?_ ho hex hd g1 nd1 pk hb1 ?_ ?_ ?_ ?_
      · intro b s₁ Q' q; cases b <;> first | exact wpAny_pure q | exact wpAny_rule q
      · first | (split <;> first | exact hf1 | exact SetTable.fits_plain_off hf1) | exact hf1
      · first | (split <;> exact hr1) | exact hr1
      · first | (split <;> exact hled) | exact hled
      · intro h' sb r; dsimp only; exact wpAny_pure (hQ _ h' sb r)
    · refine wpAny_bind (wpAny_pure ?_)
      simp only [↓reduceIte]
      refine setS_add_tail ?_ ho hex hd g1 nd1 pk hb1 hf1 hr1 hled ?_
      · intro b s₁ Q' q; cases b <;> first | exact wpAny_pure q | exact wpAny_rule q
      · intro h' sb r; dsimp only; exact wpAny_pure (hQ _ h' sb r)
/-- found.add(k) -/
theorem setS_add {k : Str} {tk : Tok} {Q : Value → Shared → Prop} (R : SetS w s.heap a L) (room : L.length + 1 < scanBound)
    (hQ : ∀ h', Heap.SameBut a s.heap h' → SetS w h' a (addS L k) → Q .none { s with heap := h', toks := s.toks + 1 }) :
    wpAny (model P w) A (call (.builtin "set.add") [.ref a, .str k tk]) Q E s := by
  have hT : s.TypeIs (.ref a) "set" := by
    obtain ⟨o, es, ep, t, ho, hex, _⟩ := R
    exact ⟨o, ho, hex.1⟩
  have hkey : (strKind P w).is k (.str k tk) = true := by show Value.isStrOf k (.str k tk) = true; simp [Value.isStrOf]
  refine wpAny_call_entry PySem.F.slot_set_add hT PySem.F.entry_set_add ?_ (PySem.F.args_set_add_2 _ _)
  unfold Builtin.«set.add» Builtin.Frozenset.oneOther
  simp only [List.isEmpty_nil, bind_assoc]
  unfold Builtin.Frozenset.addrOf setAdd
  refine wpAny_bind (wpAny_pure ?_)
  try dsimp only
  refine wpAny_bind (wpAny_pure ?_)
  try dsimp only
  refine wpAny_bind ?_
  refine wpAny_holding ?_
  refine wpAny_bind ((strKind P w).pyHash hkey ?_)
  refine setS_add_hashed (s := { s with toks := s.toks + 1 }) R room fun b h' sb r => ?_
  show wpAny _ _ (ret Value.none) _ _ _
  exact wpAny_pure ⟨_, rfl, hQ h' sb r⟩
theorem setS_fresh {h : Heap} (ho : h.get? a = some { cls := .type "set", dict := none, data := .set #[] 0 (.fresh 0 0 (!w.params.followText "set-order")) }) : SetS w h a [] := by
  refine ⟨_, #[], 0, _, ho, ⟨rfl, rfl, rfl⟩, rfl, fun e he => by simp at he, List.nodup_nil, List.Perm.nil, by show 0 < scanBound; unfold scanBound; decide, rfl, List.Pairwise.nil, ?_⟩
  show _ ∨ (!w.params.followText "set-order") = true
  cases w.params.followText "set-order"
  · exact .inr rfl
  · exact .inl rfl
end
/-! ### the set that a comprehension makes of texts -/
section
open PySem.Spec PyProof.Rows
def SetSO (w : World) (a : Addr) (L : List Str) : HO := .ext fun h => SetS w h a L
theorem setSO_new {P : Program} {w : World} {H : Hp} {h : Heap} {a : Addr} {L : List Str} (R : SetS w h a L) : ObjOk P w H h a (SetSO w a L) := by
  have R' := R
  obtain ⟨o, es, ep, t, ho, _⟩ := R'
  exact ⟨R, ⟨o, ho⟩, fun h1 h2 p k => p.at k⟩
variable {X : Cx}
theorem addS_ok {pins : List (Addr × Obj)} {σ : L2.St} {H : Hp} {s : Shared} {E : Value → Shared → Prop} {D : Addr} {k : Str} {tk : Tok} {L : List Str} {Q : Value → Shared → Prop} (I : Inv X pins σ H s) (hD : H D = some (SetSO X.w D L)) (hf : L.length + 1 < scanBound)
    (h : ∀ s', Inv X pins σ (upd H D (SetSO X.w D (addS L k))) s' → Q .none s') : wpAny (model X.prog X.w) X.A (call (.builtin "set.add") [.ref D, .str k tk]) Q E s := by
  have R : SetS X.w s.heap D L := (I.hok D _ hD).1
  refine setS_add R hf fun h' sb R' => ?_
  have R2 := R'
  obtain ⟨o', es', ep', t', ho', _⟩ := R2
  exact h _ (I.write (e := D) (t' := s.toks + 1) (by rw [hD]; trivial) (.inl rfl) (fun b u hb hu => (sb.2 b hb).trans hu) ⟨o', ho'⟩ (setSO_new R'))
end

/-! ### {e for t0 in i0}: a set of texts -/
section
open PySem.Spec PyProof.Rows PpSet
variable {prog : Program} {w : World} {A : Around} {R : Result → Shared → Prop} {s : Shared} {elt t0 i0 : Expr} {scope : Scope} {pos : Pos} {it acc : Value} {env : Env}
abbrev sc1 (elt t0 i0 : Expr) (scope : Scope) (pos : Pos) : Expr := .SetComp elt [⟨t0, i0, [], 0⟩] scope pos
theorem one_loop (I : Nat → Shared → Prop)
    (turn : ∀ n s, I n s → wpAny (model prog w) A (pyNext it) (fun r s₁ => match r with
      | none => R (.ok .next) s₁
      | some v => wpAny (model prog w) A (letOwnedTupleGo t0 it v) (fun _ s₂ => wpAny (model prog w) A (assign t0 env v) (fun _ s₃ =>
          wpAny (model prog w) A (eval elt env) (fun x s₄ => wpAny (model prog w) A (call (.builtin "set.add") [acc, x]) (fun _ s₅ => ∃ m, m < n ∧ I m s₅) (fun _ _ => False) s₄) (fun _ _ => False) s₃) (fun _ _ => False) s₂) (fun _ _ => False) s₁) (fun _ _ => False) s)
    (n : Nat) (h : I n s) : codeAny (model prog w) A (.compLoop (sc1 elt t0 i0 scope pos) 0 it acc env) R s := by
  refine codeAny_loop rfl I (fun n s hI => ?_) n h
  show wpAny _ A ((compTurn (sc1 elt t0 i0 scope pos) 0 it acc env).onRaise (fun x => do noteFrame x env; theTreesLotGoes x)) _ _ s
  refine wpAny_noted ?_
  unfold compTurn
  dsimp only [List.getElem?_cons_zero, List.getElem?_cons_succ, List.getElem?_nil]
  simp only [bne_self_eq_false, Bool.false_eq_true, if_false]
  refine wpAny_bind (wpAny_standAt (wpAny_bind (wpAny_mono (turn n s hI) (fun r s₁ h₁ => ?_) fun _ _ z => z.elim)))
  cases r with
  | none => exact wpAny_pure h₁
  | some v =>
    refine wpAny_bind (wpAny_mono h₁ (fun _ s₂ h₂ => wpAny_bind (wpAny_mono h₂ (fun _ s₃ h₃ => ?_) fun _ _ z => z.elim)) fun _ _ z => z.elim)
    refine wpAny_bind (wpAny_tests_nil ?_)
    exact wpAny_bind (wpAny_bind (wpAny_mono h₃ (fun x s₄ h₄ => wpAny_bind (wpAny_standAt (wpAny_bind (wpAny_mono h₄ (fun _ s₅ h₅ => wpAny_pure (wpAny_pure ⟨rfl, h₅⟩)) fun _ _ z => z.elim)))) fun _ _ z => z.elim))
theorem start_any1 {d : Nat} {g : Comprehension} (hg : (clausesOf (sc1 elt t0 i0 scope pos))[d]? = some g) (ha : g.is_async = 0) (h0 : codeAny (model prog w) A (.compLoop (sc1 elt t0 i0 scope pos) d it acc env) R s)
    (h : wpAny (model prog w) A (pyIter it) (fun it' s' => codeAny (model prog w) A (.compLoop (sc1 elt t0 i0 scope pos) d it' acc env) R s') (notedBy (model prog w) A env fun x s' => R (.error x) s') s) :
    codeAny (model prog w) A (.compStart (sc1 elt t0 i0 scope pos) d it acc env) R s := by
  refine codeAny_of_tree ?_
  show wpAny _ _ ((compStart (sc1 elt t0 i0 scope pos) d it acc env).onRaise (fun x => do noteFrame x env; standAt theWindowsPlace)) _ _ s
  refine wpAny_notedAt ?_
  unfold compStart
  rw [hg]
  refine wp_if_neg (by show ¬ (g.is_async != 0) = true; rw [ha]; decide) ?_
  show wpAny _ _ (ask >>= _) _ _ s
  refine wpAny_bind (wpAny_askSetting (wpAny_ite ?_))
  split
  · first
      | exact wpAny_bind (wpAny_pure (wpAny_pure (And.intro rfl h0)))
      | exact wpAny_pure (And.intro rfl h0)
  · first
      | exact wpAny_bind (wpAny_rule (wpAny_bind (wpAny_standAt (wpAny_bind (wpAny_mono h (fun it' s' h' => wpAny_pure (And.intro rfl h')) fun _ _ x => x)))))
      | (refine wpAny_bind (wpAny_rule ?_); show wpAny _ _ (standAt g.iter.pos >>= _) _ _ s; exact wpAny_bind (wpAny_standAt (wpAny_bind (wpAny_mono h (fun it' s' h' => wpAny_pure (And.intro rfl h')) fun _ _ x => x))))
end
section
open PySem.Spec PyProof.Rows PpSet
/-- the reading of {e for t0 in i0} -/
def tSc1 (w : World) (wi : TI) (g : TG) (te : TE) (vs : List Nat) : TE := fun σ H Q => wi σ H fun J H1 => ∀ D, H1 D = none → ∃ W : Nat → Nat → Hp → Prop, (∃ m, W 0 m (upd H1 D (SetSO w D []))) ∧ ∀ i m H, W i m H →
  (J.stop i H ∧ Q (.ref D) H) ∨ (J.go i H ∧ ∃ Nx : Hp → Prop, (∀ H', Nx H' → ∃ m', m' < m ∧ W (i + 1) m' H') ∧ ∀ x H', J.yld i H x H' → g x (wipe σ vs) H' fun σ3 H5 => wipe σ3 vs = wipe σ vs ∧
        te σ3 H5 fun y H6 => ∃ (k : Str) (L : List Str), y = .str k ∧ H6 D = some (SetSO w D L) ∧ L.length + 1 < scanBound ∧ Nx (upd H6 D (SetSO w D (addS L k))))
variable {X : Cx}
theorem pe_sc1 {elt t0 i0 : Expr} {scope : Scope} {own : List (Str × Nat)} {pos : Pos} {wi : TI} {g : TG} {te : TE} (hc : X.calm = true) (hN : X.N.Nodup) (hi : PI X t0 i0 wi) (ok : BlkOk X.N X.env.scope scope own)
    (hg : ∀ (s : Shared) (H : Hp) (C : Addr) (cl : List (Str × Addr)) (fp : List Addr), PG (X.blk s H scope (compEnvC scope cl C X.env) fp) t0 g)
    (he : ∀ (s : Shared) (H : Hp) (C : Addr) (cl : List (Str × Addr)) (fp : List Addr), PE (X.blk s H scope (compEnvC scope cl C X.env) fp) elt te)
    (hs : ∀ x, foldedSetIterable i0 X.env x = pure x := by intro _; rfl) :
    PE X (.SetComp elt [⟨t0, i0, [], 0⟩] scope pos) (tSc1 X.w wi g te (own.map (·.2))) := by
  refine ⟨fun pins s σ H Q I h => ?_⟩
  rw [eval_SetComp]
  have hfree : ∀ y ∈ scope.names, y.2 = .free → ∃ c, X.env.cells.lookup y.1 = some c := fun y hy e => (ok.free y hy e).elim (fun k => I.ok.has _ (.inl k)) fun k => I.ok.has _ (.inr k)
  refine wpAny_comprehension_free (use := none) rfl hs (closure_ok hfree) ok.kind (fun y hy e => by rw [ok.uniq y hy, e])
    (thn (hi.run pins s σ H _ I h) fun xv s1 hx => thn hx fun itv s2 h2 => ?_)
  obtain ⟨it, fp, tn, J, H2, rfl, I2, T, st2, f2, q⟩ := h2
  refine newSet_ok (newEnv_comp ?_)
  -- the new set
  obtain ⟨D, hD⟩ : ∃ D, s2.heap.objs.size = D := ⟨_, rfl⟩
  rw [hD]
  obtain ⟨W, ⟨m0, w0⟩, turn⟩ := q D (I2.hok.fresh (Nat.le_of_eq hD))
  obtain ⟨s3, hs3⟩ : ∃ s3 : Shared, ({ s2 with heap := s2.heap.push { cls := .type "set", dict := none, data := .set #[] 0 (.fresh 0 0 (!X.w.params.followText "set-order")) } } : Shared) = s3 := ⟨_, rfl⟩
  have e3 : s3.heap = s2.heap.push { cls := .type "set", dict := none, data := .set #[] 0 (.fresh 0 0 (!X.w.params.followText "set-order")) } := by rw [← hs3]
  have I3 : Inv X pins σ (upd H2 D (SetSO X.w D [])) s3 := by
    rw [← hs3]
    refine I2.laid (t' := s2.toks) (fun b o e => Heap.get?_push_of_some _ e) (Nat.le_of_eq hD) ?_
    exact setSO_new (setS_fresh (by rw [← hD]; exact Heap.get?_push_size _ rfl))
  obtain ⟨H3, hH3⟩ : ∃ H3, upd H2 D (SetSO X.w D []) = H3 := ⟨_, rfl⟩
  have f3 : ∀ b ∈ fp, FpOk X pins H3 b ∧ b < s3.heap.objs.size := fun b hb => by
    obtain ⟨o, e, _⟩ := T.obj _ _ st2 b hb
    have hlt := Heap.lt_size e
    refine ⟨⟨?_, (f2 b hb).2⟩, by rw [e3, Heap.size_push]; exact Nat.lt_succ_of_lt hlt⟩
    rw [← hH3, upd_ne (by rw [← hD]; exact Nat.ne_of_lt hlt)]
    exact (f2 b hb).1
  have st3 : tn 0 s3.heap := T.keep _ _ _ st2 fun b _ o e => by rw [e3]; exact Heap.get?_push_of_some _ e
  rw [hH3] at I3 w0
  have I4 := block_start I3 ok hN f3
  have pg := hg s3 H3 s3.heap.objs.size (cellsFrom (s3.heap.objs.size + 1) scope.names (cloFrom X.env.cells scope.names [])) fp
  have pe := he s3 H3 s3.heap.objs.size (cellsFrom (s3.heap.objs.size + 1) scope.names (cloFrom X.env.cells scope.names [])) fp
  rw [hs3]
  show codeAny _ _ (.compStart (sc1 elt t0 i0 scope pos) 0 (.ref it) (.ref D) (compEnvC scope (cellsFrom (s3.heap.objs.size + 1) scope.names (cloFrom X.env.cells scope.names [])) s3.heap.objs.size X.env)) (compPost (model X.prog X.w) X.A X.xe none (EP X pins σ Q) (.ref D) s3.heap.objs.size) { s3 with heap := pushCells (s3.heap.push { cls := .type "dict", data := .dict #[] }) scope.names }
  obtain ⟨ce, hce⟩ : ∃ ce, compEnvC scope (cellsFrom (s3.heap.objs.size + 1) scope.names (cloFrom X.env.cells scope.names [])) s3.heap.objs.size X.env = ce := ⟨_, rfl⟩
  have cL : ce.locals = s3.heap.objs.size := by rw [← hce]; rfl
  rw [hce] at I4 pg pe ⊢
  obtain ⟨s4, hs4⟩ : ∃ s4 : Shared, ({ s3 with heap := pushCells (s3.heap.push { cls := .type "dict", data := .dict #[] }) scope.names } : Shared) = s4 := ⟨_, rfl⟩
  rw [hs4] at I4 ⊢
  have st4 : tn 0 s4.heap := T.keep _ _ _ st3 fun b _ o e => by rw [← hs4]; exact pushCells_keeps _ _ _ _ (Heap.get?_push_of_some _ e)
  obtain ⟨B, hB⟩ : ∃ B : Cx, X.blk s3 H3 scope ce fp = B := ⟨_, rfl⟩
  have own0 : ∀ {σ' : L2.St} {H' : Hp} {s' : Shared}, Inv B [] σ' H' s' → (∀ b ∈ fp, H' b = none) → ∀ b ∈ fp, FpOk B [] H' b := by
    rw [← hB]
    exact fun I' hn b hb => ⟨hn b hb, (I'.ok.exf b hb).1, I'.ok.exfs b hb, .inl hb, fun x c e => (I'.ok.exf b hb).2 x c e, fun p hp => absurd (show p ∈ ([] : List (Addr × Obj)) ++ [] from hp) (by simp)⟩
  -- what a turn leaves, seen from its start
  have back : ∀ {J' : It} {tg : Expr} {fp' : List Addr} {it' : Addr} {tn' : Nat → Heap → Prop} {pins' : List (Addr × Obj)} {i : Nat} {s7 s' : Shared} {σ0 σ9 : L2.St} {H' : Hp}, Turn X.prog X.w X.K tg J' fp' it' tn' → tn' i s7.heap → Inv B (pins' ++ pinsAt fp' s7.heap) σ9 H' s' →
      σ0.length = σ9.length → (∀ (j : Nat) v, σ0[j]? = some (some v) → σ9[j]? = some (some v)) → Inv B pins' σ0 H' s' ∧ tn' i s'.heap ∧ ∀ b ∈ fp', H' b = none := by
    intro J' tg fp' it' tn' pins' i s7 s' σ0 σ9 H' T' t7 I' hl hk
    have pin' : ∀ b ∈ fp', ∀ o, s7.heap.get? b = some o → s'.heap.get? b = some o ∧ H' b = none := fun b hb o e =>
      let z := I'.pin (b, o) (List.mem_append_right _ (List.mem_append_right _ (mem_pinsAt hb e)))
      ⟨z.1, z.2.1⟩
    refine ⟨I'.unpinned.weak hl hk, T'.keep _ _ _ t7 fun b hb o e => (pin' b hb o e).1, fun b hb => ?_⟩
    obtain ⟨o, e, _⟩ := T'.obj _ _ t7 b hb
    exact (pin' b hb o e).2
  have loop : codeAny (model X.prog X.w) X.A (.compLoop (sc1 elt t0 i0 scope pos) 0 (.ref it) (.ref D) ce) (compPost (model X.prog X.w) X.A X.xe none (EP X pins σ Q) (.ref D) s3.heap.objs.size) s4 := by
    refine one_loop (fun n s' => ∃ i H', Inv B [] (wipe σ (own.map (·.2))) H' s' ∧ tn i s'.heap ∧ (∀ b ∈ fp, H' b = none) ∧ W i n H') ?_ m0 ⟨0, H3, by rw [← hB]; exact I4, st4, fun b hb => (f3 b hb).1.1, w0⟩
    rintro n s5 ⟨i, H5, I5, st5, n5, w5⟩
    subst hB
    rcases turn i n H5 w5 with ⟨stop, qq⟩ | ⟨go, Nx, hNx, step⟩
    · refine thnF (T.done (X.blk s3 H3 scope ce fp) rfl rfl rfl hc i [] s5 _ H5 (fun _ _ => False) I5 (own0 I5 n5) st5 stop) fun r s6 ⟨hr, I6⟩ => ?_
      subst hr
      have I7 : Inv X pins σ H5 s6 := I3.call' (ch := fp) I6.os I6.base I6.hok I6.bare fun b hb => ⟨(f3 b hb).1.2.2.2.1, (f3 b hb).1.2.1, (f3 b hb).1.2.2.2.2.1, (f3 b hb).1.2.2.2.2.2⟩
      obtain ⟨m, hn, _⟩ := I6.loc
      have hn : s6.heap.Ns ce.locals m := hn
      have nC : H5 ce.locals = none := I6.free
      rw [cL] at hn nC
      obtain ⟨c0, c1, _, c3, c4, c5⟩ := I3.fpOk (Nat.le_refl _) nC
      exact ⟨m, hn, fun h'' sb => ⟨.ref D, H5, I7.turned (t' := s6.toks) (fun b o hb e => (sb.2 b hb).trans e) c0 c1 c3 c4 c5, rfl, qq⟩⟩
    · refine thnF (T.item (X.blk s3 H3 scope ce fp) rfl rfl rfl hc i [] s5 _ H5 (fun _ _ => False) I5 (own0 I5 n5) st5 go) fun r s6 ⟨u, hr, h6⟩ => ?_
      subst hr
      refine thn h6 fun _ s7 ⟨x, H7, I7, r7, y7, st7, n7⟩ => ?_
      refine thn (pg.run _ s7 _ H7 x u _ (I7.pinned (own0 I7 n7) (T.obj _ _ st7)) r7 (step x H7 y7)) fun _ s8 ⟨σ8, H8, I8, hw8, q8⟩ => ?_
      refine thn (pe.run _ s8 σ8 H8 _ I8 q8) fun z s16 ⟨yv, H16, I16, r16, kk, L, ey, hD16, hf16, nx⟩ => ?_
      subst ey
      obtain ⟨tk, rfl⟩ := r16
      refine addS_ok (X := X.blk s3 H3 scope ce fp) I16 hD16 hf16 fun s17 I17 => ?_
      obtain ⟨m', hm, w'⟩ := hNx _ nx
      obtain ⟨a1, a2, a3⟩ := back (σ0 := wipe σ (own.map (·.2))) T st7 I17 (by rw [← hw8, wipe_length]) (fun j v e => by rw [← hw8] at e; exact (wipe_some e).1)
      exact ⟨m', hm, i + 1, _, a1, a2, a3, w'⟩
  exact start_any1 (g := ⟨t0, i0, [], 0⟩) rfl rfl loop (T.self X.A 0 _ _ _ st4 loop)
end
/-! ### sorted, len of a set of texts -/
section
open PySem.Spec PyProof.Rows PpSet
open PySem.W (EachIs AllAlike Sortable dataLe)
variable {P : Program} {w : World} {A : Around} {E : Value → Shared → Prop} {s : Shared} {X : Cx}
/-- the texts of values -/
def strOf (v : Value) : Str := match v with
  | .str k _ => k
  | _ => ⟨#[]⟩
theorem sorted_s {a : Addr} {L : List Str} {Q : Value → Shared → Prop} (R : SetS w s.heap a L) (hh : A.handled = none) (hu : A.units + 64 < cLine)
    (hQ : ∀ s' p (out : List Value) (c : Nat) (L' : List Str), (∀ b o, s.heap.get? b = some o → s'.heap.get? b = some o) → s'.gens = s.gens → s'.os = s.os → s.heap.objs.size ≤ p → s'.heap.get? p = some (seqObj "list" out.toArray c) → L'.Perm L → out.length = L.length →
      EachIs (fun u d => ∃ k tk, u = Value.str k tk ∧ d = PyData.str k) out ((L'.map PyData.str).mergeSort (dataLe false id)) → Q (.ref p) s') :
    wpAny (model P w) A (call (.builtin "sorted") [.ref a]) Q E s := by
  have hsz := R.size
  obtain ⟨o, es, ep, t, ho, hex, hd, g, nd, pm0, hb, hf, hr, hl⟩ := R
  refine Calls.call_function_entry kind_sorted plain_sorted entry_sorted (args_sorted1 _) ?_
  unfold Builtin.«sorted»
  refine wpAny_bind (m := checkCount "sorted" 1 1 _) (wpAny_pure ?_)
  refine wpAny_bind (collect_set (A := A.in1) hh ⟨o, ho, hex.1, hd⟩ hf hb hr hl fun s1 vs k1 hz g1 o1 pm => ?_)
  have hv : ∀ v ∈ vs, ∃ k tk, v = Value.str k tk := fun v hv => by
    obtain ⟨e, he, q⟩ := List.mem_map.mp (pm.mem_iff.mp hv)
    obtain ⟨k, tk, h1, _⟩ := g e he
    exact ⟨k, tk, by rw [← q]; exact h1⟩
  have pL : (vs.map strOf).Perm L := by
    have q := pm.map strOf
    rw [List.map_map] at q
    refine q.trans ?_
    have e : es.toList.map (strOf ∘ fun x => x.2) = es.toList.map kT := List.map_congr_left fun e he => by
      obtain ⟨k, tk, h1, _⟩ := g e he
      show strOf e.2 = kT e
      unfold strOf kT
      rw [h1]
    rw [e]
    exact pm0
  have hvl : vs.length = L.length := by rw [← pL.length_eq, List.length_map]
  refine wpAny_bind (wpAny_newList ?_ (by rw [hvl, sizeLine_eq]; unfold scanBound at hsz; omega))
  have hoL : (s1.heap.push (seqObj "list" vs.toArray 0)).get? s1.heap.objs.size = some (seqObj "list" vs.toArray 0) := Heap.get?_push_size _ rfl
  have each : ∀ {RR : Value → PyData → Prop}, (∀ k tk, RR (.str k tk) (.str k)) → ∀ l : List Value, (∀ v ∈ l, ∃ k tk, v = Value.str k tk) → EachIs RR l ((l.map strOf).map PyData.str) := fun {RR} h l => by
    induction l with
    | nil => intro _; exact .nil
    | cons v l ih =>
      intro hl
      obtain ⟨k, tk, rfl⟩ := hl v List.mem_cons_self
      exact .cons (h k tk) (ih fun u hu => hl u (List.mem_cons_of_mem _ hu))
  refine wpAny_bind (wpAny_holding (PySem.W.list_sort_data (s := { s1 with heap := s1.heap.push (seqObj "list" vs.toArray 0) }) (bs := (vs.map strOf).map PyData.str) (enc := id) (R := fun u d => ∃ k tk, u = Value.str k tk ∧ d = PyData.str k) hoL (each (fun k tk => ⟨k, tk, rfl, rfl⟩) vs hv)
    (each (fun k tk => ⟨[], .str _ _, fun z => nomatch z⟩) vs hv) ?_ ?_ (by rw [List.length_map, List.length_map, hvl, sizeLine_eq]; unfold scanBound at hsz; omega) (fun b hb => ?_) fun out h1 h2 => ?_))
  · rw [List.map_id]
    intro d hd d' hd'
    obtain ⟨q, _, rfl⟩ := List.mem_map.mp hd
    obtain ⟨q', _, rfl⟩ := List.mem_map.mp hd'
    simp [PySem.W.alike]
  · rw [List.map_id]
    refine .inr fun d hd => ?_
    obtain ⟨q, _, rfl⟩ := List.mem_map.mp hd
    exact ⟨(by intro z; cases z), (by intro xs z; cases z)⟩
  · obtain ⟨q, _, rfl⟩ := List.mem_map.mp hb
    have : (PyData.str q).depth = 0 := by simp [PyData.depth]
    show _ + 1 + (PyData.str q).depth < _
    first
      | omega
      | (show A.units + _ + 1 + (PyData.str q).depth < _; omega)
      | (simp; omega)
  · obtain ⟨c, hc⟩ := sortedHeap_at (vs := vs) (out := out.toArray) hoL
    refine wpAny_pure ⟨_, rfl, hQ _ s1.heap.objs.size out c (vs.map strOf) (fun b u e => ?_) g1 o1 hz hc pL (by rw [h1, List.length_map, List.length_map, hvl]) h2⟩
    have q := k1 b u e
    have hlt := Heap.lt_size q
    show (sortedHeap (s1.heap.push (seqObj "list" vs.toArray 0)) s1.heap.objs.size _ out.toArray).get? b = some u
    rw [sortedHeap_old (Nat.ne_of_lt hlt) (by rw [size_push']; exact Nat.lt_succ_of_lt hlt)]
    exact Heap.get?_push_of_some _ q
def rSortS (w : World) (K : PySem.W.Frag) : List V → Hp → VK → Prop := fun xs H Q => ∃ (a : Addr) (L : List Str), xs = [V.ref a] ∧ H a = some (SetSO w a L) ∧
  ∀ (p : Addr) (vs : List V) (L' : List Str), H p = none → L'.Perm L → L.Nodup → DpAll K H vs ((L'.map PyData.str).mergeSort (dataLe false id)) → Q (.ref p) (upd H p (.lst vs))
theorem cr_sortS1 (hc : X.calm = true) (hu : X.A.units + 64 < cLine) : CallR X (.builtin "sorted") (rSortS X.w X.K) := by
  intro pins s σ H vs us Q I r h
  obtain ⟨a, L, rfl, ha, q⟩ := h
  have R : SetS X.w s.heap a L := (I.hok a _ ha).1
  have nd : L.Nodup := by obtain ⟨_, _, _, _, _, _, _, _, nd, _⟩ := R; exact nd
  have hsz := R.size
  rw [Vals.ref1 r]
  refine sorted_s R (I.ok.hd hc) hu fun s' p out c L' k g o hp hg pm hl he => ?_
  have each : ∀ {us : List Value} {ds : List PyData}, EachIs (fun u d => ∃ k tk, u = Value.str k tk ∧ d = PyData.str k) us ds → ∃ vs, Vals vs us ∧ DpAll X.K H vs ds := fun {us ds} e => by
    induction e with
    | nil => exact ⟨[], .nil, .nil⟩
    | cons h _ ih =>
      obtain ⟨k, tk, rfl, rfl⟩ := h
      obtain ⟨vs, h1, h2⟩ := ih
      exact ⟨.str k :: vs, .cons ⟨tk, rfl⟩ h1, .cons (.str _) h2⟩
  obtain ⟨vs', k1, k2⟩ := each he
  have hlen : vs'.length ≤ sizeLine := by rw [k1.length, hl, sizeLine_eq]; unfold scanBound at hsz; omega
  have hn : H p = none := I.hok.fresh hp
  have J : Inv X pins σ (upd H p (.lst vs')) { s with heap := s'.heap, gens := s'.gens, drawn := s'.drawn, toks := s'.toks } :=
    I.call (ch := []) (Un.laid k hp hn) (I.hok.laid k hp ⟨hlen, out, c, k1, hg⟩) (by rw [g]; exact I.bare) (fun _ z => nomatch z)
  have e : s' = { s with heap := s'.heap, gens := s'.gens, drawn := s'.drawn, toks := s'.toks } := by
    cases s'
    cases s
    cases o
    rfl
  rw [e]
  exact ⟨.ref p, _, J, rfl, q p vs' L' hn pm nd k2⟩
end

/-! ### layer Q: sorted sets of texts -/
namespace Q
open PySem L2 Y
section
open PySem.W (dataLe dataLt dataLt_str)
theorem le_strs {a b : Str} (h1 : dataLe false id (.str a) (.str b) = true) (h2 : dataLe false id (.str b) (.str a) = true) : a = b := by
  have e1 : (!dataLt (.str b) (.str a)) = true := h1
  have e2 : (!dataLt (.str a) (.str b)) = true := h2
  rw [dataLt_str, Bool.not_eq_true'] at e1 e2
  have h1 := of_decide_eq_false e1
  have h2 := of_decide_eq_false e2
  have h3 := List.le_antisymm (List.not_lt.mp h1) (List.not_lt.mp h2)
  cases a
  cases b
  exact congrArg Str.mk (Array.toList_inj.mp h3)
theorem sort_perm_strs {L L' : List Str} (p : L'.Perm L) : (L'.map PyData.str).mergeSort (dataLe false id) = (L.map PyData.str).mergeSort (dataLe false id) := by
  have pw : ∀ l : List Str, ((l.map PyData.str).mergeSort (dataLe false id)).Pairwise fun a b => dataLe false id a b = true := fun l => PySem.W.sort_pairwise (PySem.W.sortLe_total _ false _) (l.map PyData.str)
  refine List.Perm.eq_of_pairwise (le := fun a b => dataLe false id a b = true) (fun a b ha hb h1 h2 => ?_) (pw L') (pw L) ((List.mergeSort_perm _ _).trans ((p.map _).trans (List.mergeSort_perm _ _).symm))
  rw [(List.mergeSort_perm _ _).mem_iff] at ha hb
  obtain ⟨x, _, rfl⟩ := List.mem_map.mp ha
  obtain ⟨y, _, rfl⟩ := List.mem_map.mp hb
  exact congrArg PyData.str (le_strs h1 h2)
end
section
variable {K : PySem.W.Frag} {CA : Str → Addr} {Tb : List Tbl2} {H0 M0 H M H' M' : Hp} {pin : Nat → V × List Addr} {env : Env} {fps : List (List Addr)} {σ : L2.St}
/-- no table, no code object -/
def PlainO (a : Addr) (o : HO) : Prop := (∀ ps, o ≠ .tbl ps) ∧ ∀ q, o ≠ LamX.CodeO a q
theorem plain_set {w : World} {a : Addr} {L : List Str} : PlainO a (SetSO w a L) := by
  refine ⟨(fun ps z => nomatch z), fun q z => ?_⟩
  have e := HO.ext.inj z
  have h := congrFun e (⟨Array.replicate (a + 1) { cls := .none, data := .fields #[.none, .str q 0] }, {}⟩ : Heap)
  have g : (⟨Array.replicate (a + 1) { cls := .none, data := .fields #[.none, .str q 0] }, {}⟩ : Heap).get? a = some { cls := .none, data := .fields #[.none, .str q 0] } := by
    unfold Heap.get?
    rw [show (Array.replicate (a + 1) ({ cls := .none, data := .fields #[.none, .str q 0] } : Obj))[a]? = some { cls := .none, data := .fields #[.none, .str q 0] } by
      rw [Array.getElem?_replicate, if_pos (Nat.lt_succ_self a)]]
  have h2 := cast h.symm ⟨_, #[.none, .str q 0], 0, g, rfl, rfl⟩
  obtain ⟨o, es, ep, t, ho, hex, hd, _⟩ := h2
  rw [g] at ho
  rw [← Option.some.inj ho] at hd
  cases hd
theorem TabsG.but1 {D : Addr} {o0 : HO} (t : TabsG H Tb) (hD : H D = some o0) (hp : PlainO D o0) (h : ∀ a o, H a = some o → a ≠ D → H' a = some o) : TabsG H' Tb := by
  refine ⟨t.1, fun x hx => ?_⟩
  have hx2 := t.2 x hx
  obtain ⟨R, q⟩ := x
  cases q with
  | none =>
    obtain ⟨ps, e, z⟩ := (show GxR.TabG H R from hx2)
    exact (⟨ps, h _ _ e fun z => hp.1 ps (by rw [z, hD] at e; exact Option.some.inj e), z⟩ : GxR.TabG H' R)
  | some q =>
    obtain ⟨ps, e, z, y⟩ := (show LamX.TabS H R q from hx2)
    refine (⟨ps, h _ _ e fun z => hp.1 ps (by rw [z, hD] at e; exact Option.some.inj e), z, fun pos cv hc => ?_⟩ : LamX.TabS H' R q)
    obtain ⟨c, e1, e2⟩ := y pos cv hc
    exact ⟨c, e1, h _ _ e2 fun z => hp.2 q (by rw [z, hD] at e2; exact Option.some.inj e2)⟩
theorem Ok.sideG {D : Addr} {o : HO} (k : Ok K CA Tb H0 M0 pin env fps σ H M) {o0 : HO} (hD : H D = some o0) (hp : PlainO D o0) (h0 : H0 D = none) (hm : M D = none) (hf : D ∉ fps.flatten) : Ok K CA Tb H0 M0 pin env fps σ (upd H D o) M := by
  have ne : ∀ a ∈ fps.flatten, a ≠ D := fun a ha z => hf (by rw [← z]; exact ha)
  refine ⟨fun a u e z => ?_, TabsG.but1 k.tab hD hp (fun a u e n => by rw [upd_ne n]; exact e), k.tab0, fun a u e => ?_, k.mt, k.grow, k.new, ⟨k.sls.le, k.sls.lf, fun i s o' fp h1 h2 h3 => SlOk.mono (Same.refl M) (fun a ha => upd_ne (ne a (mem_flat h3 ha))) (k.sls.at_ i s o' fp h1 h2 h3)⟩, k.nd, fun a ha => ?_, k.pinOk⟩
  · rw [upd_ne (fun z => by rw [z, h0] at e; cases e)]; exact k.base a u e z
  · rw [upd_ne (fun z => by rw [z, hm] at e; cases e)]; exact k.sub a u e
  · obtain ⟨f1, f2, f3⟩ := k.own a ha
    exact ⟨f1, f2, by rw [upd_ne (ne a ha)]; exact f3⟩
theorem Ok.guardG {D : Addr} {o : HO} (k : Ok K CA Tb H0 M0 pin env fps σ H M) (hD : H D = some o) (h0 : H0 D = none) (hf : D ∉ fps.flatten) : Ok K CA Tb (upd H0 D o) M pin env fps σ H M := by
  have up : ∀ a, H0 a ≠ none → upd H0 D o a = H0 a := fun a h => upd_ne fun z => h (by rw [z]; exact h0)
  refine ⟨fun a u e z => ?_, k.tab, fun t ht => by rw [up _ (k.tab0 t ht)]; exact k.tab0 t ht, k.sub, k.mt, Same.refl M, fun _ _ e => .inl e, ⟨k.sls.le, k.sls.lf, fun i s o' fp h1 h2 h3 => ?_⟩, k.nd, fun a ha => ?_, fun i a ha => by rw [up a (k.pinOk i a ha).1]; exact k.pinOk i a ha⟩
  · by_cases c : a = D
    · subst c; rw [upd_same] at e; rw [← Option.some.inj e]; exact hD
    · rw [upd_ne c] at e; exact k.base a u e z
  · have y := k.sls.at_ i s o' fp h1 h2 h3
    cases s with
    | un => exact y
    | own t => exact y
    | arg t => exact y
    | lent t =>
      obtain ⟨y1, y2, y3⟩ := y
      exact ⟨y1, y2, TrOk.mono (Same.refl M) (fun a ha => up a (k.pinOk i a ha).1) y3⟩
  · obtain ⟨f1, f2, f3⟩ := k.own a ha
    exact ⟨by rw [upd_ne (fun z => hf (by rw [← z]; exact ha))]; exact f1, f2, f3⟩
theorem Ok.unguardG {D : Addr} {o : HO} {env' : Env} {fps' : List (List Addr)} {σ' : L2.St} (k : Ok K CA Tb H0 M0 pin env fps σ H M) (hD : H D = some o) (ho : PlainO D o) (h0 : H0 D = none) (hm : M D = none) (k' : Ok K CA Tb (upd H0 D o) M pin env' fps' σ' H' M') : Ok K CA Tb H0 M0 pin env' fps' σ' H' M' ∧ H' D = some o ∧ M' D = none ∧ D ∉ fps'.flatten := by
  have up : ∀ a, H0 a ≠ none → upd H0 D o a = H0 a := fun a h => upd_ne fun z => h (by rw [z]; exact h0)
  have nt : noT Tb D := noT_of k.tab hD fun ps z => ho.1 ps z
  have nn : ∀ a, upd H0 D o a = none → H0 a = none ∧ a ≠ D := fun a e => by
    by_cases c : a = D
    · subst c; rw [upd_same] at e; cases e
    · rw [upd_ne c] at e; exact ⟨e, c⟩
  refine ⟨⟨fun a u e z => k'.base a u (by rw [up a (by rw [e]; exact fun z => nomatch z)]; exact e) z, k'.tab, k.tab0, k'.sub, k'.mt, k.grow.trans k'.grow, fun a u e => ?_, ⟨k'.sls.le, k'.sls.lf, fun i s o' fp h1 h2 h3 => ?_⟩, k'.nd, fun a ha => ?_, k.pinOk⟩, k'.base D o upd_same nt, ?_, fun z => (nn D (k'.own D z).1).2 rfl⟩
  · rcases k'.new a u e with z | z
    · exact k.new a u z
    · exact .inr (nn a z).1
  · have y := k'.sls.at_ i s o' fp h1 h2 h3
    cases s with
    | un => exact y
    | own t => exact y
    | arg t => exact y
    | lent t =>
      obtain ⟨y1, y2, y3⟩ := y
      exact ⟨y1, y2, TrOk.mono (Same.refl M') (fun a ha => (up a (k.pinOk i a ha).1).symm) y3⟩
  · obtain ⟨f1, f2, f3⟩ := k'.own a ha
    exact ⟨(nn a f1).1, f2, f3⟩
  · cases e : M' D with
    | none => rfl
    | some u =>
      rcases k'.new D u e with z | z
      · rw [hm] at z; cases z
      · rw [upd_same] at z; cases z
/-! {e for x in xs} -/
def strsD : List PyData → Option (List Str)
  | [] => some []
  | .str k :: ds => (strsD ds).map (k :: ·)
  | _ :: _ => none
def setS (ks : List Str) : List Str := ks.foldl addS []
def fewS (n : Nat) : Bool := decide (n + 1 < scanBound)
def xSc (src : XA) (tg : XT) (elt : XD) (vs : List Nat) : Env → Option (List Str × Env) := fun env => match src env with
  | some (ds, e1) => if calmX e1 vs = true ∧ fewS ds.length = true then match lcGo tg xYes elt vs ds (wipeX e1 vs) with
    | some (out, e2) => if unX e2 vs = true then (strsD out).map fun ks => (ks, restoreX e1 vs e2) else none
    | none => none else none
  | none => none
theorem Dp.strI1 {K : PySem.W.Frag} {H : Hp} {v : V} {z : Str} (h : Dp K H v (.str z)) : v = .str z := by cases h; rfl
theorem sc_it {w0 : World} {J : It} {n : Nat} {G : Hp → Prop} {Y : Nat → Hp → V → Hp → Prop} (w : Walk J n G Y) {g : TG} {te : TE} {vs : List Nat} {σ : L2.St} {H1 : Hp} {D : Addr} {Qd : Hp → Prop} (Pv : Nat → Hp → Prop) (h0 : Pv 0 (upd H1 D (SetSO w0 D []))) (hG : ∀ i H, i ≤ n → Pv i H → G H)
    (hs : ∀ i x H H', i < n → Pv i H → Y i H x H' → g x (wipe σ vs) H' fun σ2 H2 => wipe σ2 vs = wipe σ vs ∧ te σ2 H2 fun y H4 => ∃ (k : Str) (L : List Str), y = .str k ∧ H4 D = some (SetSO w0 D L) ∧ L.length + 1 < scanBound ∧ Pv (i + 1) (upd H4 D (SetSO w0 D (addS L k)))) (hd : ∀ H, Pv n H → Qd H) :
    ∃ W : Nat → Nat → Hp → Prop, (∃ m, W 0 m (upd H1 D (SetSO w0 D []))) ∧ ∀ i m H, W i m H →
      (J.stop i H ∧ Qd H) ∨ (J.go i H ∧ ∃ Nx : Hp → Prop, (∀ H', Nx H' → ∃ m', m' < m ∧ W (i + 1) m' H') ∧ ∀ x H', J.yld i H x H' → g x (wipe σ vs) H' fun σ2 H2 => wipe σ2 vs = wipe σ vs ∧ te σ2 H2 fun y H4 =>
        ∃ (k : Str) (L : List Str), y = .str k ∧ H4 D = some (SetSO w0 D L) ∧ L.length + 1 < scanBound ∧ Nx (upd H4 D (SetSO w0 D (addS L k)))) := by
  refine ⟨fun i m H => m = n - i ∧ i ≤ n ∧ Pv i H, ⟨n, by simp, Nat.zero_le _, h0⟩, ?_⟩
  rintro i m H ⟨rfl, hi, p⟩
  have q := hG i H hi p
  by_cases hlt : i < n
  · refine .inr ⟨w.goes i H hlt q, Pv (i + 1), fun H' p' => ⟨n - (i + 1), by omega, rfl, hlt, p'⟩, fun x H' y => hs i x H H' hlt p (w.yields i H x H' hlt q y)⟩
  · have e : i = n := by omega
    subst e
    exact .inl ⟨w.stops H q, hd H p⟩
theorem strsD_cons {c : PyData} {r : List PyData} {ks : List Str} (h : strsD (c :: r) = some ks) : ∃ k ks', c = .str k ∧ strsD r = some ks' ∧ ks = k :: ks' := by
  cases c <;> first | (cases h; done) | skip
  obtain ⟨ks', h1, h2⟩ := Option.map_eq_some_iff.mp h
  exact ⟨_, ks', rfl, h1, h2.symm⟩
theorem foldl_addS_len (ks : List Str) : ∀ L : List Str, (ks.foldl addS L).length ≤ L.length + ks.length := by
  induction ks with
  | nil => intro L; exact Nat.le_refl _
  | cons k ks ih =>
    intro L
    have h1 := ih (addS L k)
    have h2 := addS_len (L := L) (k := k)
    rw [List.foldl_cons, List.length_cons]; omega
/-- the set stands at a new address D, apart from all else -/
theorem sim_sc {w : World} {wi : TI} {g : TG} {te : TE} {vs is : List Nat} {src : XA} {tg : XT} {elt : XD} (hw : SimW K CA Tb wi src) (hg : SimTG K CA Tb g tg is) (he : SimD K CA Tb te elt) (hi : ∀ j ∈ is, j ∈ vs) :
    ∀ (env : Env) (ks : List Str) (env' : Env), xSc src tg elt vs env = some (ks, env') → ∀ (H0 M0 : Hp) (pin : Nat → V × List Addr) (fps : List (List Addr)) (σ : L2.St) (H M : Hp) (Q : VK), Ok K CA Tb H0 M0 pin env fps σ H M →
      (∀ D H' M' fps', Ok K CA Tb H0 M0 pin env' fps' σ H' M' → Same M M' → H' D = some (SetSO w D (setS ks)) → H0 D = none → M' D = none → D ∉ fps'.flatten → Q (.ref D) H') → tSc1 w wi g te vs σ H Q := fun env ks env' e H0 M0 pin fps σ H M Q k q => by
  unfold xSc at e
  split at e
  case h_2 => cases e
  rename_i ds e1 h1
  split at e
  case isFalse => cases e
  rename_i hcs
  obtain ⟨hc, hsz⟩ := hcs
  split at e
  case h_2 => cases e
  rename_i out e2 h2
  split at e
  case isFalse => cases e
  rename_i hu
  obtain ⟨ks', hks, hke⟩ := Option.map_eq_some_iff.mp e
  cases hke
  have hsz : ds.length + 1 < scanBound := of_decide_eq_true hsz
  refine hw _ _ _ h1 H0 M0 pin fps σ H M _ k fun J H1 M1 f1 k1 s1 ⟨G, Y, w', hG, hY⟩ => ?_
  intro D hD
  have nD := k1.new_none hD
  obtain ⟨fw, kw, hfw⟩ := k1.wiped vs (calm_lt hc)
  have kx : Ok K CA Tb H0 M1 pin (wipeX e1 vs) fw (wipe σ vs) (upd H1 D (SetSO w D [])) M1 := kw.re.extE ⟨fun a u e => by rw [upd_ne (fun z => by rw [z, hD] at e; cases e)]; exact e, Same.refl M1, fun a u e => by rw [upd_ne (fun z => by rw [z, nD.2.1] at e; cases e)]; exact k1.sub a u e, fun _ _ e => .inl e⟩
  refine sc_it w' (fun i H => ∃ ei f M2 L rest krest, Ok K CA Tb H0 M1 pin ei f (wipe σ vs) H M2 ∧ M2 D = none ∧ D ∉ f.flatten ∧ H D = some (SetSO w D L) ∧ L.length ≤ i ∧ lcGo tg xYes elt vs (ds.drop i) ei = some (rest, e2) ∧ strsD rest = some krest ∧ setS ks = krest.foldl addS L) ?_ ?_ ?_ ?_
  · exact ⟨_, fw, M1, [], out, ks, kx, nD.2.1, fun z => nD.2.2 (hfw D z), upd_same, Nat.le_refl _, h2, hks, rfl⟩
  · rintro i H hi ⟨ei, f, M2, L, rest, krest, k2, _⟩
    exact hG H M2 k2.base k2.grow k2.sub
  · rintro i x H2 H3 hlt ⟨ei, f, M2, L, rest, krest, k2, m2, n2, h2', l2, go, hkr, eo⟩ y
    obtain ⟨M3, d, x3, hd', dv⟩ := hY i H2 M2 x H3 hlt k2.base k2.grow k2.sub y
    rw [List.drop_eq_getElem_cons hlt] at go
    have ed : ds[i] = d := Option.some.inj ((List.getElem?_eq_getElem hlt).symm.trans hd')
    rw [ed] at go
    unfold lcGo at go
    have k3 := k2.extE x3
    have h3' : H3 D = some (SetSO w D L) := x3.h _ _ h2'
    have m3 : M3 D = none := by
      cases c : M3 D with
      | none => rfl
      | some u =>
        rcases x3.n D u c with e | e
        · rw [m2] at e; cases e
        · rw [h2'] at e; cases e
    have kg := k3.guardG h3' nD.1 n2
    split at go
    case h_2 => cases go
    rename_i eb hb
    refine hg _ _ _ hb _ _ _ _ _ _ _ x _ kg dv fun σ4 f4 k4 e4 l4 => ⟨wipe_eq e4 l4 hi, ?_⟩
    unfold xYes at go
    dsimp only at go
    split at go
    case h_2 => cases go
    rename_i c ed2 hdd
    obtain ⟨⟨rest1, e5⟩, go1, go2⟩ := Option.map_eq_some_iff.mp go
    cases go2
    obtain ⟨kk, kr, rfl, hkr1, rfl⟩ := strsD_cons hkr
    refine he _ _ _ hdd _ _ _ _ _ _ _ _ k4 fun yv H6 M6 f6 k6 s6 dy => ?_
    obtain ⟨k7, h7, m7, n7⟩ := k3.unguardG h3' plain_set nD.1 m3 k6
    have lt6 : ∀ v ∈ vs, v < ed2.length := fun v hv => by
      rw [k6.sls.le, l4, wipe_length, ← k1.sls.le]; exact calm_lt hc v hv
    obtain ⟨f8, k8, hf8⟩ := k7.wiped vs lt6
    rw [wipe_eq e4 l4 hi] at k8
    have n8 : D ∉ f8.flatten := fun z => n7 (hf8 D z)
    refine ⟨kk, L, dq_str dy, h7, by omega, wipeX ed2 vs, f8, M6, addS L kk, rest1, kr, k8.sideG h7 plain_set nD.1 m7 n8, m7, n8, upd_same, Nat.le_trans addS_len (by omega), go1, hkr1, eo⟩
  · rintro H2 ⟨ei, f, M2, L, rest, krest, k2, m2, n2, h2', l2, go, hkr, eo⟩
    rw [List.drop_length] at go
    cases go
    cases hkr
    have k3 := k1.unwipe hc k2 (unX_get hu)
    exact q D H2 M2 f k3 (s1.trans k2.grow) (by rw [eo]; exact h2') nD.1 m2 n2
theorem dq_ofStrs {K : PySem.W.Frag} {H M : Hp} : ∀ {vs : List V} {ds : List PyData}, DpAll K H vs ds → (∀ d ∈ ds, ∃ k, d = .str k) → DqAll K M vs ds
  | _, _, .nil, _ => .nil
  | _, _, .cons a b, h => by
    obtain ⟨k, rfl⟩ := h _ List.mem_cons_self
    rw [Dp.strI1 a]
    exact .cons (.str k) (dq_ofStrs b fun d hd => h d (List.mem_cons_of_mem _ hd))
/-- sorted({e for x in xs}) -/
def xSortSc (src : XA) (tg : XT) (elt : XD) (vs : List Nat) : XN := fun env => (xSc src tg elt vs env).map fun p => (.lst (((setS p.1).map PyData.str).mergeSort (PySem.W.dataLe false id)), p.2)
theorem sim_sortSc {w : World} {wi : TI} {g : TG} {te : TE} {vs is : List Nat} {src : XA} {tg : XT} {elt : XD} (hw : SimW K CA Tb wi src) (hg : SimTG K CA Tb g tg is) (he : SimD K CA Tb te elt) (hi : ∀ j ∈ is, j ∈ vs) : SimN K CA Tb (tCB (rSortS w K) (tCons (tSc1 w wi g te vs) tNil)) (xSortSc src tg elt vs) := fun env t env' e H0 M0 pin fps σ H M Q k q => by
  obtain ⟨⟨ks, e1⟩, h1, h2⟩ := Option.map_eq_some_iff.mp e
  cases h2
  show tSc1 w wi g te vs σ H (fun v H1 => rSortS w K [v] H1 Q)
  refine sim_sc hw hg he hi _ _ _ h1 H0 M0 pin fps σ H M _ k fun D H1 M1 f1 k1 s1 hD d0 dm df => ?_
  refine ⟨D, setS ks, rfl, hD, fun p vs' L' hp pm nd dv => ?_⟩
  rw [sort_perm_strs pm] at dv
  have dx : DqAll K M1 vs' (((setS ks).map PyData.str).mergeSort (PySem.W.dataLe false id)) := dq_ofStrs dv fun d hd => by
    rw [(List.mergeSort_perm _ _).mem_iff] at hd
    obtain ⟨x, _, rfl⟩ := List.mem_map.mp hd
    exact ⟨x, rfl⟩
  obtain ⟨a1, a2, a3⟩ := newL k1 hp dx
  exact q _ _ M1 f1 [p] a1 s1 a2 a3
end
end Q

/-! ### sorted(d) of a dict whose keys are tuples -/
section
open PySem.Spec PyProof.Rows
open PySem.W (EachIs AllAlike Sortable dataLe)
def kD : Key → PyData
  | .inl i => .int i
  | .inr x => .str x
def tD (k : List Key) : PyData := .tuple (k.map kD)
theorem dp_keys {K : PySem.W.Frag} {H : Hp} : ∀ k : List Key, DpAll K H (k.map kV) (k.map kD)
  | [] => .nil
  | .inl i :: k => .cons (.int i) (dp_keys k)
  | .inr x :: k => .cons (.str x) (dp_keys k)
theorem reads_keys {h : Heap} : ∀ {k : List Key} {us : List Value}, Vals (k.map kV) us → PySem.ReadsAll h us (k.map kD) []
  | [], _, r => by
    have r' : Vals [] _ := r
    cases r'
    exact .nil
  | .inl i :: k, _, r => by
    have r' : Vals (V.int i :: k.map kV) _ := r
    cases r' with
    | cons h1 h2 =>
      obtain ⟨t, rfl⟩ := h1
      exact .cons (.int _ _) (reads_keys h2)
  | .inr x :: k, _, r => by
    have r' : Vals (V.str x :: k.map kV) _ := r
    cases r' with
    | cons h1 h2 =>
      obtain ⟨t, rfl⟩ := h1
      exact .cons (.str _ _) (reads_keys h2)
inductive KeysAt (H : Hp) : List Addr → List PyData → Prop
  | nil : KeysAt H [] []
  | cons {b : Addr} {k : List Key} {bs : List Addr} {ds : List PyData} : H b = some (.tup (k.map kV)) → KeysAt H bs ds → KeysAt H (b :: bs) (tD k :: ds)
theorem KeysAt.len {H : Hp} {bs : List Addr} {ds : List PyData} (h : KeysAt H bs ds) : bs.length = ds.length := by
  induction h with
  | nil => rfl
  | cons _ _ ih => rw [List.length_cons, List.length_cons, ih]
theorem KeysAt.get {H : Hp} {bs : List Addr} {ds : List PyData} (h : KeysAt H bs ds) : ∀ {i : Nat} {d : PyData}, ds[i]? = some d → ∃ b k, bs[i]? = some b ∧ d = tD k ∧ H b = some (.tup (k.map kV)) := by
  induction h with
  | nil => intro i d h; simp at h
  | cons hb _ ih =>
    intro i d h
    cases i with
    | zero => exact ⟨_, _, rfl, (Option.some.inj h).symm, hb⟩
    | succ i => exact ih (i := i) (by simpa using h)
theorem each_backK {H : Hp} : ∀ {us : List Value} {ds : List PyData}, EachIs (fun u d => ∃ b k, u = Value.ref b ∧ d = tD k ∧ H b = some (.tup (k.map kV))) us ds → ∃ bs : List Addr, us = bs.map Value.ref ∧ KeysAt H bs ds
  | _, _, .nil => ⟨[], rfl, .nil⟩
  | _, _, .cons h t => by
    obtain ⟨b, k, rfl, rfl, hb⟩ := h
    obtain ⟨bs, rfl, h2⟩ := each_backK t
    exact ⟨b :: bs, rfl, .cons hb h2⟩
def rSortDT (K : PySem.W.Frag) : List V → Hp → VK → Prop := fun xs H Q => ∃ (a : Addr) (kvs : List (List Key × V)), xs = [.ref a] ∧ Rd H a (.dT kvs) ∧ kvs.length ≤ 1000000 ∧ AllAlike (kvs.map fun kv => tD kv.1) ∧ Sortable (kvs.map fun kv => tD kv.1) ∧ (∀ kv ∈ kvs, (tD kv.1).depth ≤ 20) ∧
  ∀ (p : Addr) (bs : List Addr), H p = none → KeysAt H bs ((kvs.map fun kv => tD kv.1).mergeSort (dataLe false id)) → Q (.ref p) (upd H p (.lst (bs.map V.ref)))
theorem each_keys2 {K : PySem.W.Frag} {H : Hp} {R : Value → PyData → Prop} (hR : ∀ b k, H b = some (.tup (k.map kV)) → R (.ref b) (tD k)) : ∀ {kvs : List (List Key × V)} {bs : List Addr}, IsKeys H kvs bs → EachIs R (bs.map Value.ref) (kvs.map fun kv => tD kv.1) := by
  intro kvs bs h
  unfold IsKeys at h
  induction h with
  | nil => exact .nil
  | cons h1 _ ih => exact .cons (hR _ _ h1) ih
variable {X : Cx}
theorem cr_sortDT (hc : X.calm = true) (hu : X.A.units + 64 < cLine) : CallR X (.builtin "sorted") (rSortDT X.K) := by
  intro pins s σ H xs us Q I r h
  obtain ⟨d, kvs, rfl, hd, hl0, hal, hso, hdep, q⟩ := h
  obtain ⟨u, rfl, rx⟩ := r.one
  cases rx
  obtain ⟨z, hs, ks, pr, o, es, ep, ho, hx, hdt, he, hn⟩ := (show ObjOk X.prog X.w H s.heap d (.dT kvs) from hd.ok I.hok)
  have l1 : es.size = ks.length := size_of_entries he
  have l2 : kvs.length = ks.length := Paired.length pr
  refine Calls.call_function_entry kind_sorted plain_sorted entry_sorted (args_sorted1 _) ?_
  unfold Builtin.«sorted»
  refine wpAny_bind (m := checkCount "sorted" 1 1 _) (wpAny_pure ?_)
  refine wpAny_bind (PySem.W.kdu_collect (A := X.A.in1) (kdl_raw hs hx hdt) (I.ok.hd hc) ho (by omega) fun h' tk acc kp it => ?_)
  have ea : acc.toList = (ks.map fun x => x.2.1).map Value.ref := by
    have hl : acc.toList.length = ks.length := by rw [Array.length_toList, it.1]; exact l1
    rw [List.map_map]
    apply List.ext_getElem?
    intro j
    rw [List.getElem?_map]
    cases hj : acc.toList[j]? with
    | none =>
      have h1 := List.getElem?_eq_none_iff.mp hj
      rw [List.getElem?_eq_none (by omega)]
      all_goals rfl
    | some v =>
      obtain ⟨en, hen, hv⟩ := it.2 j v (by rw [← Array.getElem?_toList]; exact hj)
      have qe := entry_at he j
      rw [hen] at qe
      cases hb : ks[j]? with
      | none =>
        rw [hb] at qe
        exact nomatch (show some en = none from qe)
      | some b =>
        rw [hb] at qe
        have e2 : en = entryOfKey (tupleKind (mixKind X.prog X.w)) b := Option.some.inj qe
        rw [hv, e2]
        all_goals rfl
  have hI : IsKeys H kvs (ks.map fun x => x.2.1) := isKeys_of pr
  have hvl : acc.toList.length = kvs.length := by rw [ea, List.length_map, List.length_map, l2]
  have I1 : Inv X pins σ H { s with heap := h', toks := tk } := I.kept kp
  refine wpAny_bind (wpAny_newList ?_ (by rw [hvl, sizeLine_eq]; omega))
  have hoL : (h'.push (seqObj "list" acc.toList.toArray 0)).get? h'.objs.size = some (seqObj "list" acc.toList.toArray 0) := Heap.get?_push_size _ rfl
  show wpAny _ _ _ _ _ { s with heap := h'.push (seqObj "list" acc.toList.toArray 0), toks := tk }
  refine wpAny_bind (wpAny_holding (PySem.W.list_sort_data (s := { s with heap := h'.push (seqObj "list" acc.toList.toArray 0), toks := tk }) (bs := kvs.map fun kv => tD kv.1) (enc := id) (R := fun u d => ∃ b k, u = Value.ref b ∧ d = tD k ∧ H b = some (.tup (k.map kV))) hoL
    (by rw [ea]; exact each_keys2 (K := X.K) (fun b k hb => ⟨b, k, rfl, rfl, hb⟩) hI)
    (by
      rw [ea]
      refine each_keys2 (K := X.K) (fun b k hb => ?_) hI
      obtain ⟨_, its, r, o, h1, h2, n, h3⟩ := (show ObjOk X.prog X.w H h' b (.tup (k.map kV)) from I1.hok b _ hb)
      exact ⟨[], .tuple (Heap.get?_push_of_some _ h1) h2 h3 (reads_keys (by simpa using r)), fun z => nomatch z⟩)
    (by rw [List.map_id]; exact hal) (by rw [List.map_id]; exact hso) (by rw [List.length_map, sizeLine_eq]; omega) (fun b hb => ?_) fun out h1 h2 => ?_))
  · obtain ⟨kv, hkv, rfl⟩ := List.mem_map.mp hb
    have := hdep kv hkv
    show _ + 1 + (tD kv.1).depth < _
    first
      | omega
      | (show X.A.units + _ + 1 + (tD kv.1).depth < _; omega)
  · obtain ⟨c, hc⟩ := sortedHeap_at (vs := acc.toList) (out := out.toArray) hoL
    obtain ⟨bs, rfl, k2⟩ := each_backK h2
    have hlen : (bs.map V.ref).length = kvs.length := by rw [List.length_map, k2.len, List.length_mergeSort, List.length_map]
    refine wpAny_pure ⟨_, rfl, .ref h'.objs.size, upd H h'.objs.size (.lst (bs.map V.ref)), I1.laid (t' := tk) (fun b u e => ?_) (Nat.le_refl _)
      (show ObjOk X.prog X.w _ _ _ (.lst (bs.map V.ref)) from ⟨by rw [hlen, sizeLine_eq]; omega, bs.map Value.ref, c, vals_refs bs, hc⟩), rfl, q _ _ (I1.hok.fresh (Nat.le_refl _)) k2⟩
    have hb : b < h'.objs.size := Heap.lt_size e
    rw [sortedHeap_old (Nat.ne_of_lt hb) (by rw [size_push']; exact Nat.lt_succ_of_lt hb)]
    exact Heap.get?_push_of_some _ e
end

/-! ### layer Q: dicts whose keys are tuples of ints and texts -/
namespace Q
open PySem L2 Y
open PySem.W (dataLe AllAlike Sortable)
section
variable {K : PySem.W.Frag} {CA : Str → Addr} {Tb : List Tbl2} {H0 M0 H M H' M' : Hp} {pin : Nat → V × List Addr} {env : Env} {fps : List (List Addr)} {σ : L2.St}
def xNewT : XN := fun env => some (.dtu [], env)
def xNewK : XN := fun env => some (.dic [], env)
theorem sim_newT : SimN K CA Tb tDNewT xNewT := fun env t env' e H0 M0 pin fps σ H M Q k q => by
  cases e
  intro p hp
  have mp := none_of k.sub hp
  refine q (.ref p) (upd H p (.dT [])) M fps [p] (k.extE ⟨fun a u e => ?_, Same.refl M, fun a u e => ?_, fun _ _ e => .inl e⟩) (Same.refl M) (.dtu upd_same .nil) (k.fresh1 hp mp)
  · rw [upd_ne (fun z => by rw [z, hp] at e; cases e)]; exact e
  · rw [upd_ne (fun z => by rw [z, mp] at e; cases e)]; exact k.sub a u e
theorem sim_newK : SimN K CA Tb tDNewK xNewK := fun env t env' e H0 M0 pin fps σ H M Q k q => by
  cases e
  intro p hp
  have mp := none_of k.sub hp
  refine q (.ref p) (upd H p (.dK [])) M fps [p] (k.extE ⟨fun a u e => ?_, Same.refl M, fun a u e => ?_, fun _ _ e => .inl e⟩) (Same.refl M) (.dic upd_same .nil) (k.fresh1 hp mp)
  · rw [upd_ne (fun z => by rw [z, hp] at e; cases e)]; exact e
  · rw [upd_ne (fun z => by rw [z, mp] at e; cases e)]; exact k.sub a u e
def keysK : List PyData → Option (List Key)
  | [] => some []
  | .int i :: ds => (keysK ds).map (.inl i :: ·)
  | .str z :: ds => (keysK ds).map (.inr z :: ·)
  | _ :: _ => none
theorem keysK_val : ∀ {ds : List PyData} {k : List Key} {vs : List V}, keysK ds = some k → DqAll K M vs ds → vs = k.map kV
  | [], _, _, h, dv => by cases h; cases dv; rfl
  | .int i :: ds, _, _, h, dv => by
    obtain ⟨k', h1, rfl⟩ := Option.map_eq_some_iff.mp h
    cases dv with | cons a b => rw [dq_int a, keysK_val h1 b]; rfl
  | .str z :: ds, _, _, h, dv => by
    obtain ⟨k', h1, rfl⟩ := Option.map_eq_some_iff.mp h
    cases dv with | cons a b => rw [dq_str a, keysK_val h1 b]; rfl
  | .none :: _, _, _, h, _ => by cases h
  | .bool _ :: _, _, _, h, _ => by cases h
  | .list _ :: _, _, _, h, _ => by cases h
  | .tuple _ :: _, _, _, h, _ => by cases h
  | .dict _ :: _, _, _, h, _ => by cases h
theorem KtOk.len {ds : List (List Key × PyData)} {vs : List (List Key × V)} (h : KtOk K M ds vs) : vs.length = ds.length := by
  induction h with
  | nil => rfl
  | cons _ _ ih => rw [List.length_cons, List.length_cons, ih]
def putD (kvs : List (List Key × PyData)) (k : List Key) (d : PyData) : List (List Key × PyData) :=
  if (kvs.any fun kv => decide (kv.1 = k)) = true then kvs.map (fun kv => if kv.1 = k then (kv.1, d) else kv) else kvs ++ [(k, d)]
def valD (kvs : List (List Key × PyData)) (k : List Key) : Option PyData := (kvs.find? fun kv => decide (kv.1 = k)).map (·.2)
theorem KtOk.any {ds : List (List Key × PyData)} {vs : List (List Key × V)} (h : KtOk K M ds vs) (k : List Key) : (vs.any fun kv => decide (kv.1 = k)) = (ds.any fun kv => decide (kv.1 = k)) := by
  induction h with
  | nil => rfl
  | cons _ _ ih => rw [List.any_cons, List.any_cons, ih]
theorem KtOk.app {ds ds' : List (List Key × PyData)} {vs vs' : List (List Key × V)} (h : KtOk K M ds vs) (h' : KtOk K M ds' vs') : KtOk K M (ds ++ ds') (vs ++ vs') := by
  induction h with
  | nil => exact h'
  | cons a _ ih => exact .cons a ih
theorem KtOk.mapPut {ds : List (List Key × PyData)} {vs : List (List Key × V)} (h : KtOk K M ds vs) {k : List Key} {v : V} {d : PyData} (dv : Dq K M v d) : KtOk K M (ds.map fun kv => if kv.1 = k then (kv.1, d) else kv) (vs.map fun kv => if kv.1 = k then (kv.1, v) else kv) := by
  induction h with
  | nil => exact .nil
  | @cons k0 d0 v0 ds vs a _ ih =>
    rw [List.map_cons, List.map_cons]
    by_cases c : k0 = k
    · have e1 : (if (k0, d0).1 = k then ((k0, d0).1, d) else (k0, d0)) = (k0, d) := if_pos c
      have e2 : (if (k0, v0).1 = k then ((k0, v0).1, v) else (k0, v0)) = (k0, v) := if_pos c
      rw [e1, e2]; exact .cons dv ih
    · have e1 : (if (k0, d0).1 = k then ((k0, d0).1, d) else (k0, d0)) = (k0, d0) := if_neg c
      have e2 : (if (k0, v0).1 = k then ((k0, v0).1, v) else (k0, v0)) = (k0, v0) := if_neg c
      rw [e1, e2]; exact .cons a ih
theorem KtOk.put {ds : List (List Key × PyData)} {vs : List (List Key × V)} (h : KtOk K M ds vs) {k : List Key} {v : V} {d : PyData} (dv : Dq K M v d) : KtOk K M (putD ds k d) (putK vs k v) := by
  unfold putD putK
  rw [h.any]
  split
  · exact h.mapPut dv
  · exact h.app (.cons dv .nil)
theorem KtOk.val {ds : List (List Key × PyData)} {vs : List (List Key × V)} (h : KtOk K M ds vs) {k : List Key} {d : PyData} (hd : valD ds k = some d) : ∃ v, valV vs k = some v ∧ Dq K M v d := by
  induction h with
  | nil => cases hd
  | @cons k0 d0 v0 ds vs a _ ih =>
    unfold valD at hd
    rw [List.find?_cons] at hd
    by_cases c : k0 = k
    · rw [show decide ((k0, d0).1 = k) = true from decide_eq_true c] at hd
      cases hd
      exact ⟨v0, valV_pos (p := (k0, v0)) c, a⟩
    · rw [show decide ((k0, d0).1 = k) = false from decide_eq_false c] at hd
      obtain ⟨v, h1, h2⟩ := ih hd
      exact ⟨v, by rw [valV_neg (p := (k0, v0)) c]; exact h1, h2⟩
/-- d[k1, ..] = e, d a name -/
def xDPutT (i : Nat) (ka : XA) (v : XD) : XS := fun env => match v env with
  | some (d, e1) => match plMut i [] e1 with
    | some (_, _, .dtu _) => match ka e1 with
      | some (ds, e2) => match plMut i [] e2, keysK ds with
        | some (s, tr, .dtu kvs), some k => if shortB (ds.length + kvs.length + 1) = true then some (.nx (e2.set i (s.put (tr.put [] (.dtu (putD kvs k d)))))) else none
        | _, _ => none
      | none => none
    | _ => none
  | none => none
theorem sim_dputT {ta : TA} {tv : TE} {i : Nat} {ka : XA} {v : XD} (ha : SimA K CA Tb ta ka) (hv : SimD K CA Tb tv v) : SimS K CA Tb (sDPut (tVar i) (tTup ta) tv) (xDPutT i ka v) := fun env o e H0 M0 pin fps σ H M D k q => by
  unfold xDPutT at e
  split at e
  case h_2 => cases e
  rename_i d e1 h1
  split at e
  case h_2 => cases e
  rename_i s0 tr0 kv0 h2
  split at e
  case h_2 => cases e
  rename_i ds e2 h3
  split at e
  case h_2 => cases e
  rename_i s tr kvs key h4 h5
  split at e
  case isFalse => cases e
  rename_i hl
  cases e
  have hl : ds.length + kvs.length + 1 ≤ sizeLine := of_decide_eq_true hl
  refine hv _ _ _ h1 H0 M0 pin fps σ H M _ k fun v H1 M1 f1 k1 s1 dv => ?_
  obtain ⟨g1, g2, g3⟩ := plMut_some h2
  obtain ⟨v0, v1, p1, fp, n1, n2, n3, n4, n5, n6, _⟩ := k1.mut g1 g2 g3
  obtain rfl : v0 = v1 := n2
  refine ⟨v0, n1, ha _ _ _ h3 H0 M0 pin f1 σ H1 M1 _ k1 fun xs H2 M2 f2 k2 s2 dx => ⟨by rw [DqAll.len dx]; omega, fun b hb => ?_⟩⟩
  have x3 := Ext.laid (o := .tup xs) k2.sub hb
  have k3 := k2.extE x3
  obtain ⟨g4, g5, g6⟩ := plMut_some h4
  obtain ⟨u0, u1, p2, fp2, m1, m2, m3, m4, m5, m6, m7⟩ := k3.mut g4 g5 g6
  obtain rfl : u0 = u1 := m2
  rw [n1] at m1
  obtain rfl : v0 = u0 := Option.some.inj (Option.some.inj m1)
  cases m3 with
  | @dtu _ p vs ap bp =>
  have hk : xs = key.map kV := keysK_val h5 dx
  have hlv : vs.length = kvs.length := bp.len
  have own := k3.own p (mem_flat m4 (m5 p (List.mem_singleton.mpr rfl)))
  refine ⟨p, _, rfl, DPut.t (b := b) ap (by rw [← hk]; exact upd_same) (by omega), ?_⟩
  have np : noT Tb p := noT_of k3.tab ap fun ps z => nomatch z
  obtain ⟨fp', k4, _⟩ := m7 (upd M2 b (.tup xs)) (upd (upd H2 b (.tup xs)) p (.dT (putK vs key v))) (.dtu (putD kvs key d)) [p] ⟨fun a u e n _ => by rw [upd_ne (fun z => n (List.mem_singleton.mpr z))]; exact e, TabsG.but (fp := [p]) k3.tab (fun a ha => by rw [List.mem_singleton.mp ha]; exact ⟨_, ap, trivial⟩) (fun a u e n => by rw [upd_ne (fun z => n (List.mem_singleton.mpr z))]; exact e), Same.refl _, fun a u e => by rw [upd_ne (fun z => by rw [z, own.2.1] at e; cases e)]; exact k3.sub a u e, fun _ _ e => .inl e, k3.mt⟩ (.dtu upd_same (bp.put (Dq.same (s2.trans x3.m) dv))) (List.pairwise_singleton _ _) (fun a ha => by
    rw [List.mem_singleton.mp ha]
    exact ⟨.inl (List.mem_singleton.mpr rfl), own.2.1, by rw [upd_same]; exact fun z => nomatch z⟩)
  exact q _ σ _ _ k4
/-! [d[x] for x in sorted(d)] -/
theorem kD_inj : ∀ {a b : Key}, kD a = kD b → a = b
  | .inl _, .inl _, h => by cases h; rfl
  | .inr _, .inr _, h => by cases h; rfl
  | .inl _, .inr _, h => by cases h
  | .inr _, .inl _, h => by cases h
theorem kDs_inj : ∀ {a b : List Key}, a.map kD = b.map kD → a = b
  | [], [], _ => rfl
  | [], _ :: _, h => by cases h
  | _ :: _, [], h => by cases h
  | x :: xs, y :: ys, h => by
    obtain ⟨h1, h2⟩ := List.cons.inj h
    rw [kD_inj h1, kDs_inj h2]
theorem tD_inj {a b : List Key} (h : tD a = tD b) : a = b := kDs_inj (PyData.tuple.inj h)
def kdK : Key → Bool
  | .inl _ => false
  | .inr _ => true
theorem alike_keys : ∀ a b : List Key, a.map kdK = b.map kdK → PySem.W.alikeAll (a.map kD) (b.map kD) = true
  | [], [], _ => by simp [PySem.W.alikeAll]
  | [], _ :: _, h => by cases h
  | _ :: _, [], h => by cases h
  | x :: xs, y :: ys, h => by
    obtain ⟨h1, h2⟩ := List.cons.inj h
    rw [List.map_cons, List.map_cons, PySem.W.alikeAll, alike_keys xs ys h2, Bool.and_true]
    cases x <;> cases y <;> first | (cases h1; done) | simp [kD, PySem.W.alike]
theorem depth_keys : ∀ a : List Key, PyData.depthAll (a.map kD) = 0
  | [] => by simp [PyData.depthAll]
  | x :: xs => by
    rw [List.map_cons, PyData.depthAll, depth_keys xs]
    cases x <;> simp [kD, PyData.depth]
/-- keys that are alike -/
def alikeB (kvs : List (List Key × PyData)) : Bool := kvs.all fun a => (!a.1.isEmpty) && kvs.all fun b => decide (a.1.map kdK = b.1.map kdK)
theorem depth_tD (k : List Key) : (tD k).depth ≤ 20 := by
  show (PyData.tuple (k.map kD)).depth ≤ 20
  rw [PyData.depth, depth_keys]; omega
theorem alikeB_use {kvs : List (List Key × PyData)} (h : alikeB kvs = true) : AllAlike (kvs.map fun kv => tD kv.1) ∧ Sortable (kvs.map fun kv => tD kv.1) ∧ ∀ kv ∈ kvs, (tD kv.1).depth ≤ 20 := by
  refine ⟨fun d hd d' hd' => ?_, .inl fun d hd => ?_, fun kv _ => ?_⟩
  · obtain ⟨a, ha, rfl⟩ := List.mem_map.mp hd
    obtain ⟨b, hb, rfl⟩ := List.mem_map.mp hd'
    have h1 := List.all_eq_true.mp h a ha
    rw [Bool.and_eq_true] at h1
    have h2 := of_decide_eq_true (List.all_eq_true.mp h1.2 b hb)
    show PySem.W.alike (.tuple (a.1.map kD)) (.tuple (b.1.map kD)) = true
    rw [PySem.W.alike]
    exact alike_keys _ _ h2
  · obtain ⟨a, ha, rfl⟩ := List.mem_map.mp hd
    have h1 := List.all_eq_true.mp h a ha
    rw [Bool.and_eq_true] at h1
    unfold tD
    cases hk : a.1 with
    | nil => rw [hk] at h1; exact absurd h1.1 (by decide)
    | cons x xs => exact ⟨_, _, rfl⟩
  · show (PyData.tuple (kv.1.map kD)).depth ≤ 20
    rw [PyData.depth, depth_keys]; omega
theorem KtOk.keys {ds : List (List Key × PyData)} {vs : List (List Key × V)} (h : KtOk K M ds vs) : (vs.map fun kv => tD kv.1) = ds.map fun kv => tD kv.1 := by
  induction h with
  | nil => rfl
  | cons _ _ ih => rw [List.map_cons, List.map_cons, ih]
def byKey (kvs : List (List Key × PyData)) : List (List Key × PyData) := kvs.mergeSort fun a b => dataLe false id (tD a.1) (tD b.1)
theorem byKey_keys (kvs : List (List Key × PyData)) : (kvs.map fun kv => tD kv.1).mergeSort (dataLe false id) = (byKey kvs).map fun kv => tD kv.1 := by
  unfold byKey
  exact (List.map_mergeSort (f := fun kv : List Key × PyData => tD kv.1) (s := dataLe false id) fun _ _ _ _ => rfl).symm
def valsBy (kvs : List (List Key × PyData)) : List PyData := (byKey kvs).map fun kv => (valD kvs kv.1).getD .none
theorem valD_mem {kvs : List (List Key × PyData)} {kv : List Key × PyData} (h : kv ∈ kvs) : ∃ d, valD kvs kv.1 = some d := by
  cases c : valD kvs kv.1 with
  | some d => exact ⟨d, rfl⟩
  | none =>
    unfold valD at c
    rw [Option.map_eq_none_iff, List.find?_eq_none] at c
    exact absurd (decide_eq_true rfl) (c kv h)
theorem ite_t {A B : Prop} (h : A) : if true = true then A else B := by rw [if_pos rfl]; exact h
def xVals (i j : Nat) : XN := fun env => match plMut i [] env with
  | some (_, _, .dtu kvs) => if (alikeB kvs && decide (kvs.length ≤ 1000000) && calmX env [j]) = true then some (.lst (valsBy kvs), env) else none
  | _ => none
theorem sim_vals {i j : Nat} : SimN K CA Tb (tLc (iList K (tCB (rSortDT K) (tCons (tVar i) tNil))) (gName j) tYes (tDGet (tVar i) (tVar j)) [j]) (xVals i j) := fun env t env' e H0 M0 pin fps σ H M Q k q => by
  unfold xVals at e
  split at e
  case h_2 => cases e
  rename_i s0 tr0 kvs h1
  split at e
  case isFalse => cases e
  rename_i hc
  cases e
  rw [Bool.and_eq_true, Bool.and_eq_true] at hc
  obtain ⟨⟨hal, hln⟩, hcalm⟩ := hc
  have hln := of_decide_eq_true hln
  obtain ⟨g1, g2, g3⟩ := plMut_some h1
  obtain ⟨v0, v1, p1, fp, n1, n2, n3, n4, n5, n6, _⟩ := k.mut g1 g2 g3
  obtain rfl : v0 = v1 := n2
  cases n3 with
  | @dtu _ p vs ap bp =>
  obtain ⟨a1, a2, a3⟩ := alikeB_use hal
  refine ⟨_, n1, p, vs, rfl, .inl ap, by rw [bp.len]; exact hln, by rw [bp.keys]; exact a1, by rw [bp.keys]; exact a2, fun kv hkv => ?_, fun P bs hP hks => ⟨P, rfl, ⟨_, SqL.of upd_same⟩, fun D hD => ?_⟩⟩
  · exact depth_tD kv.1
  have hne : i ≠ j := fun z => by
    subst z
    have h := List.all_eq_true.mp hcalm i List.mem_cons_self
    rw [g1] at h
    have e3 : tr0 = .dtu kvs := Option.some.inj g3
    subst e3
    cases s0 with
    | un => cases g2
    | own t => cases g2; cases h
    | arg t => cases h
    | lent t => cases h
  have hj : j < σ.length := by rw [← k.sls.le]; exact calm_lt hcalm j List.mem_cons_self
  rw [bp.keys, byKey_keys] at hks
  have hDP : D ≠ P := fun z => by rw [z, upd_same] at hD; cases hD
  have hD0 : H D = none := by rw [upd_ne hDP] at hD; exact hD
  have keep : ∀ (acc : List V) (a : Addr) (o : HO), H a = some o → (upd (upd H P (.lst (bs.map V.ref))) D (.lst acc)) a = some o := fun acc a o e => by
    rw [upd_ne (fun z => by rw [z, hD0] at e; cases e), upd_ne (fun z => by rw [z, hP] at e; cases e)]; exact e
  have lb : bs.length = (valsBy kvs).length := by rw [hks.len, List.length_map]; unfold valsBy; rw [List.length_map]
  have lv : (valsBy kvs).length = kvs.length := by unfold valsBy byKey; rw [List.length_map, List.length_mergeSort]
  have mp := none_of k.sub hP
  have k1 : Ok K CA Tb H0 M0 pin env fps σ (upd H P (.lst (bs.map V.ref))) M := k.extE ⟨fun a u e => by rw [upd_ne (fun z => by rw [z, hP] at e; cases e)]; exact e, Same.refl M, fun a u e => by rw [upd_ne (fun z => by rw [z, mp] at e; cases e)]; exact k.sub a u e, fun _ _ e => .inl e⟩
  refine lc_it (walk_list (xs := bs.map V.ref)) (fun t Hc => ∃ acc, Hc = upd (upd H P (.lst (bs.map V.ref))) D (.lst acc) ∧ DqAll K M acc ((valsBy kvs).take t)) ⟨[], rfl, .nil⟩ ?_ ?_ ?_
  · rintro t Hc _ ⟨acc, rfl, _⟩
    refine SqL.of ?_
    rw [upd_ne (fun z => hDP z.symm), upd_same]
  · rintro t x H2 H3 hlt ⟨acc, rfl, da⟩ ⟨rfl, hx⟩
    rw [List.length_map] at hlt
    rw [List.getElem?_map, List.getElem?_eq_getElem hlt] at hx
    obtain rfl : V.ref bs[t] = x := Option.some.inj hx
    have hlk : t < (byKey kvs).length := by have := hks.len; rw [List.length_map] at this; omega
    obtain ⟨b, key, hb, hk, hHb⟩ := hks.get (i := t) (d := tD (byKey kvs)[t].1) (by rw [List.getElem?_map, List.getElem?_eq_getElem hlk]; rfl)
    obtain rfl : bs[t] = b := Option.some.inj ((List.getElem?_eq_getElem hlt).symm.trans hb)
    have hk := tD_inj hk
    obtain ⟨d, hd⟩ := valD_mem (kvs := kvs) (kv := (byKey kvs)[t]) ((List.mergeSort_perm _ _).mem_iff.mp (List.getElem_mem hlk))
    obtain ⟨v, hv, dv⟩ := bp.val hd
    refine ⟨by simp [wipe, List.set_set], ?_⟩
    unfold tYes
    dsimp only
    rw [if_pos rfl]
    refine ⟨.ref p, ?_, .ref bs[t], ?_, p, v, rfl, ?_, acc, upd_same, ?_, acc ++ [v], ?_, ?_⟩
    · rw [List.getElem?_set_ne (fun z => hne z.symm), wipe_out (by simp [hne])]; exact n1
    · rw [List.getElem?_set_self (by rw [wipe_length]; exact hj)]
    · rw [← hv, hk]
      exact DGet.t (keep acc _ _ ap) (keep acc _ _ hHb)
    · rw [DqAll.len da, List.length_take, sizeLine_eq, lv]; omega
    · funext a
      by_cases c : a = D
      · rw [c, upd_same, upd_same]
      · rw [upd_ne c, upd_ne c, upd_ne c]
    · rw [List.take_add_one, show (valsBy kvs)[t]? = some d by
        unfold valsBy
        rw [List.getElem?_map, List.getElem?_eq_getElem hlk]
        show some ((valD kvs (byKey kvs)[t].1).getD .none) = _
        rw [hd]; rfl]
      exact DqAll.app da (.cons dv .nil)
  · rintro Hc ⟨acc, rfl, da⟩
    rw [List.length_map, lb, List.take_length] at da
    obtain ⟨b1, b2, b3⟩ := newL k1 hD da
    exact q _ _ M fps [D] b1 (Same.refl M) b2 b3
end
end Q

/-! ### for k, v in D.items(), D new: from here on the dict stays as it is -/
section
open PySem.Spec PyProof.Rows
variable {X : Cx} {e : Expr} {td : TE} {apos cpos : Pos}
def iItemsN (td : TE) : TI := fun σ H R => td σ H fun x H1 => ∃ d kvs, x = .ref d ∧ H1 d = some (.dK kvs) ∧ ∀ o, R (Iti d o kvs) (upd H1 d (.frz o (.dK kvs)))
theorem pi_itemsN {elts : List Expr} {kk : Nat} {tpos : Pos} (he : PE X e td) (hbase : attributeBase e "items" X.env (eval e X.env) = eval e X.env := by rfl) (hline : (apos.endLine == cpos.line) = true := by rfl) :
    PI X (.Tuple elts kk tpos) (.Call (.Attribute e "items" apos) [] [] cpos) (iItemsN td) := by
  refine ⟨fun pins s σ H R I h => ?_⟩
  refine wpAny_Call_method (T := "dict") (id := "dict.items") hbase rfl hline PySem.F.plainAttrs_dict PySem.F.slot_dict_items PySem.F.type_dict_items (thn (he.run pins s σ H _ I h) fun u s1 ⟨x, H0, I0, rx, d, kvs, ex, hd0, q0⟩ => ?_)
  subst ex
  obtain rfl : u = Value.ref d := rx
  obtain ⟨o, I1⟩ := I0.lock hd0 True.intro
  have q := q0 o
  have hd : (upd H0 d (.frz o (.dK kvs))) d = some (.frz o (.dK kvs)) := upd_same
  obtain ⟨hs, hgd, hx, es, ep, vs, hdt, hsz, kv, hm⟩ := I1.frzK hd
  have hl : kvs.length = vs.length := Paired.length kv
  refine ⟨hm.dictOf.typeIs, hm.dictOf.mapOf.noDict, ?_⟩
  have I2 : Inv X pins σ _ { s1 with heap := s1.heap.push { cls := .type "dict_items", data := .fields #[.ref d] } } := I1.kept (t' := s1.toks) fun b ob q => Heap.get?_push_of_some _ q
  have fin : wpAny (model X.prog X.w) X.A (pyIter (.ref s1.heap.objs.size)) (PIE X pins σ (.Tuple elts kk tpos) R) X.xe { s1 with heap := s1.heap.push { cls := .type "dict_items", data := .fields #[.ref d] } } := by
    refine wpAny_pyIter_items (d := d) (knd := mixKind X.prog X.w) ⟨_, Heap.get?_push_size _ rfl, rfl, rfl⟩ (hm.push _) (pi_one (tk := s1.toks) I2 _ (turn_items _ hdt) ⟨.none, .none, ?_⟩ q)
    rw [hl]
    exact Heap.get?_push_size _ rfl
  show wpAny _ _ (callWith cpos (.builtin "dict.items") [.ref d] [] []) _ X.xe s1
  exact method_meetsIn PySem.F.slot_dict_items PySem.F.entry_dict_items rfl (PySem.evalArgs_none ⟨rfl, hm.dictOf.typeIs, PySem.F.args_dict_items_1 _, _, meets_dict_items (mixKind X.prog X.w) d hs, ⟨vs, hm.dictOf⟩, fin⟩)
end

/-! ### layer Q: setdefault(.., []).append(..); the items of a new dict -/
namespace Q
open PySem L2 Y
section
variable {K : PySem.W.Frag} {CA : Str → Addr} {Tb : List Tbl2} {H0 M0 H M H' M' : Hp} {pin : Nat → V × List Addr} {env : Env} {fps : List (List Addr)} {σ : L2.St}
def addM (M H : Hp) (fr : List Addr) : Hp := fun a => if a ∈ fr then H a else M a
theorem addM_in {M H : Hp} {fr : List Addr} {a : Addr} (h : a ∈ fr) : addM M H fr a = H a := if_pos h
theorem addM_out {M H : Hp} {fr : List Addr} {a : Addr} (h : a ∉ fr) : addM M H fr a = M a := if_neg h
/-- new things become data -/
theorem Ok.dataM {fr : List Addr} (k : Ok K CA Tb H0 M0 pin env fps σ H M) (hf : Fresh H0 M fps fr) (hk : ∀ a ∈ fr, ∃ o, H a = some o ∧ ∀ ps, o ≠ .tbl ps) : Ok K CA Tb H0 M0 pin env fps σ H (addM M H fr) ∧ Same M (addM M H fr) := by
  have hM : Same M (addM M H fr) := fun b u e => by
    rw [addM_out fun z => by rw [(hf.2 b z).2.1] at e; cases e]; exact e
  refine ⟨⟨k.base, k.tab, k.tab0, fun b u e => ?_, fun b u e => ?_, k.grow.trans hM, fun b u e => ?_, ⟨k.sls.le, k.sls.lf, fun j s o f g1 g2 g3 => SlOk.mono hM (fun _ _ => rfl) (k.sls.at_ j s o f g1 g2 g3)⟩, k.nd, fun b hb => ?_, k.pinOk⟩, hM⟩
  · by_cases z : b ∈ fr
    · rw [addM_in z] at e; exact e
    · rw [addM_out z] at e; exact k.sub b u e
  · by_cases z : b ∈ fr
    · obtain ⟨o, h1, h2⟩ := hk b z
      exact noT_of k.tab h1 h2
    · rw [addM_out z] at e; exact k.mt b u e
  · by_cases z : b ∈ fr
    · exact .inr (hf.2 b z).1
    · rw [addM_out z] at e; exact k.new b u e
  · obtain ⟨g1, g2, g3⟩ := k.own b hb
    exact ⟨g1, by rw [addM_out (fun z => (hf.2 b z).2.2 hb)]; exact g2, g3⟩
def entD : List (PyData × Tr) → Option (List PyData)
  | [] => some []
  | (k, t) :: r => match t.toD, entD r with
    | some d, some ds => some (.tuple [k, d] :: ds)
    | _, _ => none
def dicI : Tr → Option (List PyData)
  | .dic kvs => entD kvs
  | _ => none
theorem kv_dq {M : Hp} {k : Key} : Dq K M (kV k) (keyD k) := by
  cases k with
  | inl i => exact .int i
  | inr z => exact .str z
theorem KvOk.items : ∀ {kvs : List (PyData × Tr)} {vs : List (Key × V)} {ps : List Addr} {ds : List PyData}, KvOk K CA M H kvs vs ps → entD kvs = some ds → (∀ a ∈ ps, M' a = H a) → Same M M' → ds.length = vs.length ∧ ∀ (i : Nat) (k : Key) (v : V), vs[i]? = some (k, v) → ∃ d, ds[i]? = some (.tuple [keyD k, d]) ∧ Dq K M' v d
  | _, _, _, _, .nil, h, _, _ => by cases h; exact ⟨rfl, fun i k v e => by simp at e⟩
  | _, _, _, _, .cons (k := k0) (t := t) (v := v0) (p1 := p1) (p2 := p2) a b, h, hp, s => by
    unfold entD at h
    split at h
    case h_2 => cases h
    rename_i d ds h1 h2
    cases h
    obtain ⟨l, ih⟩ := KvOk.items b h2 (fun x hx => hp x (List.mem_append_right _ hx)) s
    refine ⟨by rw [List.length_cons, List.length_cons, l], fun i k v e => ?_⟩
    cases i with
    | zero =>
      cases (Option.some.inj e)
      refine ⟨d, rfl, ?_⟩
      cases a with
      | dat x => cases h1; exact Dq.same s x
      | lst x y => cases h1; exact .lst (by rw [hp _ (List.mem_append_left _ (List.mem_singleton.mpr rfl))]; exact x) (DqAll.same s y)
      | vec x y => cases h1
      | dic x y => cases h1
      | dtu x y => cases h1
      | frz x y => cases h1
      | obj x y => cases h1
      | scr x => cases h1
    | succ i => exact ih i k v (by simpa using e)
def xItems (x : XN) : XA := fun env => match x env with
  | some (t, e) => (dicI t).map fun ds => (ds, e)
  | none => none
theorem plain_dK {a : Addr} {kvs : List (Key × V)} : PlainO a (.dK kvs) := ⟨(fun ps z => nomatch z), (fun q z => nomatch z)⟩
theorem sim_wI {td : TE} {x : XN} (hd : SimN K CA Tb td x) : SimW K CA Tb (iItemsN td) (xItems x) := fun env ds env' e H0 M0 pin fps σ H M Q k q => by
  unfold xItems at e
  split at e
  case h_2 => cases e
  rename_i t e1 h1
  obtain ⟨ds', h2, h3⟩ := Option.map_eq_some_iff.mp e
  cases h3
  refine hd _ _ _ h1 H0 M0 pin fps σ H M _ k fun v H1 M1 f1 fr k1 s1 tv hf => ?_
  cases tv <;> first | (cases h2; done) | skip
  rename_i kvs p vs ps ap bp
  refine ⟨p, vs, rfl, ap, fun o => ?_⟩
  obtain ⟨d0, dm, df⟩ := hf.2 p List.mem_cons_self
  have k2 := k1.sideG (o := .frz o (.dK vs)) ap plain_dK d0 dm df
  have np : ∀ a ∈ ps, a ≠ p := fun a ha z => (List.nodup_cons.mp hf.1).1 (by rw [← z]; exact ha)
  have bk := KvOk.kind bp
  obtain ⟨k3, s3⟩ := k2.dataM (fr := p :: ps) hf fun a ha => by
    rcases List.mem_cons.mp ha with rfl | ha
    · exact ⟨_, upd_same, fun ps z => nomatch z⟩
    · obtain ⟨u, e1, e2⟩ := bk a ha
      exact ⟨u, by rw [upd_ne (np a ha)]; exact e1, e2.tbl⟩
  obtain ⟨l, it⟩ := KvOk.items (M' := addM M1 (upd H1 p (.frz o (.dK vs))) (p :: ps)) bp h2 (fun a ha => by rw [addM_in (List.mem_cons_of_mem _ ha), upd_ne (np a ha)]) s3
  refine q _ _ _ f1 k3 (s1.trans s3) ⟨_, _, by rw [l]; exact walk_items, fun H M _ z y => y _ _ (z _ _ (by rw [addM_in List.mem_cons_self, upd_same])), ?_⟩
  rintro i H2 M2 x H3 hi _ z y ⟨T, a, b, rfl, hT, rfl, ea, eb⟩
  dsimp only at ea eb
  cases hv : vs[i]? with
  | none => rw [hv] at ea; cases ea
  | some kv =>
    obtain ⟨key, v⟩ := kv
    rw [hv] at ea eb
    cases ea
    cases eb
    obtain ⟨d, g1, g2⟩ := it i key v hv
    have x3 := Ext.laid (o := .tup [kV key, v]) y hT
    refine ⟨_, _, x3, g1, .tup (SqT.of upd_same) (.cons kv_dq (.cons (Dq.same (z.trans x3.m) g2) .nil))⟩
/-! setdefault -/
def keyOf : PyData → Option Key
  | .int i => some (.inl i)
  | .str z => some (.inr z)
  | _ => none
theorem keyOf_val {d : PyData} {k : Key} {v : V} (h : keyOf d = some k) (dv : Dq K M v d) : v = kV k := by
  cases d <;> first | (cases h; done) | skip
  · cases h; exact dq_int dv
  · cases h; exact dq_str dv
def sameK : PyData → Key → Bool
  | .int i, .inl j => decide (i = j)
  | .str x, .inr y => decide (x = y)
  | _, _ => false
theorem sameK_iff {k k' : Key} : sameK (keyD k) k' = decide (k = k') := by
  cases k <;> cases k' <;> simp [sameK, keyD]
def apKv (k : Key) (d : PyData) : List (PyData × Tr) → Option (List (PyData × Tr))
  | [] => some [(keyD k, .lst [d])]
  | (e, t) :: r => if sameK e k = true then (match t with
    | .lst ds => if shortB (ds.length + 2) = true then some ((e, .lst (ds ++ [d])) :: r) else none
    | _ => none) else (apKv k d r).map ((e, t) :: ·)
theorem KvOk.mono2 (m : Same M M') {fs : List (PyData × Tr)} {fvs : List (Key × V)} {fp : List Addr} (h : ∀ a ∈ fp, H' a = H a) (x : KvOk K CA M H fs fvs fp) : KvOk K CA M' H' fs fvs fp := KvOk.mono m h x
theorem KvOk.ap {k : Key} {d : PyData} : ∀ {kvs kvs' : List (PyData × Tr)} {vs : List (Key × V)} {ps : List Addr}, KvOk K CA M H kvs vs ps → ps.Nodup → apKv k d kvs = some kvs' →
    (∃ q xs, valV vs k = some (.ref q) ∧ q ∈ ps ∧ H q = some (.lst xs) ∧ xs.length < sizeLine ∧ ∀ (H' M' : Hp) (w : V), Same M M' → Dq K M' w d → H' q = some (.lst (xs ++ [w])) → (∀ a ∈ ps, a ≠ q → H' a = H a) → KvOk K CA M' H' kvs' vs ps) ∨
    (valV vs k = none ∧ ∀ (H' M' : Hp) (z : Addr) (w : V), Same M M' → Dq K M' w d → H' z = some (.lst [w]) → (∀ a ∈ ps, H' a = H a) → KvOk K CA M' H' kvs' (vs ++ [(k, .ref z)]) (ps ++ [z]))
  | _, _, _, _, .nil, _, h => by
    cases h
    exact .inr ⟨rfl, fun H' M' z w s dw hz _ => by
      have : KvOk K CA M' H' [(keyD k, .lst [d])] [(k, .ref z)] ([z] ++ []) := .cons (.lst hz (.cons dw .nil)) .nil
      exact this⟩
  | _, _, _, _, .cons (k := k0) (t := t) (v := v0) (p1 := p1) (p2 := p2) (fs := fs) (fvs := fvs) a b, nd, h => by
    unfold apKv at h
    obtain ⟨nd1, nd2, nd3⟩ := List.nodup_append.mp nd
    rw [sameK_iff] at h
    by_cases c : k0 = k
    · rw [if_pos (decide_eq_true c)] at h
      subst c
      split at h
      case h_2 => cases h
      rename_i ds
      split at h
      case isFalse => cases h
      rename_i hl
      cases h
      cases a with
      | @lst _ q xs ha hb =>
      refine .inl ⟨q, xs, valV_pos rfl, List.mem_append_left _ (List.mem_singleton.mpr rfl), ha, ?_, fun H' M' w s dw hq ho => ?_⟩
      · have := of_decide_eq_true hl
        rw [DqAll.len hb]; omega
      · exact .cons (.lst hq (DqAll.app (DqAll.same s hb) (.cons dw .nil))) (KvOk.mono s (fun y hy => ho y (List.mem_append_right _ hy) (fun z => nd3 q (List.mem_singleton.mpr rfl) y hy z.symm)) b)
    · rw [if_neg (fun z => c (of_decide_eq_true z))] at h
      obtain ⟨kvs1, h1, rfl⟩ := Option.map_eq_some_iff.mp h
      rcases KvOk.ap b nd2 h1 with ⟨q, xs, e1, e2, e3, e4, e5⟩ | ⟨e1, e5⟩
      · refine .inl ⟨q, xs, by rw [valV_neg c]; exact e1, List.mem_append_right _ e2, e3, e4, fun H' M' w s dw hq ho => ?_⟩
        exact .cons (TrOk.mono s (fun y hy => ho y (List.mem_append_left _ hy) (fun z => nd3 y hy q e2 z)) a) (e5 H' M' w s dw hq fun y hy n => ho y (List.mem_append_right _ hy) n)
      · refine .inr ⟨by rw [valV_neg c]; exact e1, fun H' M' z w s dw hz ho => ?_⟩
        rw [List.append_assoc]
        exact .cons (TrOk.mono s (fun y hy => ho y (List.mem_append_left _ hy)) a) (e5 H' M' z w s dw hz fun y hy => ho y (List.mem_append_right _ hy))
theorem var_val {i : Nat} {d : PyData} {env' : Env} (e : xVar i env = some (d, env')) (k : Ok K CA Tb H0 M0 pin env fps σ H M) : ∃ v, σ[i]? = some (some v) ∧ Dq K M v d := by
  unfold xVar at e
  cases c : env[i]? with
  | none => rw [c] at e; cases e
  | some s =>
    rw [c] at e
    obtain ⟨d1, h1, h2⟩ := Option.map_eq_some_iff.mp e
    cases h2
    obtain ⟨o, fp, e1, e2, x⟩ := k.sls.get c
    cases s with
    | un => cases h1
    | own t =>
      obtain ⟨v, rfl, x⟩ := x
      cases x with
      | dat x => cases h1; exact ⟨v, e1, x⟩
      | _ => cases h1
    | arg t =>
      obtain ⟨rfl, x⟩ := x
      cases t with
      | dat d2 => cases h1; exact ⟨_, e1, x.datI⟩
      | _ => cases h1
    | lent t =>
      obtain ⟨_, rfl, x⟩ := x
      cases t with
      | dat d2 => cases h1; exact ⟨_, e1, x.datI⟩
      | _ => cases h1
def xSdApp (i w j : Nat) : XS := fun env => match plMut i [] env, xVar w env, xVar j env with
  | some (s, tr, .dic kvs), some (kd, _), some (d, _) => match keyOf kd with
    | some key => if shortB (kvs.length + 2) = true then (apKv key d kvs).map fun kvs' => .nx (env.set i (s.put (tr.put [] (.dic kvs')))) else none
    | none => none
  | _, _, _ => none
theorem KvOk.len : ∀ {kvs : List (PyData × Tr)} {vs : List (Key × V)} {ps : List Addr}, KvOk K CA M H kvs vs ps → vs.length = kvs.length
  | _, _, _, .nil => rfl
  | _, _, _, .cons _ b => by rw [List.length_cons, List.length_cons, KvOk.len b]
theorem sim_sdapp {i w j : Nat} : SimS K CA Tb (tDrop (tBM K "list" rAppend (tDSetd (tVar i) (tVar w) (tLst tNil)) (tCons (tVar j) tNil))) (xSdApp i w j) := fun env o e H0 M0 pin fps σ H M D k q => by
  unfold xSdApp at e
  split at e
  case h_2 => cases e
  rename_i s tr kvs kd ew d ej h1 h2 h3
  split at e
  case h_2 => cases e
  rename_i key h4
  split at e
  case isFalse => cases e
  rename_i hl
  obtain ⟨kvs', h5, rfl⟩ := Option.map_eq_some_iff.mp e
  have hl : kvs.length + 2 ≤ sizeLine := of_decide_eq_true hl
  obtain ⟨g1, g2, g3⟩ := plMut_some h1
  obtain ⟨v0, v1, p1, fp, n1, n2, n3, n4, n5, n6, back⟩ := k.mut g1 g2 g3
  obtain rfl : v0 = v1 := n2
  obtain ⟨vw, hw, dw⟩ := var_val h2 k
  obtain ⟨vj, hj, dj⟩ := var_val h3 k
  have hvw := keyOf_val h4 dw
  cases n3 with
  | @dic _ p vs ps ap bp =>
  have own : ∀ a ∈ p :: ps, H0 a = none ∧ M a = none ∧ H a ≠ none := fun a ha => k.own a (mem_flat n4 (n5 a ha))
  have hps : p ∉ ps := (List.nodup_cons.mp n6).1
  refine ⟨_, n1, p, rfl, .inl ⟨vs, .inl ap⟩, vw, hw, (by show 0 ≤ sizeLine; omega), fun z hz => ?_⟩
  have zn := k.new_none hz
  have zp : z ≠ p := fun e => by rw [e, ap] at hz; cases hz
  have zps : ∀ a ∈ ps, a ≠ z := fun a ha e => (own a (List.mem_cons_of_mem _ ha)).2.2 (by rw [e]; exact hz)
  have k1 : Ok K CA Tb H0 M0 pin env fps σ (upd H z (.lst [])) M := k.extE ⟨fun a u e => by rw [upd_ne (fun y => by rw [y, hz] at e; cases e)]; exact e, Same.refl M, fun a u e => by rw [upd_ne (fun y => by rw [y, zn.2.1] at e; cases e)]; exact k.sub a u e, fun _ _ e => .inl e⟩
  have ap1 : upd H z (.lst []) p = some (.dK vs) := by rw [upd_ne (fun e => zp e.symm)]; exact ap
  refine ⟨vs, key, ap1, hvw, by rw [bp.len]; omega, ?_⟩
  rcases bp.ap (List.nodup_cons.mp n6).2 h5 with ⟨q', xs, e1, e2, e3, e4, e5⟩ | ⟨e1, e5⟩
  · refine ⟨fun v hv => ?_, fun hn => (by rw [e1] at hn; cases hn)⟩
    rw [e1] at hv
    cases hv
    have qz := zps q' e2
    have qp : q' ≠ p := fun e => hps (by rw [← e]; exact e2)
    have e3' : upd H z (.lst []) q' = some (.lst xs) := by rw [upd_ne qz]; exact e3
    refine ⟨.inl ⟨rfl, _, SqL.of e3'⟩, _, hj, q', xs, vj, rfl, rfl, e3', e4, ?_⟩
    have hc : Chg Tb H M (p :: ps) (upd (upd H z (.lst [])) q' (.lst (xs ++ [vj]))) M := by
      refine ⟨fun a u e n _ => ?_, ?_, Same.refl M, fun a u e => ?_, fun _ _ e => .inl e, k.mt⟩
      · rw [upd_ne (fun y => n (by rw [y]; exact List.mem_cons_of_mem _ e2)), upd_ne (fun y => by rw [y, hz] at e; cases e)]; exact e
      · exact TabsG.but (fp := [q']) k1.tab (fun a ha => by rw [List.mem_singleton.mp ha]; exact ⟨_, e3', trivial⟩) (fun a u e n => by rw [upd_ne (fun z => n (List.mem_singleton.mpr z))]; exact e)
      · rw [upd_ne (fun y => by rw [y, (own q' (List.mem_cons_of_mem _ e2)).2.1] at e; cases e)]; exact k1.sub a u e
    have hn : ∀ a ∈ p :: ps, (a ∈ p :: ps ∨ H a = none) ∧ M a = none ∧ (upd (upd H z (.lst [])) q' (.lst (xs ++ [vj]))) a ≠ none := fun a ha => by
      refine ⟨.inl ha, (own a ha).2.1, ?_⟩
      by_cases c : a = q'
      · rw [c, upd_same]; exact fun z => nomatch z
      · rw [upd_ne c]
        by_cases c2 : a = z
        · rw [c2, upd_same]; exact fun z => nomatch z
        · rw [upd_ne c2]; exact (own a ha).2.2
    obtain ⟨fp', k2, _⟩ := back M (upd (upd H z (.lst [])) q' (.lst (xs ++ [vj]))) (.dic kvs') (p :: ps) hc (.dic (by rw [upd_ne (fun e => qp e.symm)]; exact ap1) (e5 _ M vj (Same.refl M) dj upd_same fun a ha n => by rw [upd_ne n, upd_ne (zps a ha)])) n6 hn
    exact q _ σ _ _ k2
  · refine ⟨fun v hv => (by rw [e1] at hv; cases hv), fun _ => ?_⟩
    have hput : putK vs key (.ref z) = vs ++ [(key, .ref z)] := by
      unfold putK
      rw [valV_any, e1]; rfl
    rw [hput]
    have hz4 : (upd (upd H z (.lst [])) p (.dK (vs ++ [(key, .ref z)]))) z = some (.lst []) := by rw [upd_ne zp, upd_same]
    refine ⟨.inl ⟨rfl, _, SqL.of hz4⟩, _, hj, z, [], vj, rfl, rfl, hz4, by rw [sizeLine_eq]; decide, ?_⟩
    have hc : Chg Tb H M (p :: ps) (upd (upd (upd H z (.lst [])) p (.dK (vs ++ [(key, .ref z)]))) z (.lst ([] ++ [vj]))) M := by
      refine ⟨fun a u e n _ => ?_, ?_, Same.refl M, fun a u e => ?_, fun _ _ e => .inl e, k.mt⟩
      · have az : a ≠ z := fun y => by rw [y, hz] at e; cases e
        rw [upd_ne az, upd_ne (fun y => n (by rw [y]; exact List.mem_cons_self)), upd_ne az]; exact e
      · have t1 := TabsG.but (fp := [p]) (H' := upd (upd H z (.lst [])) p (.dK (vs ++ [(key, .ref z)]))) k1.tab (fun a ha => by rw [List.mem_singleton.mp ha]; exact ⟨_, ap1, trivial⟩) (fun a u e n => by rw [upd_ne (fun z => n (List.mem_singleton.mpr z))]; exact e)
        exact TabsG.but (fp := [z]) t1 (fun a ha => by rw [List.mem_singleton.mp ha]; exact ⟨_, hz4, trivial⟩) (fun a u e n => by rw [upd_ne (fun z => n (List.mem_singleton.mpr z))]; exact e)
      · have az : a ≠ z := fun y => by rw [y, zn.2.1] at e; cases e
        rw [upd_ne az, upd_ne (fun y => by rw [y, (own p List.mem_cons_self).2.1] at e; cases e), upd_ne az]; exact k.sub a u e
    have hnd : (p :: (ps ++ [z])).Nodup := by
      refine List.nodup_cons.mpr ⟨fun h => ?_, List.nodup_append.mpr ⟨(List.nodup_cons.mp n6).2, List.pairwise_singleton _ _, fun x hx y hy e => ?_⟩⟩
      · rcases List.mem_append.mp h with h | h
        · exact hps h
        · exact zp (List.mem_singleton.mp h).symm
      · rw [List.mem_singleton.mp hy] at e
        exact zps x hx e
    have hn : ∀ a ∈ p :: (ps ++ [z]), (a ∈ p :: ps ∨ H a = none) ∧ M a = none ∧ (upd (upd (upd H z (.lst [])) p (.dK (vs ++ [(key, .ref z)]))) z (.lst ([] ++ [vj]))) a ≠ none := fun a ha => by
      rcases List.mem_cons.mp ha with rfl | ha
      · exact ⟨.inl List.mem_cons_self, (own a List.mem_cons_self).2.1, by rw [upd_ne (fun e => zp e.symm), upd_same]; exact fun z => nomatch z⟩
      · rcases List.mem_append.mp ha with h | h
        · have az := zps a h
          refine ⟨.inl (List.mem_cons_of_mem _ h), (own a (List.mem_cons_of_mem _ h)).2.1, ?_⟩
          rw [upd_ne az, upd_ne (fun e => hps (by rw [← e]; exact h)), upd_ne az]
          exact (own a (List.mem_cons_of_mem _ h)).2.2
        · rw [List.mem_singleton.mp h]
          exact ⟨.inr hz, zn.2.1, by rw [upd_same]; exact fun z => nomatch z⟩
    obtain ⟨fp', k2, _⟩ := back M (upd (upd (upd H z (.lst [])) p (.dK (vs ++ [(key, .ref z)]))) z (.lst ([] ++ [vj]))) (.dic kvs') (p :: (ps ++ [z])) hc (.dic (by rw [upd_ne (fun e => zp e.symm), upd_same]) (e5 _ M z vj (Same.refl M) dj upd_same fun a ha => by rw [upd_ne (zps a ha), upd_ne (fun e => hps (by rw [← e]; exact ha)), upd_ne (zps a ha)])) hnd hn
    exact q _ σ _ _ k2
end
end Q

/-! ### sorted(xs) of tuples that can be compared, each two of them up to the first place where they differ -/
section
open PySem.W PySem.SeqAt PyProof.Rows
def cmpAll : List PyData → List PyData → Bool
  | x :: xs, y :: ys => alike x y && (!(PyData.eqv x y) || cmpAll xs ys)
  | [], _ => true
  | _ :: _, [] => true
theorem cmpAll_cons {x y : PyData} {xs ys : List PyData} (h : cmpAll (x :: xs) (y :: ys) = true) : alike x y = true ∧ (PyData.eqv x y = true → cmpAll xs ys = true) := by
  unfold cmpAll at h
  rw [Bool.and_eq_true] at h
  refine ⟨h.1, fun e => ?_⟩
  have := h.2
  rw [e] at this
  simpa using this
structure CmpOk (xss : List (List PyData)) : Prop where
  ne : ∀ xs ∈ xss, xs ≠ []
  self : ∀ xs ∈ xss, alikeAll xs xs = true
  cmp : ∀ xs ∈ xss, ∀ ys ∈ xss, cmpAll xs ys = true
theorem cmp_unique {h : Heap} : ∀ (xs ys : List PyData) (vs : List Value) (as as' : List Addr), cmpAll xs ys = true → alikeAll xs xs = true → ReadsAll h vs xs as → ReadsAll h vs ys as' → xs = ys
  | [], _, _, _, _, _, _, r, r' => by cases r; cases r'; rfl
  | x :: xs, [], _, _, _, _, _, r, r' => by cases r'; cases r
  | x :: xs, y :: ys, _, _, _, hc, hs, r, r' => by
    cases r with
    | cons h1 h2 =>
      cases r' with
      | cons k1 k2 =>
        obtain ⟨c1, c2⟩ := cmpAll_cons hc
        obtain ⟨s1, s2⟩ := alike_all_cons hs
        have e := alike_unique x y _ _ _ c1 h1 k1
        subst e
        rw [cmp_unique xs ys _ _ _ (c2 (eqv_refl_alike x s1)) s2 h2 k2]
theorem tup_unique {h : Heap} {xss : List (List PyData)} (C : CmpOk xss) {v : Value} {d d' : PyData} {as as' : List Addr} (hd : d ∈ xss.map PyData.tuple) (hd' : d' ∈ xss.map PyData.tuple) (r : Reads h v d as) (r' : Reads h v d' as') : d = d' := by
  obtain ⟨xs, m1, rfl⟩ := List.mem_map.mp hd
  obtain ⟨ys, m2, rfl⟩ := List.mem_map.mp hd'
  cases r with
  | tuple h1 h2 h3 h4 =>
    cases r' with
    | tuple k1 k2 k3 k4 =>
      rw [h1] at k1; cases k1
      rw [h3] at k3; cases k3
      rw [cmp_unique xs ys _ _ _ (C.cmp xs m1 ys m2) (C.self xs m1) h4 k4]
theorem cmpKind_some {h : Heap} {xss : List (List PyData)} (C : CmpOk xss) {v : Value} {d : PyData} {as : List Addr} (hd : d ∈ xss.map PyData.tuple) (r : Reads h v d as) : (dataKind h (xss.map PyData.tuple)).keyOf v = some (keyToks d) := by
  have q : ∃ d, d ∈ xss.map PyData.tuple ∧ ∃ as, Reads h v d as := ⟨d, hd, as, r⟩
  have e : (dataKind h (xss.map PyData.tuple)).keyOf v = some (keyToks q.choose) := by
    show (open Classical in if q : ∃ d, d ∈ xss.map PyData.tuple ∧ ∃ as, Reads h v d as then some (keyToks q.choose) else none) = _
    rw [dif_pos q]
  obtain ⟨h1, as', h2⟩ := q.choose_spec
  rw [e, tup_unique C h1 hd h2 r]
theorem each_cmp {h : Heap} {xss : List (List PyData)} (C : CmpOk xss) {vs : List Value} (e : EachIs (fun v d => ∃ as, Reads h v d as) vs (xss.map PyData.tuple)) : EachIs (fun v d => (dataKind h (xss.map PyData.tuple)).keyOf v = some (keyToks d)) vs (xss.map PyData.tuple) :=
  (each_mem e).mono fun _ _ ⟨⟨_, r⟩, hd⟩ => cmpKind_some C hd r
section
variable {prog : Program} {w : World} {A : Around} {E : Value → Shared → Prop} {s : Shared}
theorem katLex_cmp {b fin : Bool} {Q : Bool → Shared → Prop} : ∀ (xs ys : List PyData) (i : Nat) (vs ws : List Value) (as bs : List Addr), ReadsAll s.heap vs xs as → ReadsAll s.heap ws ys bs → cmpAll xs ys = true →
    A.units + min (PyData.depthAll xs) (PyData.depthAll ys) < cLine → (b = true → i = 0 → ∀ x r t, xs = x :: r → x ≠ .tuple t) → fin = decide (xs.length < ys.length) → Q (PyProof.Rows.lexLt itemOrd (keyToksAll xs) (keyToksAll ys)) s → KatLex prog w A b fin Q (vs.zip ws) i s
  | [], [], i, _, _, _, _, ra, rb, _, _, _, hf, hq => by
    cases ra
    cases rb
    have e : fin = false := by rw [hf]; rfl
    subst e
    rw [lex_irrefl] at hq
    exact kat_nil hq
  | [], y :: ys, i, _, _, _, _, ra, rb, _, _, _, hf, hq => by
    cases ra
    have e : fin = true := by rw [hf]; exact decide_eq_true (Nat.succ_pos _)
    subst e
    rw [toks_all_cons] at hq
    simp only [keyToksAll] at hq
    rw [lex_diff (O := itemOrd) (by simp)] at hq
    rw [List.zip_nil_left]
    exact kat_nil (by simpa [itemLt] using hq)
  | x :: xs, [], i, _, _, _, _, ra, rb, _, _, _, hf, hq => by
    cases rb
    have e : fin = false := by rw [hf]; exact decide_eq_false (Nat.not_lt_zero _)
    subst e
    rw [toks_all_cons] at hq
    simp only [keyToksAll] at hq
    rw [lex_diff (O := itemOrd) (by simp)] at hq
    rw [List.zip_nil_right]
    exact kat_nil (by simpa [itemLt] using hq)
  | x :: xs, y :: ys, i, _, _, _, _, ra, rb, h, hu, hb, hf, hq => by
    obtain ⟨h1, h2⟩ := cmpAll_cons h
    have hf' : fin = decide (xs.length < ys.length) := by
      rw [hf]
      simp only [List.length_cons, Nat.add_lt_add_iff_right]
    cases ra with
    | cons r rs =>
      cases rb with
      | cons r' rs' =>
        rw [List.zip_cons_cons]
        refine kat_cons (eqAt_alike x y A s _ _ _ _ r r' h1 (room_head hu) prog w _ _ ?_)
        cases hx : PyData.eqv x y with
        | true =>
          rw [dataLt_all_yes h1 hx] at hq
          exact kat_yes (katLex_cmp xs ys (i + 1) _ _ _ _ rs rs' (h2 hx) (room_tail hu) (fun _ hi => absurd hi (Nat.succ_ne_zero i)) hf' hq)
        | false =>
          rw [dataLt_all_no h1 hx] at hq
          refine kat_no (oneLt_alike (fun hbi t => ?_) r r' h1 (ne_none_of h1 hx) (room_head hu) hq)
          rw [Bool.and_eq_true] at hbi
          exact hb hbi.1 (by simpa using hbi.2) x xs t rfl
theorem SortsAt_cmp {vs : List Value} {xss : List (List PyData)} (e : EachIs (fun v d => ∃ as, Reads s.heap v d as) vs (xss.map PyData.tuple)) (C : CmpOk xss) (hu : ∀ d ∈ xss.map PyData.tuple, A.units + d.depth < cLine) : SortsAt prog w A s (dataKind s.heap (xss.map PyData.tuple)) vs := by
  have room : ∀ {d d' : PyData}, d ∈ xss.map PyData.tuple → A.units + min d.depth d'.depth < cLine := fun {d d'} hd => Nat.lt_of_le_of_lt (Nat.add_le_add_left (Nat.min_le_left _ _) _) (hu d hd)
  have ht : ∀ d, d ∈ xss.map PyData.tuple → ∃ x r, d = .tuple (x :: r) := fun d hd => by
    obtain ⟨xs, m, rfl⟩ := List.mem_map.mp hd
    cases xs with
    | nil => exact absurd rfl (C.ne _ m)
    | cons x r => exact ⟨x, r, rfl⟩
  have hcmp : ∀ xs ys, PyData.tuple xs ∈ xss.map PyData.tuple → PyData.tuple ys ∈ xss.map PyData.tuple → cmpAll xs ys = true := fun xs ys m1 m2 => by
    obtain ⟨xs', m1, e1⟩ := List.mem_map.mp m1
    obtain ⟨ys', m2, e2⟩ := List.mem_map.mp m2
    cases e1
    cases e2
    exact C.cmp _ m1 _ m2
  refine ⟨fun v hv => ?_, ?_⟩
  · obtain ⟨d, hd, as, r⟩ := e.left v hv
    exact ⟨_, cmpKind_some C hd r⟩
  · cases xss with
    | nil =>
      cases e
      exact ⟨general', fun E x y a b Q ha _ _ => (by
        obtain ⟨d, _, hd, _⟩ := dataKind_inv ha
        exact absurd hd (by simp)), fun h2 => absurd h2 (by simp)⟩
    | cons d₀ ds₀ =>
      obtain ⟨x₀, r₀, e₀⟩ := ht (.tuple d₀) (List.mem_cons_self ..)
      cases e₀
      have hfirst : ∀ x r, PyData.tuple (x :: r) ∈ ((x₀ :: r₀) :: ds₀).map PyData.tuple → alike x x₀ = true := fun x r hm => (cmpAll_cons (hcmp _ _ hm (List.mem_cons_self ..))).1
      refine ⟨tuples' (dataType x₀ != Value.type "tuple"), ?_, fun h2 E Q hq => ?_⟩
      · intro E x y a b Q ha hb hq
        obtain ⟨d, as, hd, ra, rfl⟩ := dataKind_inv ha
        obtain ⟨d', as', hd', rb, rfl⟩ := dataKind_inv hb
        have hroom := room (d' := d') hd
        obtain ⟨x1, r1, rfl⟩ := ht d hd
        obtain ⟨x2, r2, rfl⟩ := ht d' hd'
        have hdd := hcmp _ _ hd hd'
        have hq' : Q (dataLt (.tuple (x1 :: r1)) (.tuple (x2 :: r2))) s := hq
        rw [dataLt_tuple] at hq'
        cases ra with
        | @tuple l o xs n _ _ h1 h2 h3 h4 =>
          cases rb with
          | @tuple l' o' xs' n' _ _ k1 k2 k3 k4 =>
            have n1 : xs.size = (x1 :: r1).length := by simpa using SeqAt.ReadsAll.length _ _ _ h4
            have n2 : xs'.size = (x2 :: r2).length := by simpa using SeqAt.ReadsAll.length _ _ _ k4
            refine kat_lt h1 h3 k1 k3 (katLex_cmp (x1 :: r1) (x2 :: r2) 0 _ _ _ _ h4 k4 hdd (by have q := SeqAt.room_in hroom; omega) (fun hb _ x r t ex => ?_) (by rw [n1, n2]) hq')
            obtain ⟨rfl, rfl⟩ := List.cons.inj ex
            have q := dataType_alike (hfirst _ _ hd)
            rw [← q] at hb
            exact dataType_tuple hb t
      · obtain ⟨fs, t1, t2, t3⟩ := each_katTups e ht
        refine kat_kind (T := dataType x₀) t1 (by omega) (fun f hf => ?_) (beq_self_eq_true _) hq
        obtain ⟨x, r, as, m1, m2⟩ := t3 f hf
        rw [← dataType_alike (hfirst x r m1)]
        exact looks_reads m2
theorem sorted_cmp {R : Value → List PyData → Prop} {vs : List Value} {xss : List (List PyData)} {l : Addr} {Q : Value → Shared → Prop} (hl : s.heap.IsList l vs.toArray) (e : EachIs R vs xss) (er : EachIs (fun v d => ∃ as, Reads s.heap v d as) vs (xss.map PyData.tuple)) (C : CmpOk xss) (hL : xss.length ≤ sizeLine)
    (hu : ∀ b, b ∈ xss → A.units + 2 + (PyData.tuple b).depth < cLine) (h : ∀ out, out.length = xss.length → EachIs R out (xss.mergeSort (dataLe false PyData.tuple)) → Q (.ref (s.heap.objs.size + 1)) { s with heap := sortedAll s.heap vs (List.toArray out) }) :
    wpAny (model prog w) A (call (.builtin "sorted") [.ref l]) Q E s := by
  have er' : EachIs (fun v d => ∃ as, Reads (sortingHeap (copyHeap s.heap vs) (s.heap.objs.size + 1) vs) v d as) vs (xss.map PyData.tuple) := er.mono fun _ _ ⟨as, r⟩ => ⟨as, PyProof.Rows.Reads.keeps (fun _ _ => sorting_copy_old) r⟩
  refine sorted_vals hl (SortsAt_cmp (s := { s with heap := sortingHeap (copyHeap s.heap vs) (s.heap.objs.size + 1) vs }) er' C (fun d hd => ?_)) (by rw [e.length]; exact hL)
    (h _ (by rw [sortVals_length false rfl]; exact e.length) (sortVals_each (κ := dataKind (sortingHeap (copyHeap s.heap vs) (s.heap.objs.size + 1) vs) (xss.map PyData.tuple)) (fun b => keyToks (PyData.tuple b)) e (each_of_map PyData.tuple (each_cmp C er'))))
  obtain ⟨b, hb, rfl⟩ := List.mem_map.mp hd
  exact hu b hb
end
end

/-! ### sorted(xs) of tuples, by first differences -/
section
open PySem.W
def rSortC (K : PySem.W.Frag) : List V → Hp → VK → Prop := fun xs H Q => ∃ (l : Addr) (vs : List V) (xss : List (List PyData)) (W : V → List PyData → Prop), xs = [.ref l] ∧ SqL K H l vs ∧ (∀ x d, W x d → Dp K H x (.tuple d)) ∧ EachIs W vs xss ∧ CmpOk xss ∧ (∀ d ∈ xss, (PyData.tuple d).depth ≤ 20) ∧
  ∀ (p : Addr) (vs' : List V), H p = none → EachIs W vs' (xss.mergeSort (dataLe false PyData.tuple)) → Q (.ref p) (upd H p (.lst vs'))
variable {X : Cx} {pins : List (Addr × Obj)} {σ : L2.St} {H : Hp} {s : Shared} {W : V → List PyData → Prop}
theorem eachc_of : ∀ {vs : List V} {us : List Value} {ds : List (List PyData)}, Vals vs us → EachIs W vs ds → EachIs (fun u d => ∃ x, RelV x u ∧ W x d) us ds
  | _, _, _, .nil, .nil => .nil
  | _, _, _, .cons r t, .cons d e => .cons ⟨_, r, d⟩ (eachc_of t e)
theorem eachc_reads (I : Inv X pins σ H s) (hW : ∀ x d, W x d → Dp X.K H x (.tuple d)) : ∀ {us : List Value} {ds : List (List PyData)}, EachIs (fun u d => ∃ x, RelV x u ∧ W x d) us ds → EachIs (fun u d => ∃ as, PySem.Reads s.heap u d as) us (ds.map PyData.tuple)
  | _, _, .nil => .nil
  | _, _, .cons h t => .cons (by obtain ⟨x, r, d⟩ := h; exact Dp.reads I _ _ _ (hW _ _ d) r) (eachc_reads I hW t)
theorem eachc_back : ∀ {us : List Value} {ds : List (List PyData)}, EachIs (fun u d => ∃ x, RelV x u ∧ W x d) us ds → ∃ vs, Vals vs us ∧ EachIs W vs ds
  | _, _, .nil => ⟨[], .nil, .nil⟩
  | _, _, .cons h t => by
    obtain ⟨x, r, d⟩ := h
    obtain ⟨vs, h1, h2⟩ := eachc_back t
    exact ⟨x :: vs, .cons r h1, .cons d h2⟩
theorem eachc_len : ∀ {vs : List V} {ds : List (List PyData)}, EachIs W vs ds → vs.length = ds.length
  | _, _, .nil => rfl
  | _, _, .cons _ t => by rw [List.length_cons, List.length_cons, eachc_len t]
theorem cr_sortC (hu : X.A.units + 64 < cLine) : CallR X (.builtin "sorted") (rSortC X.K) := by
  intro pins s σ H vs us Q I r h
  obtain ⟨a, xs, ds, W, rfl, hs, hW, hd, C, hdep, q⟩ := h
  obtain ⟨its, rv, hl, hz⟩ := I.list hs
  rw [Vals.ref1 r]
  have hlen : ds.length = xs.length := (eachc_len hd).symm
  have e := eachc_of rv hd
  refine sorted_cmp (R := fun u d => ∃ x, RelV x u ∧ W x d) (xss := ds) hl.isList e (eachc_reads I hW e) C (by rw [hlen]; exact hz) (fun d hd => ?_) fun out h1 h2 => ?_
  · have := hdep d hd
    show _ + 2 + (PyData.tuple d).depth < _
    omega
  · obtain ⟨vs', k1, k2⟩ := eachc_back h2
    obtain ⟨ep, he'⟩ := PyProof.Rows.sortedAll_at s.heap its out.toArray
    have hl2 : vs'.length = xs.length := by rw [k1.length, h1, hlen]
    exact ⟨.ref _, upd H (s.heap.objs.size + 1) (.lst vs'), I.laid (t' := s.toks) (fun _ _ => PyProof.Rows.sortedAll_old) (Nat.le_succ _) ⟨by rw [hl2]; exact hz, out, ep, k1, he'⟩, rfl, q _ _ (I.hok.fresh (Nat.le_succ _)) k2⟩
end
namespace Q
open PySem L2 Y
open PySem.W (EachIs dataLe)
section
variable {K : PySem.W.Frag} {M H : Hp}
def tupsOf : List PyData → Option (List (List PyData))
  | [] => some []
  | .tuple xs :: ds => (tupsOf ds).map (xs :: ·)
  | _ :: _ => none
def cmpB (xss : List (List PyData)) : Bool := xss.all fun xs => (!xs.isEmpty) && PySem.W.alikeAll xs xs && (PyData.tuple xs).canLay0 && decide ((PyData.tuple xs).depth ≤ 20) && xss.all fun ys => cmpAll xs ys
def sortC (xss : List (List PyData)) : List PyData := (xss.mergeSort (dataLe false PyData.tuple)).map PyData.tuple
def cSortC : List PyData → Option (List PyData)
  | [.list ds] => match tupsOf ds with
    | some xss => if cmpB xss = true then some (sortC xss) else none
    | none => none
  | _ => none
theorem cmpB_use {xss : List (List PyData)} (h : cmpB xss = true) : CmpOk xss ∧ (∀ xs ∈ xss, (PyData.tuple xs).canLay0 = true) ∧ ∀ xs ∈ xss, (PyData.tuple xs).depth ≤ 20 := by
  have key : ∀ xs ∈ xss, xs.isEmpty = false ∧ PySem.W.alikeAll xs xs = true ∧ (PyData.tuple xs).canLay0 = true ∧ (PyData.tuple xs).depth ≤ 20 ∧ ∀ ys ∈ xss, cmpAll xs ys = true := fun xs hx => by
    have h1 := List.all_eq_true.mp h xs hx
    simp only [Bool.and_eq_true, Bool.not_eq_true', decide_eq_true_eq] at h1
    obtain ⟨⟨⟨⟨a, b⟩, c⟩, d⟩, e⟩ := h1
    exact ⟨a, b, c, d, List.all_eq_true.mp e⟩
  refine ⟨⟨fun xs hx z => ?_, fun xs hx => (key xs hx).2.1, fun xs hx ys hy => (key xs hx).2.2.2.2 ys hy⟩, fun xs hx => (key xs hx).2.2.1, fun xs hx => (key xs hx).2.2.2.1⟩
  have := (key xs hx).1
  rw [z] at this; cases this
theorem tupsOf_each : ∀ {vs : List V} {ds : List PyData} {xss : List (List PyData)}, tupsOf ds = some xss → DqAll K M vs ds → EachIs (fun v xs => Dq K M v (.tuple xs)) vs xss
  | _, [], _, h, dv => by cases h; cases dv; exact .nil
  | _, .tuple xs :: ds, _, h, dv => by
    obtain ⟨xss, h1, rfl⟩ := Option.map_eq_some_iff.mp h
    cases dv with | cons a b => exact .cons a (tupsOf_each h1 b)
  | _, .none :: _, _, h, _ => by cases h
  | _, .bool _ :: _, _, h, _ => by cases h
  | _, .int _ :: _, _, h, _ => by cases h
  | _, .str _ :: _, _, h, _ => by cases h
  | _, .list _ :: _, _, h, _ => by cases h
  | _, .dict _ :: _, _, h, _ => by cases h
theorem each_tups : ∀ {vs : List V} {xss : List (List PyData)}, EachIs (fun v xs => Dq K M v (.tuple xs) ∧ (PyData.tuple xs).canLay0 = true) vs xss → DqAll K M vs (xss.map PyData.tuple)
  | _, _, .nil => .nil
  | _, _, .cons a b => .cons a.1 (each_tups b)
theorem each_and {P : List PyData → Prop} : ∀ {vs : List V} {xss : List (List PyData)}, EachIs (fun v xs => Dq K M v (.tuple xs)) vs xss → (∀ xs ∈ xss, P xs) → EachIs (fun v xs => Dq K M v (.tuple xs) ∧ P xs) vs xss
  | _, _, .nil, _ => .nil
  | _, _, .cons a b, h => .cons ⟨a, h _ List.mem_cons_self⟩ (each_and b fun d hd => h d (List.mem_cons_of_mem _ hd))
theorem simC_sortC : SimCN K (rSortC K) cSortC := fun d c h H M x Q s hx q => by
  unfold cSortC at h
  split at h
  case h_2 => cases h
  rename_i ds
  split at h
  case h_2 => cases h
  rename_i xss h1
  split at h
  case isFalse => cases h
  rename_i hc
  cases h
  obtain ⟨v, rfl, r⟩ := rvA_one hx
  obtain ⟨p, vs, rfl, e1, e2⟩ := r.lst s
  obtain ⟨C, c1, c2⟩ := cmpB_use hc
  refine ⟨p, vs, xss, fun v xs => Dq K M v (.tuple xs) ∧ (PyData.tuple xs).canLay0 = true, rfl, SqL.of e1, fun x d hd => Dq.dp (Dq.same s hd.1) hd.2, each_and (tupsOf_each h1 e2) c1, C, c2, fun z vs' hz hv => ?_⟩
  have mz := none_of s hz
  refine q z vs' _ M ⟨fun a u e => ?_, Same.refl M, fun a u e => ?_, fun _ _ e => .inl e⟩ hz mz upd_same (each_tups hv)
  · rw [upd_ne (fun y => by rw [y, hz] at e; cases e)]; exact e
  · rw [upd_ne (fun y => by rw [y, mz] at e; cases e)]; exact s a u e
end
end Q

/-! ### layer Q: a field comes to hold a new tree -/
namespace Q
open PySem L2 Y
section
variable {K : PySem.W.Frag} {CA : Str → Addr} {Tb : List Tbl2} {H0 M0 H M H' M' : Hp} {pin : Nat → V × List Addr} {env : Env} {fps : List (List Addr)} {σ : L2.St}
/-- the thing in slot i changes and takes in what is new -/
theorem Ok.chgN {i : Nat} {fp fp' : List Addr} {s' : Sv} {o' : Option V} (k : Ok K CA Tb H0 M0 pin env fps σ H M) (hf : fps[i]? = some fp) (c : Chg Tb H M fp H' M')
    (nd' : fp'.Nodup) (hp : ∀ a ∈ fp', (a ∈ fp ∨ (H0 a = none ∧ a ∉ fps.flatten)) ∧ M' a = none ∧ H' a ≠ none) (x : SlOk K CA Tb H0 M' H' (pin i) s' o' fp') : Ok K CA Tb H0 M0 pin (env.set i s') (fps.set i fp') (σ.set i o') H' M' := by
  have nt : ∀ a ∈ fps.flatten, noT Tb a := fun a ha x hx e => k.tab0 x hx (by rw [e]; exact (k.own a ha).1)
  have oth : ∀ a ∈ (fps.set i []).flatten, a ∉ fp ∧ H a ≠ none := fun a ha => ⟨fun z => flat_other k.nd hf z ha rfl, (k.own a (flat_set ha)).2.2⟩
  have keep : ∀ a, a ∉ fp → H a ≠ none → noT Tb a → H' a = H a := fun a h1 h2 h3 => by
    cases e : H a with
    | none => exact absurd e h2
    | some u => exact c.h a u e h1 h3
  refine ⟨fun a u e z => ?_, c.t, k.tab0, c.s, c.mt, k.grow.trans c.m, fun a o e => ?_, ⟨by rw [List.length_set, List.length_set]; exact k.sls.le, by rw [List.length_set, List.length_set]; exact k.sls.lf, fun j s o f h1 h2 h3 => ?_⟩, flat_ndG nd' k.nd (fun a ha z => ?_), fun a ha => ?_, k.pinOk⟩
  · have e1 := k.base a u e z
    rw [keep a (fun z => by rw [(k.own a (mem_flat hf z)).1] at e; cases e) (by rw [e1]; exact fun z => by cases z) z]
    exact e1
  · rcases c.n a o e with z | z | z
    · exact k.new a o z
    · refine .inr ?_
      cases e0 : H0 a with
      | none => rfl
      | some u =>
        have := k.base a u e0 (tab_ne k.tab z)
        rw [z] at this; cases this
    · exact .inr (k.own a (mem_flat hf z)).1
  · by_cases e : i = j
    · subst e
      have hi : i < fps.length := (List.getElem?_eq_some_iff.mp hf).1
      rw [List.getElem?_set_self (by rw [k.sls.le, ← k.sls.lf]; exact hi)] at h1
      rw [List.getElem?_set_self (by rw [← k.sls.lf]; exact hi)] at h2
      rw [List.getElem?_set_self hi] at h3
      rw [← Option.some.inj h1, ← Option.some.inj h2, ← Option.some.inj h3]
      exact x
    · rw [List.getElem?_set_ne e] at h1 h2 h3
      refine SlOk.mono c.m (fun a ha => ?_) (k.sls.at_ j s o f h1 h2 h3)
      have q := oth a (flat_mem2 h3 (fun z => e z.symm) ha)
      exact keep a q.1 q.2 (nt a (mem_flat h3 ha))
  · rcases (hp a ha).1 with c | c
    · exact (oth a z).1 c
    · exact c.2 (flat_set z)
  · rcases flat_memG ha with z | z
    · obtain ⟨h1, h2, h3⟩ := hp a z
      refine ⟨?_, h2, h3⟩
      rcases h1 with c | c
      · exact (k.own a (mem_flat hf c)).1
      · exact c.1
    · obtain ⟨f1, f2, f3⟩ := k.own a (flat_set z)
      refine ⟨f1, ?_, by rw [keep a (oth a z).1 f3 (nt a (flat_set z))]; exact f3⟩
      cases e : M' a with
      | none => rfl
      | some u =>
        rcases c.n a u e with e | e | e
        · rw [f2] at e; cases e
        · exact absurd e f3
        · exact absurd e (oth a z).1
def putT (f : Str) (t : Tr) : List (Str × Tr) → List (Str × Tr)
  | [] => [(f, t)]
  | (g, x) :: r => if g = f then (g, t) :: r else (g, x) :: putT f t r
theorem FsOk.len2 : ∀ {fs : List (Str × Tr)} {fvs : List (Str × V)} {ps : List Addr}, FsOk K CA M H fs fvs ps → fvs.length = fs.length
  | _, _, _, .nil => rfl
  | _, _, _, .cons _ b => by rw [List.length_cons, List.length_cons, FsOk.len2 b]
theorem FsOk.putN {f : Str} {t : Tr} {y : V} {fr : List Addr} (ht : TrOk K CA M H t y fr) (hr : fr.Nodup) : ∀ {fs : List (Str × Tr)} {fvs : List (Str × V)} {ps : List Addr}, FsOk K CA M H fs fvs ps → ps.Nodup → (∀ a ∈ fr, a ∉ ps) → ∃ ps', FsOk K CA M H (putT f t fs) (putF f y fvs) ps' ∧ ps'.Nodup ∧ ∀ a ∈ ps', a ∈ ps ∨ a ∈ fr
  | _, _, _, .nil, _, _ => ⟨fr ++ [], .cons ht .nil, by rw [List.append_nil]; exact hr, fun a ha => .inr (by rw [List.append_nil] at ha; exact ha)⟩
  | _, _, _, .cons (f := g) (p1 := p1) (p2 := p2) a b, nd, hd => by
    obtain ⟨nd1, nd2, nd3⟩ := List.nodup_append.mp nd
    unfold putT putF
    by_cases c : g = f
    · rw [if_pos c, if_pos c]
      refine ⟨fr ++ p2, .cons ht b, List.nodup_append.mpr ⟨hr, nd2, fun x hx y hy e => hd x hx (List.mem_append_right _ (by rw [e]; exact hy))⟩, fun a ha => ?_⟩
      rcases List.mem_append.mp ha with h | h
      · exact .inr h
      · exact .inl (List.mem_append_right _ h)
    · rw [if_neg c, if_neg c]
      obtain ⟨ps', h1, h2, h3⟩ := FsOk.putN (f := f) ht hr b nd2 fun a ha z => hd a ha (List.mem_append_right _ z)
      refine ⟨p1 ++ ps', .cons a h1, List.nodup_append.mpr ⟨nd1, h2, fun x hx y hy e => ?_⟩, fun a ha => ?_⟩
      · rcases h3 y hy with z | z
        · exact nd3 x hx y z e
        · exact hd y z (List.mem_append_left _ (by rw [← e]; exact hx))
      · rcases List.mem_append.mp ha with h | h
        · exact .inl (List.mem_append_left _ h)
        · exact (h3 a h).imp (List.mem_append_right _) id
def xSFld (i : Nat) (c f : Str) (v : XN) : XS := fun env => match v env with
  | some (t, e1) => match plMut i [] e1 with
    | some (s, _, .obj c' fs) => if c' = c ∧ fs.length < 1000 then some (.nx (e1.set i (s.put (.obj c (putT f t fs))))) else none
    | _ => none
  | none => none
theorem sim_sfld {i : Nat} {c f : Str} {tv : TE} {v : XN} (hv : SimN K CA Tb tv v) (hc : Cls K (CA c)) (hn : NoAttr K (CA c) f) : SimS K CA Tb (sFld K (tVar i) tv f) (xSFld i c f v) := fun env o e H0 M0 pin fps σ H M D k q => by
  unfold xSFld at e
  split at e
  case h_2 => cases e
  rename_i t e1 h1
  split at e
  case h_2 => cases e
  rename_i s tr c' fs h2
  split at e
  case isFalse => cases e
  rename_i hl
  obtain ⟨rfl, hl⟩ := hl
  cases e
  refine hv _ _ _ h1 H0 M0 pin fps σ H M _ k fun y H1 M1 f1 fr k1 s1 ty hf => ?_
  obtain ⟨g1, g2, g3⟩ := plMut_some h2
  obtain rfl : tr = .obj c' fs := Option.some.inj g3
  obtain ⟨o, fp, n1, n2, x⟩ := k1.sls.get g1
  obtain ⟨v0, ho, x0, back⟩ : ∃ v0, o = some v0 ∧ TrOk K CA M1 H1 (.obj c' fs) v0 fp ∧ ∀ M' H' t' fp', TrOk K CA M' H' t' v0 fp' → SlOk K CA Tb H0 M' H' (pin i) (s.put t') (some v0) fp' := by
    cases s with
    | un => cases g2
    | own t1 => cases g2; obtain ⟨v, rfl, x⟩ := x; exact ⟨v, rfl, x, fun M' H' t' fp' z => ⟨v, rfl, z⟩⟩
    | arg t1 => cases g2; obtain ⟨rfl, x⟩ := x; exact ⟨_, rfl, x, fun M' H' t' fp' z => ⟨rfl, z⟩⟩
    | lent t1 => cases g2
  subst ho
  cases x0 with
  | @obj _ a dx _ fvs ps ap bp =>
  have nd := nd_slot k1.nd n2
  obtain ⟨na, ndp⟩ := List.nodup_cons.mp nd
  have own : ∀ b ∈ a :: ps, H0 b = none ∧ M1 b = none ∧ H1 b ≠ none := fun b hb => k1.own b (mem_flat n2 hb)
  have frd : ∀ b ∈ fr, b ∉ a :: ps := fun b hb z => (hf.2 b hb).2.2 (mem_flat n2 z)
  refine ⟨_, n1, a, CA c', dx, fvs, rfl, ap, hc, hn, by rw [bp.len2]; exact hl, ?_⟩
  have c1 : Chg Tb H1 M1 (a :: ps) (upd H1 a (.ins (CA c') dx (putF f y fvs))) M1 := by
    have := Chg.upd1 (o' := .ins (CA c') dx (putF f y fvs)) k1 ap trivial (own a List.mem_cons_self).2.1
    exact ⟨fun b u e n z => this.h b u e (fun w => n (by rw [List.mem_singleton.mp w]; exact List.mem_cons_self)) z, this.t, this.m, this.s, fun b u e => .inl e, this.mt⟩
  have hty : TrOk K CA M1 (upd H1 a (.ins (CA c') dx (putF f y fvs))) t y fr := TrOk.mono (Same.refl M1) (fun b hb => upd_ne (fun z => frd b hb (by rw [z]; exact List.mem_cons_self))) ty
  have hbp : FsOk K CA M1 (upd H1 a (.ins (CA c') dx (putF f y fvs))) fs fvs ps := FsOk.mono (Same.refl M1) (fun b hb => upd_ne (fun z => na (by rw [← z]; exact hb))) bp
  obtain ⟨ps', b1, b2, b3⟩ := FsOk.putN (f := f) hty hf.1 hbp ndp fun b hb z => frd b hb (List.mem_cons_of_mem _ z)
  have na' : a ∉ ps' := fun z => (b3 a z).elim na fun z => frd a z List.mem_cons_self
  have hobj : TrOk K CA M1 (upd H1 a (.ins (CA c') dx (putF f y fvs))) (.obj c' (putT f t fs)) (.ref a) (a :: ps') := .obj upd_same b1
  have hlive : ∀ b ∈ fr, H1 b ≠ none := fun b hb => by
    obtain ⟨o, e, _⟩ := TrOk.kind ty b hb
    rw [e]; exact fun z => nomatch z
  have hpn : ∀ b ∈ a :: ps', (b ∈ a :: ps ∨ (H0 b = none ∧ b ∉ f1.flatten)) ∧ M1 b = none ∧ (upd H1 a (.ins (CA c') dx (putF f y fvs))) b ≠ none := fun b hb => by
    rcases List.mem_cons.mp hb with rfl | hb
    · exact ⟨.inl List.mem_cons_self, (own b List.mem_cons_self).2.1, by rw [upd_same]; exact fun z => nomatch z⟩
    · have ne : b ≠ a := fun z => na' (by rw [← z]; exact hb)
      rw [upd_ne ne]
      rcases b3 b hb with z | z
      · exact ⟨.inl (List.mem_cons_of_mem _ z), (own b (List.mem_cons_of_mem _ z)).2.1, (own b (List.mem_cons_of_mem _ z)).2.2⟩
      · exact ⟨.inr ⟨(hf.2 b z).1, (hf.2 b z).2.2⟩, (hf.2 b z).2.1, hlive b z⟩
  have k2 := k1.chgN n2 c1 (List.nodup_cons.mpr ⟨na', b2⟩) hpn (back M1 _ _ _ hobj)
  have es : σ.set i (some (.ref a)) = σ := by
    refine List.ext_getElem? fun j => ?_
    by_cases c : i = j
    · subst c
      rw [List.getElem?_set_self (List.getElem?_eq_some_iff.mp n1).1, n1]
    · rw [List.getElem?_set_ne c]
  rw [es] at k2
  exact q _ σ _ _ k2
end
end Q

/-! ### enumerate of a tuple -/
section
open PySem.Spec PyProof.Rows
set_option maxHeartbeats 1000000 in
theorem meets_enumerate_newT (l : Addr) (items : Array Value) :
    Meets (Builtin.«enumerate.__new__» ⟨[.type "enumerate", .ref l], []⟩) (fun _ R s => s.heap.IsTuple l items ∧
      R (.ok (.ret (.ref (s.heap.push { cls := .type "tuple_iterator", data := .fields #[.ref l, .int 0 0] }).objs.size)))
        { s with heap := (s.heap.push { cls := .type "tuple_iterator", data := .fields #[.ref l, .int 0 0] }).push { cls := .type "enumerate", data := .fields #[.none, .bool false, .ref s.heap.objs.size, rawInt 0, .none, .none] } }) :=
  .of_wp fun prog w A R s h => by
    obtain ⟨hp, g, d, tk, os⟩ := s; obtain ⟨h1, h⟩ := h
    have hsub := sub_enumerate
    have q1 : ∀ {A' : Around} {E : Value → Shared → Prop} {Q : Value → Shared → Prop}, Q (.ref hp.objs.size) ⟨hp.push { cls := .type "tuple_iterator", data := .fields #[.ref l, .int 0 0] }, g, d, tk, os⟩ → wpAny (model prog w) A' (pyIter (.ref l)) Q E ⟨hp, g, d, tk, os⟩ :=
      fun q => (begins_tuple l items).iter prog w _ _ ⟨hp, g, d, tk, os⟩ _ h1 q
    wp_walk using q1
    refine wpAny_stack_any fun st => wpAny_pure ?_
    split
    · rename_i c _ _ _ _ _
      cases (c == Value.type "enumerate")
      · wp_walk using q1
        exact ⟨_, rfl, h⟩
      · wp_walk using q1
        exact ⟨_, rfl, h⟩
    · wp_walk using q1
      exact ⟨_, rfl, h⟩
theorem call_enumerate_tup {prog : Program} {w : World} {A : Around} {E : Value → Shared → Prop} {s : Shared} {l : Addr} {items : Array Value} {Q : Value → Shared → Prop} (hL : s.heap.IsTuple l items)
    (h : ∀ h', IsEnum h' (s.heap.objs.size + 1) s.heap.objs.size 0 .none → h'.IsTupleIter s.heap.objs.size l 0 → h'.objs.size = s.heap.objs.size + 2 →
      (∀ b o, s.heap.get? b = some o → h'.get? b = some o) → Q (.ref (s.heap.objs.size + 1)) { s with heap := h' }) :
    wpAny (model prog w) A (call (.type "enumerate") [.ref l]) Q E s := by
  refine callType_new F.called_enumerate (by decide) (F.typeCall_enumerate_1 _) (F.newCall_enumerate_1 _) (fun obj => F.args_object_init_2 obj _) F.entry_enumerate_new
    (meets_enumerate_newT l items) ⟨hL, ?_⟩
  have hz : (s.heap.push { cls := .type "tuple_iterator", data := .fields #[.ref l, .int 0 0] }).objs.size = s.heap.objs.size + 1 := Heap.size_push ..
  show _ ∧ _
  rw [hz]
  have he : IsEnum ((s.heap.push { cls := .type "tuple_iterator", data := .fields #[.ref l, .int 0 0] }).push { cls := .type "enumerate", data := .fields #[.none, .bool false, .ref s.heap.objs.size, rawInt 0, .none, .none] }) (s.heap.objs.size + 1) s.heap.objs.size 0 .none := by
    have := Heap.get?_push_size (s.heap.push { cls := .type "tuple_iterator", data := .fields #[.ref l, .int 0 0] }) (o := { cls := .type "enumerate", data := .fields #[.none, .bool false, .ref s.heap.objs.size, rawInt 0, .none, .none] }) rfl
    rw [hz] at this; exact this
  exact ⟨⟨_, he, rfl⟩, h _ he ⟨_, Heap.get?_push_of_some _ (Heap.get?_push_size _ rfl), rfl, rfl⟩ (by rw [Heap.size_push, hz]) fun b o x => Heap.get?_push_of_some _ (Heap.get?_push_of_some _ x)⟩
end
/-- the tuple at a, each item in a new pair -/
def IteT (K : PySem.W.Frag) (a : Addr) : It :=
  ⟨fun i H => ∃ (xs : List V) (x : V), SqT K H a xs ∧ xs[i]? = some x, fun i H v H' => ∃ T x, v = .ref T ∧ H T = none ∧ H' = upd H T (.tup [.int (i : Nat), x]) ∧ ∀ xs, SqT K H a xs → xs[i]? = some x, fun i H => ∃ xs : List V, SqT K H a xs ∧ xs.length ≤ i⟩
section
open PySem.Spec PyProof.Rows
theorem wpAny_pyNext_enum_endT {prog : Program} {w : World} {A : Around} {E : Value → Shared → Prop} {s : Shared} {e it l : Addr} {i : Nat} {items : Array Value} {old : Value} {Q : Option Value → Shared → Prop} (hh : A.handled = none)
    (he : IsEnum s.heap e it i old) (hit : s.heap.IsTupleIter it l i) (hl : s.heap.IsTuple l items) (hx : items[i]? = none)
    (hQ : ∀ h', Heap.ExtBut it s.heap h' → Q none { s with heap := h' }) : wpAny (model prog w) A (pyNext (.ref e)) Q E s := by
  have hT : s.TypeIs (.ref e) "enumerate" := ⟨_, he, rfl⟩
  unfold pyNext
  refine wpAny_bind (wpAny_attempt (wpAny_callSpecial?_slot (name := Str.ofString "__next__") hT F.slot_enumerate_next
    (wpAny_call_entry F.slot_enumerate_next hT F.entry_enumerate_next ?_ (F.args_enumerate_next_1 _))))
  show wpAny _ _ (field (.ref e) 2 >>= _) _ _ _
  refine wpAny_bind (wpAny_field he rfl (x := .ref it) rfl ?_)
  refine wpAny_bind (wpAny_nextOf_tuple_end hh hit hl hx fun h' x he' hx' => ?_)
  obtain ⟨o, ho, hc⟩ := hx'
  refine wpAny_bind (wpAny_isInstance (T := "StopIteration") (b := true) ⟨o, ho, hc⟩ isSubtype_stop ?_)
  exact wpAny_pure (hQ _ he')
theorem turn_enumT {P : Program} {w : World} {K : PySem.W.Frag} {elts : List Expr} {kk : Nat} {tpos : Pos} (a e it : Addr) (hne0 : a ≠ it) (hae : e ≠ a) :
    Turn P w K (.Tuple elts kk tpos) (IteT K a) [e, it] e (fun i h => (∃ old, IsEnum h e it ((i : Nat) : Int) old) ∧ h.IsTupleIter it a i ∧ e ≠ it) where
  mem := by simp
  obj := fun i h st b hb => by
    obtain ⟨⟨old, he⟩, ⟨o, ho, hc, hd⟩, _⟩ := st
    have e' : b = e ∨ b = it := by simpa using hb
    rcases e' with z | z
    · rw [z]; exact ⟨_, he, fun v q => nomatch q⟩
    · rw [z]; exact ⟨o, ho, fun v q => by rw [hd] at q; cases q⟩
  keep := fun i h h' st k => let ⟨⟨old, he⟩, hi, hne⟩ := st; ⟨⟨old, k e (by simp) _ he⟩, hi.at fun o q => k it (by simp) o q, hne⟩
  item := by
    intro X hP hw hK hc i pins s σ H E I hf st hg
    subst hP hw hK
    obtain ⟨⟨old, he⟩, hit, hne⟩ := st
    obtain ⟨xs, x, hq, hx⟩ := hg
    obtain ⟨its, rv, p, hz⟩ := I.tuple hq
    obtain ⟨u, hu, ru⟩ := rv.get hx
    have hel : e < s.heap.objs.size := Heap.lt_size he
    have hil : it < s.heap.objs.size := by obtain ⟨_, q, _⟩ := hit; exact Heap.lt_size q
    have hu' : its.toArray[i]? = some u := by simpa using hu
    have hi : i < its.toArray.size := by
      obtain ⟨h1, _⟩ := Array.getElem?_eq_some_iff.mp hu'
      exact h1
    refine wpAny_pyNext_enum_itemD (Draws.tuple (prog := X.prog) (w := X.w) (A := X.A.in1) (I.ok.hd hc) it a hne0 its.toArray) he ⟨hit, p⟩ hi hne (by simp only [List.mem_cons, List.not_mem_nil, or_false, not_or]; exact ⟨hne, hae⟩) fun x1 h' tk hx1 ho hst' hT hsz hk => ?_
    have ex : x1 = u := Option.some.inj (hx1.symm.trans hu')
    subst ex
    obtain ⟨hit', _⟩ := hst'
    refine ⟨_, rfl, wpAny_letOwnedTupleGo_enum (s := { s with heap := h', toks := tk + 1 }) ho fun h'' he' sb => ?_⟩
    have hT2 : h''.get? s.heap.objs.size = some { cls := .type "tuple", data := .seq #[.int i tk, x1] } := (sb.2 _ (Nat.ne_of_gt hel)).trans hT
    have new : ObjOk X.prog X.w (upd H s.heap.objs.size (.tup [.int (i : Nat), x])) h'' s.heap.objs.size (.tup [.int (i : Nat), x]) :=
      ⟨by show 2 ≤ sizeLine; decide, [.int i tk, x1], .cons ⟨_, rfl⟩ (.cons ru .nil), ⟨_, hT2, rfl, _, rfl⟩⟩
    have I1 : Inv X pins σ (upd H s.heap.objs.size (.tup [.int (i : Nat), x])) { s with heap := h'', toks := tk + 1 } :=
      I.turnedNew (ch := [e, it]) (fun b ob hb q => (sb.2 b (fun z => hb (by simp [z]))).trans (hk b ob (fun z => hb (by simp [z])) (fun z => hb (by simp [z])) q)) hf (Nat.le_refl _) new
    refine ⟨.ref s.heap.objs.size, _, I1, rfl, ⟨_, x, rfl, I.hok.fresh (Nat.le_refl _), rfl, fun ys hy => by rw [I.tuple_inj hy hq]; exact hx⟩, ⟨⟨x1, ?_⟩, hit'.at fun o q => (sb.2 it (Ne.symm hne)).trans q, hne⟩, fun b hb => ?_⟩
    · have e1 : ((i + 1 : Nat) : Int) = (i : Int) + 1 := by omega
      rw [e1]; exact he'
    · have hb' : b < s.heap.objs.size := by
        have e' : b = e ∨ b = it := by simpa using hb
        rcases e' with z | z
        · rw [z]; exact hel
        · rw [z]; exact hil
      rw [upd_ne (Nat.ne_of_lt hb')]
      exact (hf b hb).1
  done := by
    intro X hP hw hK hc i pins s σ H E I hf st hg
    subst hP hw hK
    obtain ⟨⟨old, he⟩, hit, hne⟩ := st
    obtain ⟨xs, hq, hx⟩ := hg
    obtain ⟨its, rv, p, hz⟩ := I.tuple hq
    obtain ⟨f0, f1, f2, f3, f4, f5⟩ := hf it (by simp)
    have hl := rv.length
    refine wpAny_pyNext_enum_endT (I.ok.hd hc) he hit p (by simp; omega) fun h' eb => ⟨rfl, I.turned (t' := s.toks) (fun b o hb q => eb b o hb q) f0 f1 f3 f4 f5⟩
  self := fun A i s Q E st h => let ⟨⟨_, he⟩, _⟩ := st; wpAny_pyIter_enum he h
end
def iEnumT (K : PySem.W.Frag) (ta : TA) : TI := fun σ H R => ta σ H fun vs H1 => ∃ a xs, vs = [.ref a] ∧ SqT K H1 a xs ∧ R (IteT K a) H1
section
open PySem.Spec PyProof.Rows
theorem pi_enumT {X : Cx} {e : Expr} {ta : TA} {p pos tpos : Pos} {elts : List Expr} {kk : Nat} (hg : Gl X "enumerate") (hm : X.mg "enumerate" = none) (ha : PA X [e] ta) (hs : starEach [e] X.env = [(false, eval e X.env)] := by rfl) :
    PI X (.Tuple elts kk tpos) (.Call (.Name "enumerate" p) [e] [] pos) (iEnumT X.K ta) := by
  refine ⟨fun pins s σ H R I h => ?_⟩
  refine Call_ (ld_blt I hg hm boot_enumerate (PyProof.Rows.callWith_type1 (thn (ha.run pos pins s σ H _ I h) fun us s1 ⟨vs, H1, I1, r1, q1⟩ => ?_) hs rfl))
  obtain ⟨a, xs, ex, hq, q⟩ := q1
  subst ex
  cases r1 with
  | cons r rr =>
    cases rr
    cases r
    obtain ⟨its, rv, p', hz⟩ := I1.tuple hq
    obtain ⟨o1, ho1, _⟩ := id p'
    have al : a < s1.heap.objs.size := Heap.lt_size ho1
    refine call_enumerate_tup p' fun h' he hit hsz hk => wpAny_pyIter_enum he ?_
    have I2 : Inv X pins σ H1 { s1 with heap := h' } := I1.kept (t' := s1.toks) hk
    refine ⟨s1.heap.objs.size + 1, [s1.heap.objs.size + 1, s1.heap.objs.size], _, _, H1, rfl, I2, turn_enumT a (s1.heap.objs.size + 1) s1.heap.objs.size (Nat.ne_of_lt al) (Nat.ne_of_gt (Nat.lt_succ_of_lt al)), ⟨⟨.none, he⟩, hit, Nat.succ_ne_self _⟩, fun b hb => ?_, q⟩
    have e' : b = s1.heap.objs.size + 1 ∨ b = s1.heap.objs.size := by simpa using hb
    have hle : s1.heap.objs.size ≤ b := by
      rcases e' with z | z
      · rw [z]; exact Nat.le_add_right _ _
      · rw [z]; exact Nat.le_refl _
    exact I1.fpOk hle (I1.hok.fresh hle)
theorem walk_enumT {K : PySem.W.Frag} {a : Addr} {xs : List V} : Walk (IteT K a) xs.length (fun H => SqT K H a xs) (YPair (fun i => some (.int (i : Nat))) (fun i => xs[i]?)) := by
  refine ⟨fun i _ hi q => ⟨xs, xs[i], q, by simp [hi]⟩, fun _ q => ⟨xs, q, Nat.le_refl _⟩, fun i H v H' _ q y => ?_⟩
  obtain ⟨T, x, h1, h2, h3, h4⟩ := y
  exact ⟨T, .int (i : Nat), x, h1, h2, h3, rfl, h4 xs q⟩
end

/-! ### layer Q: what isn't come to; enumerate of a tuple; a tuple as a comprehension's target -/
theorem pg_tupK {X : Cx} {pos : Pos} {es : List Expr} {k : Nat} {t : TGs} {n : Nat} (K : PySem.W.Frag) (hK : X.K = K) (hc : X.calm = true) (h : PGs X es t)
    (hn : (assignEach es X.env).length = n := by rfl) (hst : (assignEach es X.env).findIdx? (·.1) = none := by rfl) : PG X (.Tuple es k pos) (gTup K n t) := by
  subst hK; exact pg_tup hc h hn hst
theorem units65 {k : Nat} {A : Around} (hr : Room k A) : A.units + 65 < cLine := by
  have := hr.un
  omega
namespace Q
open PySem L2 Y
def tNever : TS := fun _ _ _ => False
theorem ps_never {X : Cx} {st : Stmt} : PS X st tNever := ⟨fun _ _ _ _ _ _ h => h.elim⟩
section
variable {K : PySem.W.Frag} {CA : Str → Addr} {Tb : List Tbl2}
def enumTD : List PyData → Option (List PyData)
  | [.tuple ds] => some (enums ds)
  | _ => none
theorem sim_wET {ta : TA} {a : XA} (ha : SimRA K CA Tb ta a) : SimW K CA Tb (iEnumT K ta) (x1 a enumTD) := fun env d env' e H0 M0 pin fps σ H M Q k q => by
  obtain ⟨d1, h1, h2⟩ := x1_some e
  unfold enumTD at h2
  split at h2
  · cases h2
    refine ha _ _ _ h1 H0 M0 pin fps σ H M _ k fun x H1 M1 f1 k1 s1 r1 => ?_
    obtain ⟨v, rfl, hv⟩ := rvA_one r1
    obtain ⟨p, xs, rfl, g1, g2⟩ := dq_tupI (hv.get rfl)
    refine ⟨p, xs, rfl, Same.sqT k1.sub g1, q _ H1 M1 f1 k1 s1 (wkQ_pair (walk_enumT (xs := xs)) (by rw [enums_len, DqAll.len g2]) (fun H M z a b => Same.sqT (a.trans b) g1) ?_)⟩
    intro i x y e1 e2
    obtain ⟨d, f1, f2⟩ := DqAll.getV g2 e2
    rw [← Option.some.inj e1]
    exact ⟨_, d, enums_get f1, .int _, f2⟩
  · cases h2
end
end Q

/-! ### layer Q: a law's start -/
theorem exm_self {K : PySem.W.Frag} {S : Addr} (h1 : PySem.W.subIn K (.ref S) (.type "BaseException") = some true) (h2 : PySem.W.isClsIn K S = true) (h3 : PySem.W.typeIn K (.ref S) = some (.type "type")) (h4 : PySem.W.subIn K (.ref S) (.ref S) = some true) :
    PySem.W.exmOne K (.ref S) (.ref S) = some true := by
  have e1 : (PySem.W.subIn K (.ref S) (.type "BaseException") == some true) = true := by rw [h1]; rfl
  have h2' : (PySem.W.clsIn K S).isSome = true := h2
  have e2 : ((PySem.W.clsIn K S).isSome && PySem.W.typeIn K (.ref S) == some (.type "type")) = true := by rw [h2', h3]; rfl
  unfold PySem.W.exmOne
  rw [if_pos e1]
  unfold PySem.W.kitCls
  dsimp only
  rw [if_pos e2]
  exact h4
def ySpLaw (K : PySem.W.Frag) : Sp := fun vs H Q _ => ∃ (a : Addr) (ns : List Int), vs = [.ref a] ∧ SqL K H a (ns.map V.int) ∧ ns.length ≤ 63 ∧ ∀ H', Q (.bl true) H'
def ySpLawT (K : PySem.W.Frag) (As : List Addr) : Sp := fun vs H Q E => As.Nodup ∧ (∀ P ∈ As, H P = some (.tbl #[])) ∧ ySpLaw K vs H Q E
theorem tabsG_start {As : List Addr} {H : Hp} (nd : As.Nodup) (h : ∀ P ∈ As, H P = some (.tbl #[])) : TabsG H (As.map fun P => (P, (none : Option Str))) := by
  refine ⟨by rw [List.map_map, show ((fun x : Tbl2 => x.1) ∘ fun P => (P, (none : Option Str))) = id from rfl, List.map_id]; exact nd, fun t ht => ?_⟩
  obtain ⟨P, hP, rfl⟩ := List.mem_map.mp ht
  exact (⟨#[], h P hP, trivial⟩ : GxR.TabG H P)
namespace Q
open PySem L2 Y
section
variable {K : PySem.W.Frag} {CA : Str → Addr} {Tb : List Tbl2} {H : Hp}
theorem law_start {f : Env → Option (Tr × Env)} {Q : VK} {E : XK} {a : Addr} {ns : List Int} {e : Env} (ht : TabsG H Tb) (hS : SqL K H a (ns.map V.int)) (hf : f [.lent (.scr ns)] = some (.dat (.bool true), e)) (fin : ∀ H', Q (.bl true) H') : PX K CA Tb f [.ref a] H Q E := by
  obtain ⟨M, hM, hs, hT⟩ : ∃ M : Hp, SqL K M a (ns.map V.int) ∧ Same M H ∧ ∀ b o, M b = some o → noT Tb b := by
    rcases hS with h | h
    · refine ⟨fun b => if b = a then H a else none, ?_, fun b o e => ?_, fun b o e => ?_⟩
      · rcases h with h | ⟨o, h⟩
        · exact .inl (.inl (by dsimp only; rw [if_pos rfl]; exact h))
        · exact .inl (.inr ⟨o, by dsimp only; rw [if_pos rfl]; exact h⟩)
      · dsimp only at e
        by_cases c : b = a
        · rw [if_pos c] at e; rw [c]; exact e
        · rw [if_neg c] at e; cases e
      · dsimp only at e
        by_cases c : b = a
        · rw [if_pos c] at e
          rw [c]
          rcases h with h | ⟨o', h⟩
          · exact noT_of ht h fun ps z => nomatch z
          · exact noT_of ht h fun ps z => nomatch z
        · rw [if_neg c] at e; cases e
    · exact ⟨fun _ => none, .inr h, (fun b o e => nomatch e), (fun b o e => nomatch e)⟩
  refine ⟨H, fun _ => (.ref a, []), M, [.lent (.scr ns)], e, .dat (.bool true), [[]], hf, fun i v h => ?_, ?_, fun v H' M' fps' fr k' tv hf => ?_⟩
  · cases i with
    | zero => exact Option.some.inj h
    | succ i => simp at h
  · refine ⟨fun _ _ e _ => e, ht, fun t h => ?_, hs, hT, Same.refl M, fun _ _ e => .inl e, ⟨rfl, rfl, fun i s o fp h1 h2 h3 => ?_⟩, List.nodup_nil, (fun a ha => nomatch ha), (fun i a ha => nomatch ha)⟩
    · obtain ⟨ps, e⟩ := (ht.2 t h).tbl
      rw [e]; exact fun z => nomatch z
    · cases i with
      | zero =>
        cases (Option.some.inj h1)
        cases (Option.some.inj h2)
        cases (Option.some.inj h3)
        exact ⟨rfl, rfl, .scr hM⟩
      | succ i => simp at h1
  · rw [dq_bool tv.datI]
    exact fin H'
end
end Q

/-! ### layer Q: reckoning pure functions -/
namespace Q
open PySem L2 Y

theorem seq_nx {a b : XS} {env e : Env} (h : a env = some (.nx e)) : xSeq a b env = b e := by unfold xSeq; rw [h]
theorem for_eq {src : XA} {tg : XT} {body : XS} {env e : Env} {ds : List PyData} {o : Out} (hs : src env = some (ds, e)) (h : forGo tg body ds e = some o) : xFor src tg body env = some o := by unfold xFor; rw [hs]; exact h
theorem callX_eq {n m : Nat} {body : XS} {as e : Env} {t : Tr} (hl : as.length = n) (h : body (as ++ List.replicate m .un) = some (.ret t e)) : callX n m body as = some (t, clean n e) := by unfold callX; rw [if_pos hl, h]
theorem callX_nx {n m : Nat} {body : XS} {as e : Env} (hl : as.length = n) (h : body (as ++ List.replicate m .un) = some (.nx e)) : callX n m body as = some (.dat .none, clean n e) := by unfold callX; rw [if_pos hl, h]
theorem atI_natI {α : Type} (ns : List α) (k : Nat) : atI ns (k : Int) = ns[k]? := by
  unfold atI ixN
  rw [if_pos (Int.natCast_nonneg k)]
  by_cases h : k < ns.length
  · rw [if_pos (Int.ofNat_lt.mpr h)]; rfl
  · rw [if_neg (fun z => h (Int.ofNat_lt.mp z)), List.getElem?_eq_none (Nat.not_lt.mp h)]; rfl
/-- a loop that ends of itself -/
theorem for_I {tg : XT} {body : XS} (I : Nat → Env → Prop) : ∀ (ds : List PyData) (i : Nat) (e : Env), I i e → (∀ j (hj : j < ds.length) e, I (i + j) e → ∃ e1 e2, tg ds[j] e = some e1 ∧ body e1 = some (.nx e2) ∧ I (i + j + 1) e2) → ∃ e', forGo tg body ds e = some (.nx e') ∧ I (i + ds.length) e'
  | [], i, e, h, _ => ⟨e, rfl, h⟩
  | d :: ds, i, e, h, hs => by
    obtain ⟨e1, e2, h1, h2, h3⟩ := hs 0 (Nat.succ_pos _) e h
    obtain ⟨e', h4, h5⟩ := for_I I ds (i + 1) e2 h3 fun j hj e he => by
      have := hs (j + 1) (Nat.succ_lt_succ hj) e (by rw [show i + (j + 1) = i + 1 + j by omega]; exact he)
      rw [show i + (j + 1) + 1 = i + 1 + j + 1 by omega] at this
      exact this
    refine ⟨e', ?_, by rw [List.length_cons, show i + (ds.length + 1) = i + 1 + ds.length by omega]; exact h5⟩
    have h1' : tg d e = some e1 := h1
    unfold forGo
    rw [h1']
    dsimp only
    rw [h2]
    exact h4
theorem for_I0 {tg : XT} {body : XS} (I : Nat → Env → Prop) (ds : List PyData) (e : Env) (h : I 0 e) (hs : ∀ j (hj : j < ds.length) e, I j e → ∃ e1 e2, tg ds[j] e = some e1 ∧ body e1 = some (.nx e2) ∧ I (j + 1) e2) : ∃ e', forGo tg body ds e = some (.nx e') ∧ I ds.length e' := by
  obtain ⟨e', h1, h2⟩ := for_I I ds 0 e h fun j hj e he => by rw [Nat.zero_add] at he ⊢; exact hs j hj e he
  exact ⟨e', h1, by rw [Nat.zero_add] at h2; exact h2⟩
end Q
namespace Q
open PySem L2 Y
theorem gen_all {tg : XT} {tst : XB} {elt : XD} (I : Env → Prop) : ∀ (ds : List PyData) (e : Env), I e → (∀ d ∈ ds, ∀ e, I e → ∃ e1 e2 e3, tg d e = some e1 ∧ tst e1 = some (true, e2) ∧ elt e2 = some (.bool true, e3) ∧ I e3) → genGo false tg tst elt ds e = some true
  | [], e, _, _ => rfl
  | d :: ds, e, h, hs => by
    obtain ⟨e1, e2, e3, h1, h2, h3, h4⟩ := hs d List.mem_cons_self e h
    unfold genGo
    rw [h1]
    dsimp only
    rw [h2]
    dsimp only
    rw [h3]
    dsimp only
    rw [if_neg (by decide)]
    exact gen_all I ds e3 h4 fun x hx => hs x (List.mem_cons_of_mem _ hx)
theorem gen_eq {js : List (Option Nat)} {stop b : Bool} {src : XA} {tg : XT} {tst : XB} {elt : XD} {env e1 : Env} {ds : List PyData} (hs : src env = some (ds, e1)) (h : genGo stop tg tst elt ds (capX js e1) = some b) : xGen js stop src tg tst elt env = some (.bool b, e1) := by unfold xGen; rw [hs]; dsimp only; rw [h]; rfl
theorem ret_eq {a : XD} {env e : Env} {d : PyData} (h : a env = some (d, e)) : xRet a env = some (.ret (.dat d) e) := by unfold xRet; rw [h]; rfl
theorem retN_eq {a : XN} {env e : Env} {t : Tr} (h : a env = some (t, e)) : xRetN a env = some (.ret t e) := by unfold xRetN; rw [h]; rfl
theorem ite_eqT {α : Type} {c : XB} {a b : Env → Option α} {env e : Env} (h : c env = some (true, e)) : xIte c a b env = a e := by unfold xIte; rw [h]
theorem ite_eqF {α : Type} {c : XB} {a b : Env → Option α} {env e : Env} (h : c env = some (false, e)) : xIte c a b env = b e := by unfold xIte; rw [h]
end Q
namespace Q
open PySem L2 Y
/-- a comprehension whose turns leave the names as they found them -/
theorem lc_go {tg : XT} {tst : XB} {elt : XD} {vs : List Nat} {e : Env} (p : PyData → Bool) (f : PyData → PyData) : ∀ ds : List PyData, (∀ d ∈ ds, ∃ e1 e2, tg d e = some e1 ∧ tst e1 = some (p d, e2) ∧ if p d = true then ∃ e3, elt e2 = some (f d, e3) ∧ wipeX e3 vs = e else wipeX e2 vs = e) → lcGo tg tst elt vs ds e = some ((ds.filter p).map f, e)
  | [], _ => rfl
  | d :: ds, h => by
    obtain ⟨e1, e2, h1, h2, h3⟩ := h d List.mem_cons_self
    have ih := lc_go p f ds fun x hx => h x (List.mem_cons_of_mem _ hx)
    unfold lcGo
    rw [h1]
    dsimp only
    rw [h2]
    cases hp : p d with
    | true =>
      rw [hp, if_pos rfl] at h3
      obtain ⟨e3, h4, h5⟩ := h3
      dsimp only
      rw [h4]
      dsimp only
      rw [h5, ih, List.filter_cons, if_pos hp]; rfl
    | false =>
      rw [hp, if_neg Bool.false_ne_true] at h3
      dsimp only
      rw [h3, ih, List.filter_cons, if_neg (by rw [hp]; exact Bool.false_ne_true)]
theorem lc_eq {src : XA} {tg : XT} {tst : XB} {elt : XD} {vs : List Nat} {env e1 e2 e3 : Env} {ds out : List PyData} (hs : src env = some (ds, e1)) (hc : calmX e1 vs = true) (hl : ds.length + 1 ≤ sizeLine) (h : lcGo tg tst elt vs ds (wipeX e1 vs) = some (out, e2)) (hu : unX e2 vs = true) (he : restoreX e1 vs e2 = e3) : xLc src tg tst elt vs env = some (.lst out, e3) := by
  unfold xLc
  rw [hs]
  dsimp only
  rw [if_pos ⟨hc, decide_eq_true hl⟩, h]
  dsimp only
  rw [if_pos hu, he]
end Q

/-! ### layer Q: defs that change what they are handed; items of lists that are stored -/
namespace Q
open PySem L2 Y
section
variable {K : PySem.W.Frag} {CA : Str → Addr} {Tb : List Tbl2}
/-- f(x, ..), x a thing of one's own that f may change -/
def xCallM (i : Nat) (f : Env → Option (Tr × Env)) (g : XG) : XN := fun env => match (env[i]?).bind Sv.mut? with
  | some _ => match g env with
    | some (ads, e1) => afterM i [] f ads e1
    | none => none
  | none => none
theorem sim_callM {i : Nat} {f : Env → Option (Tr × Env)} {E : XK} {ta : TA} {g : XG} (hg : SimG K CA Tb ta g) : SimN K CA Tb (tCall (PX K CA Tb f) [] E (tCons (tVar i) ta)) (xCallM i f g) := fun env d env' e H0 M0 pin fps σ H M Q k q => by
  unfold xCallM at e
  split at e
  · rename_i tt h1
    obtain ⟨s, h11, h12⟩ := Option.bind_eq_some_iff.mp h1
    split at e
    · rename_i ads e1 h4
      obtain ⟨v0, v1, p1, fp, g1, g2, g3, g4, g5, g6, _⟩ := k.mut h11 h12 (ps := []) rfl
      have g2' : v0 = v1 := g2
      subst g2'
      refine ⟨v0, g1, ?_⟩
      refine hg _ _ _ h4 _ _ _ _ _ _ _ _ k fun vs H1 M1 f1 ls k1 s1 b1 => ?_
      show PX K CA Tb f ((v0 :: vs) ++ []) H1 Q E
      rw [List.append_nil]
      obtain ⟨s', tr', t1, t1', envr, o1, o2, o3, o4, rfl⟩ := afterM_some e
      exact call_core1 k1 b1 o1 o2 o3 g1 (show ValAt CA H1 v0 [] v0 from rfl) o4 fun v H' M' f' fr k' s' tv hf => q v H' M' f' fr k' (s1.trans s') tv hf
    · cases e
  · cases e
/-- o[b] = a -/
def xSetIx (i : Nat) (ps : Path) (a b : XD) : XS := fun env => match a env with
  | some (d, e1) => match plMut i ps e1 with
    | some (_, _, .lst _) => match xLend i b e1 with
      | some (.int j, e2) => match plMut i ps e2 with
        | some (s, tr, .lst ds) => (ixN ds.length j).map fun n => .nx (e2.set i (s.put (tr.put ps (.lst (ds.set n d)))))
        | _ => none
      | _ => none
    | _ => none
  | none => none
theorem sim_setIx {te to ti : TE} {i : Nat} {ps : Path} {a b : XD} (ha : SimD K CA Tb te a) (hp : SimP CA to i ps) (hb : SimD K CA Tb ti b) : SimS K CA Tb (tAsg te (gSub to ti rSetL)) (xSetIx i ps a b) := fun env o e H0 M0 pin fps σ H M D k q => by
  unfold xSetIx at e
  split at e
  · rename_i d e1 h1
    split at e
    · rename_i s0 tr0 ds0 h0
      split at e
      · rename_i j e2 h2
        split at e
        · rename_i s tr ds h3
          obtain ⟨n, hn, rfl⟩ := Option.map_eq_some_iff.mp e
          refine ha _ _ _ h1 _ _ _ _ _ _ _ _ k fun v H1 M1 f1 k1 s1 dv => ?_
          obtain ⟨g1, g2, g3⟩ := plMut_some h0
          obtain ⟨v0, v1, p1, fp, n1, n2, n3, n4, n5, n6, _⟩ := k1.mut g1 g2 g3
          refine hp σ H1 _ v0 v1 n1 n2 ?_
          refine lend_keep hb h2 h0 k1 n1 n2 fun w H2 M2 f2 k2 s2 dw hv1 _ => ?_
          obtain ⟨p, vs, rfl, a1, a2, a3⟩ := k2.put (es := ds.set n d) h3 n1 hv1
          obtain ⟨fp', k3⟩ := a3 (vs.set n v) (DqAll.set (Dq.same s2 dv) n a2)
          exact ⟨p, vs, j, n, rfl, dq_int dw, a1, by rw [DqAll.len a2]; exact hn, q _ _ _ _ k3⟩
        · cases e
      · cases e
    · cases e
  · cases e
end
end Q

/-- an error with one field: its __init__ -/
def yInit1 (C : Addr) (f : Str) : Sp := fun vs H Q _ => ∃ (a : Addr) (v : V), vs = [.ref a, v] ∧ H a = some (exo a C none) ∧
  ∀ dx, H dx = none → dx ≠ a → Q .non (upd (upd H dx (exd dx [(f, v)])) a (exo a C (some dx)))
theorem raise1_use {C : Addr} {f : Str} {v : V} {H : Hp} {E : XK} (q : ∀ d H', Same H H' → H d = none → H' d = some (.xd [(f, v)]) → E (.ref C) (some d) H') : ([v] : List V).length ≤ 1000 ∧ ∀ a, H a = none → yInit1 C f (.ref a :: ([v] ++ [])) (upd H a (exo a C none))
    (fun u H2 => u = .non ∧ ∃ (d : Addr) (fs : List (Str × V)), H2 a = some (exo a C (some d)) ∧ H2 d = some (exd d fs) ∧ H d = none ∧ E (.ref C) (some d) (upd (del H2 a) d (.xd fs))) (fun _ _ _ => False) := by
  refine ⟨by show 1 ≤ 1000; decide, fun a ha => ⟨a, _, rfl, upd_same, fun dx hdx hne => ⟨rfl, dx, _, upd_same, by rw [upd_ne hne]; exact upd_same, ?_, ?_⟩⟩⟩
  · rw [upd_ne hne] at hdx; exact hdx
  · have hdx' : H dx = none := by rw [upd_ne hne] at hdx; exact hdx
    refine q dx _ (fun b o hb => ?_) hdx' upd_same
    have nb : b ≠ dx := ne_of_none hb hdx'
    have na : b ≠ a := ne_of_none hb ha
    rw [upd_ne nb, del_ne na, upd_ne na, upd_ne nb, upd_ne na]
    exact hb

/-! ### isinstance of a caught error with fields -/
def rIsX (K : PySem.W.Frag) (a : Addr) (cls : Value) (d : Option Addr) (C : Addr) : List V → Hp → VK → Prop := fun xs H Q => ∃ (c : V) (cv : Value) (b : Bool) (dd : Addr) (fs : List (Str × V)), xs = [.ref a, c] ∧ cls = .ref C ∧ d = some dd ∧ H dd = some (.xd fs) ∧ (∀ u, RelV c u → u = cv) ∧ PySem.W.kitOne K (.ref C) cv = some b ∧ Q (.bl b) H
theorem call_isX {X : Cx} {a C : Addr} {oe : Obj} {cls : Value} {d : Option Addr} {pn : List (Addr × Obj)} (T : XfC X.K C) (Y : IsxC X.K C) (hz : Zc cls d oe) (hf : ∃ vs, oe.data = .fields vs) : CallR (X.suite a ((a, oe) :: pn)) (.builtin "isinstance") (rIsX X.K a cls d C) := by
  intro pins s σ H xs us Q I r h
  obtain ⟨c, cv, b, dd, fs, rfl, rfl, rfl, ea, hcv, e, q⟩ := h
  obtain ⟨u1, u2, rfl, r1, r2⟩ := vals2 r
  have ec := hcv _ r2
  subst ec
  obtain rfl : u1 = Value.ref a := r1
  obtain ⟨ha, _⟩ := I.pin (a, oe) (List.mem_append_left _ List.mem_cons_self)
  obtain ⟨vs, hd⟩ := hf
  have hx : ObjOk X.prog X.w H s.heap dd (.xd fs) := I.hok dd _ ea
  obtain ⟨mA, hns, hr⟩ := hx
  obtain ⟨od, ho, hl⟩ := lookIn_ns hns
  have J : PySem.W.InstAt s.heap a oe C (some od) := ⟨ha, hz.1, by unfold PySem.W.notCls; rw [hd] <;> rfl, by rw [hz.2]; exact ho⟩
  exact PySem.W.kia_one (PySem.W.kitx_exc Y.hc T.ga T.gg T.exC Y.ha Y.hn Y.ht Y.hm) I.kIn J e (fun z => nomatch z) fun tk => ⟨.bl b, H, I.tok tk, rfl, q⟩

/-! ### layer Q: errors -/
namespace Q
open PySem L2 Y
inductive Flds (K : PySem.W.Frag) (M : Hp) : List (Str × PyData) → List (Str × V) → Prop
  | nil : Flds K M [] []
  | cons {f : Str} {d : PyData} {v : V} {fs : List (Str × PyData)} {vs : List (Str × V)} : Dq K M v d → Flds K M fs vs → Flds K M ((f, d) :: fs) ((f, v) :: vs)
/-- what an error holds -/
def ErrAt (K : PySem.W.Frag) (M H : Hp) (d : Option Addr) (fs : List (Str × PyData)) : Prop := (∃ dd vs, d = some dd ∧ H dd = some (.xd vs) ∧ Flds K M fs vs) ∨ (d = none ∧ fs = [])
inductive OutE where
  | o (x : Out)
  | ex (c : Str) (fs : List (Str × PyData)) (e : Env)
abbrev XQ := Env → Option OutE
/-- what a call ends in -/
inductive RX where
  | ok (t : Tr)
  | er (c : Str) (fs : List (Str × PyData))
section
variable (K : PySem.W.Frag) (CA : Str → Addr) (Tb : List Tbl2)
def ContE (H0 M0 : Hp) (pin : Nat → V × List Addr) (W : WX) (D : L2.Ends) : OutE → Prop
  | .o x => ContOk K CA Tb H0 M0 pin D x
  | .ex c fs e => ∀ fps σ H M d, Ok K CA Tb H0 M0 pin e fps σ H M → ErrAt K M H d fs → W (.ref (CA c)) d σ H
def SimE (W : WX) (t : TS) (x : XQ) : Prop := ∀ (env : Env) (o : OutE), x env = some o → ∀ (H0 M0 : Hp) (pin : Nat → V × List Addr) (fps : List (List Addr)) (σ : L2.St) (H M : Hp) (D : L2.Ends), Ok K CA Tb H0 M0 pin env fps σ H M → ContE K CA Tb H0 M0 pin W D o → t D σ H
def ResK (H0 M' H' : Hp) (fps' : List (List Addr)) (Q : VK) (E : XK) : RX → Prop
  | .ok t => ∀ v fr, TrOk K CA M' H' t v fr → Fresh H0 M' fps' fr → Q v H'
  | .er c fs => ∀ d, ErrAt K M' H' d fs → E (.ref (CA c)) d H'
def PXQ (f : Env → Option (RX × Env)) : Sp := fun vs H Q E => ∃ (H0 : Hp) (pin : Nat → V × List Addr) (M : Hp) (as envf : Env) (r : RX) (fps : List (List Addr)), f as = some (r, envf) ∧ (∀ (i : Nat) (v : V), vs[i]? = some v → (pin i).1 = v) ∧ Ok K CA Tb H0 M pin as fps (vs.map some) H M ∧
  ∀ H' M' fps', Ok K CA Tb H0 M pin envf fps' (vs.map some) H' M' → ResK K CA H0 M' H' fps' Q E r
end
def callQ (n m : Nat) (body : XQ) : Env → Option (RX × Env) := fun as => if as.length = n then match body (as ++ List.replicate m .un) with
  | some (.o (.ret t e)) => some (.ok t, clean n e)
  | some (.o (.nx e)) => some (.ok (.dat .none), clean n e)
  | some (.ex c fs e) => some (.er c fs, clean n e)
  | _ => none else none
/-- where it ends well -/
def okPart (f : Env → Option (RX × Env)) : Env → Option (Tr × Env) := fun as => match f as with
  | some (.ok t, e) => some (t, e)
  | _ => none
def okX (r : Option (Tr × Env)) : Option (RX × Env) := r.map fun p => (.ok p.1, p.2)
section
variable {K : PySem.W.Frag} {CA : Str → Addr} {Tb : List Tbl2} {H0 M0 H M H' M' : Hp} {pin : Nat → V × List Addr} {env : Env} {fps : List (List Addr)} {σ : L2.St} {W : WX}
theorem okPart_some {f : Env → Option (RX × Env)} {as e : Env} {t : Tr} (h : okPart f as = some (t, e)) : f as = some (.ok t, e) := by
  unfold okPart at h
  split at h
  · rename_i h2; cases h; exact h2
  · cases h
theorem PXQ.of_ok {f : Env → Option (RX × Env)} {vs : List V} {H : Hp} {Q : VK} {E : XK} (h : PX K CA Tb (okPart f) vs H Q E) : PXQ K CA Tb f vs H Q E := by
  obtain ⟨H0, pin, M, as, envf, r, fps, h1, h2, h3, h4⟩ := h
  exact ⟨H0, pin, M, as, envf, .ok r, fps, okPart_some h1, h2, h3, fun H' M' fps' k v fr tv hf => h4 v H' M' fps' fr k tv hf⟩
theorem PXQ.len {f : Env → Option (RX × Env)} {n m : Nat} {body : XQ} (hf : f = callQ n m body) : ∀ vs H Q E, PXQ K CA Tb f vs H Q E → vs.length = n := fun vs H Q E ⟨H0, pin, M, as, envf, r, fps, h, _, k, _⟩ => by
  rw [hf] at h
  unfold callQ at h
  split at h
  · rename_i c
    have := k.sls.le
    rw [List.length_map] at this
    rw [← this, c]
  · cases h
/-- a body is walked to the promise -/
theorem runQ {f : Env → Option (RX × Env)} {t : TS} {vs : List V} {H : Hp} {Q : VK} {E : XK} {N : List Str} {n m : Nat} {body : XQ} (hf : f = callQ n m body) (hN : N.length = n + m) (hs : SimE K CA Tb (fun cls d _ H => E cls d H) t body) (h : PXQ K CA Tb f vs H Q E) : t { nx := fun _ H' => Q .non H', rt := Q } (L2.start N vs) H := by
  have hv := PXQ.len hf _ _ _ _ h
  obtain ⟨H0, pin, M, as, envf, r, fps, h, hp, k, q⟩ := h
  rw [hf] at h
  unfold callQ at h
  split at h
  case isFalse => cases h
  unfold L2.start
  rw [show N.length - vs.length = m by omega]
  have pk : ∀ {e : Env} (i : Nat) (v : V), vs[i]? = some v → (∃ t, e[i]? = some (Sv.arg t)) → (pin i).1 = v := fun i v h4 _ => hp i v h4
  split at h
  · rename_i t1 e1 hb
    cases h
    refine hs _ _ hb H0 M pin _ _ H M _ (k.more m) fun fps' σ' H' M' v fr k' tv hf' => ?_
    have := pin_of k k' pk
    rw [hv] at this
    exact q H' M' _ this v fr tv ⟨hf'.1, fun a ha => ⟨(hf'.2 a ha).1, (hf'.2 a ha).2.1, fun z => (hf'.2 a ha).2.2 ((cleanF_sub _ _ _ (by rw [k'.sls.le, k'.sls.lf])).subset z)⟩⟩
  · rename_i e1 hb
    cases h
    refine hs _ _ hb H0 M pin _ _ H M _ (k.more m) fun fps' σ' H' M' k' => ?_
    have := pin_of k k' pk
    rw [hv] at this
    exact q H' M' _ this .non [] (.dat .non) ⟨List.nodup_nil, fun a ha => nomatch ha⟩
  · rename_i c fs e1 hb
    cases h
    refine hs _ _ hb H0 M pin _ _ H M _ (k.more m) fun fps' σ' H' M' d k' er => ?_
    have := pin_of k k' pk
    rw [hv] at this
    exact q H' M' _ this d er
  · cases h
/-- calls -/
theorem call_q0 {f : Env → Option (RX × Env)} {r : RX} {envf : Env} {Q : VK} {E : XK} (k : Ok K CA Tb H0 M0 pin env fps σ H M) {ads : List Ad} {vs : List V} {ls : List (List Addr)} (ha : AdsOk K CA Tb H0 M ads vs ls) (hf : f (ads.map Ad.sv) = some (r, envf))
    (q : ∀ H' M', Ok K CA Tb H0 M0 pin env fps σ H' M' → Same M M' → ResK K CA H0 M' H' fps Q E r) : PXQ K CA Tb f vs H Q E := by
  have c := (callee k ha (Hc := H) (p1 := []) (fun a => by simp) (fun _ h => nomatch h) (fun _ h => nomatch h) List.nodup_nil).1 rfl
  refine ⟨H, _, M, _, envf, r, _, hf, fun i v h => by show (vs[i]?).getD .non = v; rw [h]; rfl, c, fun H' M' fps' k' => ?_⟩
  have ch : Chg Tb H M [] H' M' := ⟨fun a o e _ z => k'.base a o e z, k'.tab, k'.grow, k'.sub, fun a o e => (k'.new a o e).imp id .inl, k'.mt⟩
  have k2 := k.ext ch
  have q2 := q H' M' k2 k'.grow
  cases r with
  | er c fs => exact q2
  | ok t =>
    intro v fr tv hfr
    refine q2 v fr tv ⟨hfr.1, fun a h => ?_⟩
    obtain ⟨h1, h2, _⟩ := hfr.2 a h
    exact ⟨(k.new_none h1).1, h2, (k.new_none h1).2.2⟩
theorem call_q1 {f : Env → Option (RX × Env)} {r : RX} {tr t1 t1' : Tr} {envr : Env} {i : Nat} {s : Sv} {ps : Path} {v0 v1 : V} {Q : VK} {E : XK} (k : Ok K CA Tb H0 M0 pin env fps σ H M) {ads : List Ad} {vs : List V} {ls : List (List Addr)} (ha : AdsOk K CA Tb H0 M ads vs ls) (hs : env[i]? = some s) (ht : s.mut? = some tr) (hp : tr.sub ps = some t1) (hv0 : σ[i]? = some (some v0)) (hv1 : ValAt CA H v0 ps v1)
    (hf : f (.arg t1 :: ads.map Ad.sv) = some (r, .arg t1' :: envr)) (q : ∀ H' M' fps', Ok K CA Tb H0 M0 pin (env.set i (s.put (tr.put ps t1'))) fps' σ H' M' → Same M M' → ResK K CA H0 M' H' fps' Q E r) : PXQ K CA Tb f (v1 :: vs) H Q E := by
  obtain ⟨v0', v1', p1, fp, g1, g2, g3, g4, g5, g6, back⟩ := k.mut hs ht hp
  rw [hv0] at g1
  cases g1
  rw [g2.uniq hv1] at g3 back
  have own := fun a (h : a ∈ p1) => k.own a (mem_flat g4 (g5 a h))
  have nt : ∀ a ∈ p1, noT Tb a := fun a h x hx e => k.tab0 x hx (by rw [e]; exact (own a h).1)
  have c := (callee k ha (Hc := fun a => if a ∈ p1 then none else H a) (p1 := p1) (fun a => rfl) nt own g6).2 t1 v1 g3
  refine ⟨_, _, M, _, _, r, _, hf, fun i v h => by show ((v1 :: vs)[i]?).getD .non = v; rw [h]; rfl, c, fun H' M' fps' k' => ?_⟩
  obtain ⟨o, p1', m1, m2, m3, m4⟩ := k'.sls.get (i := 0) (s := .arg t1') rfl
  have m4 : TrOk K CA M' H' t1' v1 p1' := m4
  have non : ∀ a, (if a ∈ p1 then none else H a) = none → a ∈ p1 ∨ H a = none := fun a e => by
    split at e
    · rename_i z; exact .inl z
    · exact .inr e
  have ch : Chg Tb H M p1 H' M' := ⟨fun a o e n z => k'.base a o (by show (if a ∈ p1 then none else H a) = _; rw [if_neg n]; exact e) z, k'.tab, k'.grow, k'.sub, fun a o e => (k'.new a o e).imp id fun z => (non a z).symm, k'.mt⟩
  obtain ⟨fp', n1, n2⟩ := back M' H' t1' p1' ch m4 (nd_slot k'.nd m2) (fun a h => by
    obtain ⟨h1, h2, h3⟩ := k'.own a (mem_flat m2 h)
    exact ⟨non a h1, h2, h3⟩)
  have q2 := q H' M' _ n1 k'.grow
  cases r with
  | er c fs => exact q2
  | ok t =>
    intro v fr tv hfr
    refine q2 v fr tv ⟨hfr.1, fun a h => ?_⟩
    obtain ⟨h1, h2, h3⟩ := hfr.2 a h
    have h1 := non a h1
    have h0 : H0 a = none := by
      rcases h1 with z | z
      · exact (own a z).1
      · exact (k.new_none z).1
    refine ⟨h0, h2, fun z => ?_⟩
    rcases flat_memG z with z | z
    · rcases n2 a z with ⟨y1, y2⟩ | y
      · rcases h1 with w | w
        · exact y2 w
        · exact (k.own a (mem_flat g4 y1)).2.2 w
      · exact h3 (mem_flat m2 y)
    · rcases h1 with w | w
      · exact flat_other k.nd g4 (g5 a w) z rfl
      · exact (k.own a (flat_set z)).2.2 w
/-! statements -/
def eLift (x : XS) : XQ := fun env => (x env).map .o
theorem sim_lift {t : TS} {x : XS} (h : SimS K CA Tb t x) : SimE K CA Tb W t (eLift x) := fun env o e H0 M0 pin fps σ H M D k q => by
  obtain ⟨x1, h1, rfl⟩ := Option.map_eq_some_iff.mp e
  exact h _ _ h1 H0 M0 pin fps σ H M D k q
def eSeq (a b : XQ) : XQ := fun env => match a env with
  | some (.o (.nx e)) => b e
  | o => o
theorem sim_eseq {t u : TS} {a b : XQ} (ha : SimE K CA Tb W t a) (hb : SimE K CA Tb W u b) : SimE K CA Tb W (tSeq t u) (eSeq a b) := fun env o e H0 M0 pin fps σ H M D k q => by
  unfold eSeq at e
  split at e
  · rename_i e1 h1
    exact ha _ _ h1 H0 M0 pin fps σ H M { D with nx := u D } k fun f' σ' H' M' k' => hb _ _ e H0 M0 pin f' σ' H' M' D k' q
  · rename_i hn
    refine ha _ _ e H0 M0 pin fps σ H M { D with nx := u D } k ?_
    cases o with
    | ex c fs e2 => exact q
    | o x =>
      cases x with
      | nx e2 => exact absurd e (hn e2)
      | _ => exact q
def eIte (c : XB) (a b : XQ) : XQ := xIte c a b
theorem sim_eif {c : TT} {t u : TS} {xc : XB} {a b : XQ} (hc : SimT K CA Tb c xc) (ha : SimE K CA Tb W t a) (hb : SimE K CA Tb W u b) : SimE K CA Tb W (tIfS c t u) (eIte xc a b) := fun env o e H0 M0 pin fps σ H M D k q => by
  rcases xIte_some e with ⟨e1, h1, h2⟩ | ⟨e1, h1, h2⟩
  · refine hc _ _ _ h1 H0 M0 pin fps σ H M _ k fun H1 M1 f1 k1 s1 => ?_
    rw [if_pos rfl]
    exact ha _ _ h2 H0 M0 pin f1 σ H1 M1 D k1 q
  · refine hc _ _ _ h1 H0 M0 pin fps σ H M _ k fun H1 M1 f1 k1 s1 => ?_
    rw [if_neg Bool.false_ne_true]
    exact hb _ _ h2 H0 M0 pin f1 σ H1 M1 D k1 q
/-- raise C(e), C with one field -/
def eRaise (c f : Str) (a : XD) : XQ := fun env => (a env).map fun p => .ex c [(f, p.1)] p.2
theorem sim_raise1 {c f : Str} {te : TE} {a : XD} (ha : SimD K CA Tb te a) : SimE K CA Tb W (fun _ σ H => tMkO (CA c) (yInit1 (CA c) f) [] (tCons te tNil) σ H fun cls d H' => W cls d σ H') (eRaise c f a) := fun env o e H0 M0 pin fps σ H M D k q => by
  obtain ⟨⟨d, e1⟩, h1, rfl⟩ := Option.map_eq_some_iff.mp e
  refine ha _ _ _ h1 H0 M0 pin fps σ H M _ k fun v H1 M1 f1 k1 s1 dv => ?_
  have y := raise1_use (C := CA c) (f := f) (v := v) (H := H1) (E := fun cls d H' => W cls d σ H') fun dd H' sm hn hd =>
    q f1 σ H' M1 (some dd) (k1.extE ⟨sm, Same.refl M1, k1.sub.trans sm, fun _ _ e => .inl e⟩) (.inl ⟨dd, _, rfl, hd, .cons dv .nil⟩)
  exact y
/-- f(..) as a statement -/
def eCall (f : Env → Option (RX × Env)) (g : XG) : XQ := fun env => match g env with
  | some (ads, e1) => match f (ads.map Ad.sv) with
    | some (.ok _, _) => some (.o (.nx e1))
    | some (.er c fs, _) => some (.ex c fs e1)
    | none => none
  | none => none
theorem sim_ecall {f : Env → Option (RX × Env)} {ta : TA} {g : XG} (hg : SimG K CA Tb ta g) : SimE K CA Tb W (tDrop (tCallS (PXQ K CA Tb f) (WE W) ta)) (eCall f g) := fun env o e H0 M0 pin fps σ H M D k q => by
  unfold eCall at e
  split at e
  · rename_i ads e1 h1
    refine hg _ _ _ h1 H0 M0 pin fps σ H M _ k fun vs H1 M1 f1 ls k1 s1 a1 => ?_
    split at e
    · rename_i t envf h2
      cases e
      exact call_q0 k1 a1 h2 fun H' M' k' s' v fr tv hf => q _ _ _ _ k'
    · rename_i c fs envf h2
      cases e
      exact call_q0 k1 a1 h2 fun H' M' k' s' d er => q _ _ _ _ d k' er
    · cases e
  · cases e
/-- o.m(..) as a statement, o a thing of one's own -/
def afterQ (i : Nat) (f : Env → Option (RX × Env)) (ads : List Ad) (e : Env) : Option OutE := match e[i]? with
  | some s => match s.mut? with
    | some tr => match f (.arg tr :: ads.map Ad.sv) with
      | some (.ok _, .arg t1' :: _) => some (.o (.nx (e.set i (s.put t1'))))
      | some (.er c fs, .arg t1' :: _) => some (.ex c fs (e.set i (s.put t1')))
      | _ => none
    | none => none
  | none => none
def eMeth (c m : Str) (i : Nat) (f : Env → Option (RX × Env)) (g : XG) : XQ := fun env => match (env[i]?).bind Sv.mut? with
  | some tr => if isObjNo c m tr = true then match g env with
    | some (ads, e1) => afterQ i f ads e1
    | none => none else none
  | none => none
def tMethS (C : Addr) (m : Str) (sp : Sp) (E : L2.St → XK) (ta : TE) (t : TA) : TE := fun σ H Q => ta σ H fun x H1 => ∃ a dx fs, x = .ref a ∧ H1 a = some (.ins C dx fs) ∧ fs.lookup m = none ∧ t σ H1 fun vs H2 => sp (.ref a :: vs) H2 Q (E σ)
theorem sim_emeth {m c : Str} {i : Nat} {f : Env → Option (RX × Env)} {ta : TA} {g : XG} (hg : SimG K CA Tb ta g) : SimE K CA Tb W (tDrop (tMethS (CA c) m (PXQ K CA Tb f) (WE W) (tVar i) ta)) (eMeth c m i f g) := fun env o e H0 M0 pin fps σ H M D k q => by
  unfold eMeth at e
  split at e
  · rename_i tt h1
    obtain ⟨s, h11, h12⟩ := Option.bind_eq_some_iff.mp h1
    split at e
    · rename_i h2
      obtain ⟨fs, rfl, h3⟩ := isObjNo_some h2
      split at e
      · rename_i ads e1 h4
        obtain ⟨v0, v1, p1, fp, g1, g2, g3, g4, g5, g6, _⟩ := k.mut h11 h12 (ps := []) rfl
        cases g3 with
        | @obj _ a dx _ fvs fq a1 a2 =>
        have g2' : v0 = .ref a := g2
        subst g2'
        refine ⟨_, g1, a, dx, fvs, rfl, a1, FsOk.none a2 h3, ?_⟩
        refine hg _ _ _ h4 _ _ _ _ _ _ _ _ k fun vs H1 M1 f1 ls k1 s1 b1 => ?_
        unfold afterQ at e
        split at e
        · rename_i s' o1
          split at e
          · rename_i tr' o2
            split at e
            · rename_i t t1' envr o4
              cases e
              exact call_q1 k1 b1 o1 o2 (ps := []) rfl g1 (show ValAt CA H1 (.ref a) [] (.ref a) from rfl) o4 fun H' M' f' k' s' v fr tv hf => q _ _ _ _ k'
            · rename_i c' fs' t1' envr o4
              cases e
              exact call_q1 k1 b1 o1 o2 (ps := []) rfl g1 (show ValAt CA H1 (.ref a) [] (.ref a) from rfl) o4 fun H' M' f' k' s' d er => q _ _ _ _ d k' er
            · cases e
          · cases e
        · cases e
      · cases e
    · cases e
  · cases e
def isOne (c : Str) (fs : List (Str × PyData)) (C : Str) : Bool := decide (c = C) && !fs.isEmpty
theorem isOne_eq {c C : Str} {fs : List (Str × PyData)} (h : isOne c fs C = true) : c = C ∧ fs ≠ [] := by
  unfold isOne at h
  rw [Bool.and_eq_true] at h
  refine ⟨of_decide_eq_true h.1, fun z => ?_⟩
  rw [z] at h
  cases h.2
def cStr : List PyData → Option PyData
  | [.int i] => if decide (i.natAbs.log2 < 1920) = true then some (.str (toString i)) else none
  | _ => none
theorem simC_str : SimC K (fun xs H Q => ∃ i, xs = [.int i] ∧ i.natAbs.log2 < 1920 ∧ Q (.str (toString i)) H) cStr := fun d c h H M x Q s hx q => by
  unfold cStr at h
  split at h
  · rename_i i
    split at h
    · rename_i hl
      cases h
      obtain ⟨v, rfl, r⟩ := rvA_one hx
      have e := r.get rfl
      rw [dq_int e]
      exact ⟨i, rfl, of_decide_eq_true hl, q _ H M (Ext.refl s) (.str _)⟩
    · cases h
  · cases h
/-! except suites -/
def SimH (K : PySem.W.Frag) (CA : Str → Addr) (Tb : List Tbl2) (a : Addr) (cls : Value) (d : Option Addr) (i : Nat) (c : Str) (fs : List (Str × PyData)) (t : TS) (x : XS) : Prop := ∀ (env : Env) (o : Out), x env = some o → ∀ (H0 M0 : Hp) (pin : Nat → V × List Addr) (fps : List (List Addr)) (σ : L2.St) (H M : Hp) (D : L2.Ends),
  Ok K CA Tb H0 M0 pin env fps σ H M → σ[i]? = some (some (.ref a)) → cls = .ref (CA c) → ErrAt K M H d fs → ContOk K CA Tb H0 M0 pin D o → t D σ H
variable {a : Addr} {cls : Value} {d : Option Addr} {i : Nat} {c : Str} {fs : List (Str × PyData)}
theorem simH_lift {t : TS} {x : XS} (h : SimS K CA Tb t x) : SimH K CA Tb a cls d i c fs t x := fun env o e H0 M0 pin fps σ H M D k _ _ _ q => h env o e H0 M0 pin fps σ H M D k q
theorem simH_seq {t u : TS} {x y : XS} (ha : SimH K CA Tb a cls d i c fs t x) (hb : SimS K CA Tb u y) : SimH K CA Tb a cls d i c fs (tSeq t u) (xSeq x y) := fun env o e H0 M0 pin fps σ H M D k h1 h2 h3 q => by
  unfold xSeq at e
  split at e
  · rename_i e1 g1
    exact ha _ _ g1 H0 M0 pin fps σ H M { D with nx := u D } k h1 h2 h3 fun f' σ' H' M' k' => hb _ _ e H0 M0 pin f' σ' H' M' D k' q
  · rename_i hn
    refine ha _ _ e H0 M0 pin fps σ H M { D with nx := u D } k h1 h2 h3 ?_
    cases o with
    | nx e2 => exact absurd e (hn e2)
    | _ => exact q
/-- if isinstance(e, C): .., where it is one -/
def hIsC (c C : Str) (x y : XS) : XS := if c = C then x else xNo
theorem simH_isC {C : Str} {t u : TS} {x y : XS} (ha : SimH K CA Tb a cls d i c fs t x) (hf : fs ≠ []) : SimH K CA Tb a cls d i c fs (tIfS (tB (tCB (rIsX K a cls d (CA C)) (tCons (tVar i) (tCons (tC (.ref (CA C))) tNil)))) t u) (hIsC c C x y) := fun env o e H0 M0 pin fps σ H M D k h1 h2 h3 q => by
  unfold hIsC at e
  split at e
  · rename_i hc
    subst hc
    rcases id h3 with ⟨dd, vs, rfl, hd, hfl⟩ | ⟨_, z⟩
    · refine ⟨_, h1, .ref (CA c), .ref (CA c), true, dd, vs, rfl, h2, rfl, hd, fun u hu => hu, ?_, true, rfl, ?_⟩
      · unfold PySem.W.kitOne
        rw [if_pos (by exact beq_self_eq_true _)]
      · show t D σ H
        exact ha _ _ e H0 M0 pin fps σ H M D k h1 h2 h3 q
    · exact absurd z hf
  · cases e
/-- return isinstance(e, C) -/
def hRetIs (c C : Str) : XS := fun env => if c = C then some (.ret (.dat (.bool true)) env) else none
theorem simH_retIs {C : Str} (hf : fs ≠ []) : SimH K CA Tb a cls d i c fs (tRet (tCB (rIsX K a cls d (CA C)) (tCons (tVar i) (tCons (tC (.ref (CA C))) tNil)))) (hRetIs c C) := fun env o e H0 M0 pin fps σ H M D k h1 h2 h3 q => by
  unfold hRetIs at e
  split at e
  · rename_i hc
    subst hc
    cases e
    rcases id h3 with ⟨dd, vs, rfl, hd, hfl⟩ | ⟨_, z⟩
    · refine ⟨_, h1, .ref (CA c), .ref (CA c), true, dd, vs, rfl, h2, rfl, hd, fun u hu => hu, ?_, ?_⟩
      · unfold PySem.W.kitOne
        rw [if_pos (by exact beq_self_eq_true _)]
      · exact q _ _ _ M _ [] k (.dat (.bl true)) ⟨List.nodup_nil, fun _ h => nomatch h⟩
    · exact absurd z hf
  · cases e
/-- return e.f -/
def hRetF (c C f : Str) (fs : List (Str × PyData)) : XS := fun env => if c = C then (fs.lookup f).map fun d => .ret (.dat d) env else none
theorem flds_at {M : Hp} {f : Str} : ∀ {fs : List (Str × PyData)} {vs : List (Str × V)} {d : PyData}, Flds K M fs vs → fs.lookup f = some d → ∃ v, vs.lookup f = some v ∧ Dq K M v d
  | _, _, _, .nil, h => by cases h
  | _, _, _, .cons (f := g) x y, h => by
    rw [List.lookup_cons] at h ⊢
    split at h
    · cases h
      exact ⟨_, rfl, x⟩
    · exact flds_at y h
theorem simH_retF {C f : Str} : SimH K CA Tb a cls d i c fs (tRet (tXf a cls d (CA C) f (tVar i))) (hRetF c C f fs) := fun env o e H0 M0 pin fps σ H M D k h1 h2 h3 q => by
  unfold hRetF at e
  split at e
  · rename_i hc
    subst hc
    obtain ⟨x, hx, rfl⟩ := Option.map_eq_some_iff.mp e
    rcases h3 with ⟨dd, vs, rfl, hd, hfl⟩ | ⟨_, z⟩
    · obtain ⟨v, hv, dv⟩ := flds_at hfl hx
      exact ⟨_, h1, rfl, h2, dd, vs, v, rfl, hd, hv, q _ _ _ M _ [] k (.dat dv) ⟨List.nodup_nil, fun _ h => nomatch h⟩⟩
    · rw [z] at hx; cases hx
  · cases e
/-- try: body / except B as e: suite -/
def unI (i : Nat) : Out → Out
  | .nx e => .nx (e.set i .un)
  | .brk e => .brk (e.set i .un)
  | .cont e => .cont (e.set i .un)
  | .ret t e => .ret t (e.set i .un)
def hasI (i : Nat) : Out → Bool
  | .nx e => decide (i < e.length)
  | .brk e => decide (i < e.length)
  | .cont e => decide (i < e.length)
  | .ret t e => true
def unO (i : Nat) (x : Out) : Option Out := match x with
  | .ret t e => some (.ret t e)
  | x => if hasI i x = true then some (unI i x) else none
def xTry (xb : XQ) (i : Nat) (isb : Str → List (Str × PyData) → Bool) (h : Str → List (Str × PyData) → XS) : XS := fun env => match xb env with
  | some (.o x) => some x
  | some (.ex c fs e) => match e[i]? with
    | some .un => if isb c fs = true then (h c fs e).bind (unO i) else none
    | _ => none
  | none => none
theorem Ok.errSet (k : Ok K CA Tb H0 M0 pin env fps σ H M) (h : env[i]? = some .un) (o : Option V) : Ok K CA Tb H0 M0 pin env fps (σ.set i o) H M := by
  have hi : i < env.length := (List.getElem?_eq_some_iff.mp h).1
  have k2 := k.setU (o := o) hi
  obtain ⟨o', fp, e1, e2, e3⟩ := k.sls.get h
  have ef : fp = [] := e3
  have e4 : env.set i .un = env := by
    refine List.ext_getElem? fun j => ?_
    by_cases c : i = j
    · subst c; rw [List.getElem?_set_self hi, h]
    · rw [List.getElem?_set_ne c]
  have e5 : fps.set i [] = fps := by
    refine List.ext_getElem? fun j => ?_
    by_cases c : i = j
    · subst c; rw [List.getElem?_set_self (by rw [k.sls.lf, ← k.sls.le]; exact hi), e2, ef]
    · rw [List.getElem?_set_ne c]
  rw [e4, e5] at k2
  exact k2
theorem sim_tryAs {cv : Value} {tb : WX → TS} {ts : Addr → Value → Option Addr → TS} {Wout : WX} {xb : XQ} {isb : Str → List (Str × PyData) → Bool} {h : Str → List (Str × PyData) → XS}
    (hb : ∀ W, SimE K CA Tb W (tb W) xb) (hi : ∀ c fs, isb c fs = true → PySem.W.exmOne K (.ref (CA c)) cv = some true) (hh : ∀ a cls d c fs, isb c fs = true → SimH K CA Tb a cls d i c fs (ts a cls d) (h c fs)) : SimS K CA Tb (fun D σ H => tb (wAs K cv i ts Wout D) D σ H) (xTry xb i isb h) := fun env o e H0 M0 pin fps σ H M D k q => by
  unfold xTry at e
  split at e
  · rename_i x h1
    cases e
    exact hb _ _ _ h1 H0 M0 pin fps σ H M D k q
  · rename_i c fs e1 h1
    split at e
    · rename_i hu
      split at e
      · rename_i hc
        obtain ⟨x, h2, h3⟩ := Option.bind_eq_some_iff.mp e
        refine hb _ _ _ h1 H0 M0 pin fps σ H M D k fun fps' σ' H' M' d k' er => ?_
        refine ⟨true, hi c fs hc, fun _ a ha => ?_, fun z => by cases z⟩
        have hl : i < σ'.length := by rw [← k'.sls.le]; exact (List.getElem?_eq_some_iff.mp hu).1
        refine hh a _ d c fs hc _ _ h2 H0 M0 pin fps' _ H' M' _ (k'.errSet hu _) (List.getElem?_set_self hl) rfl er ?_
        cases x with
        | ret t e2 =>
          cases h3
          exact q
        | nx e2 =>
          unfold unO at h3
          dsimp only at h3
          split at h3
          · rename_i hl2
            cases h3
            exact fun f2 s2 H2 M2 k2 => q _ _ _ _ (k2.setU (of_decide_eq_true hl2))
          · cases h3
        | brk e2 =>
          unfold unO at h3
          dsimp only at h3
          split at h3
          · rename_i hl2
            cases h3
            exact fun f2 s2 H2 M2 k2 => q _ _ _ _ (k2.setU (of_decide_eq_true hl2))
          · cases h3
        | cont e2 =>
          unfold unO at h3
          dsimp only at h3
          split at h3
          · rename_i hl2
            cases h3
            exact fun f2 s2 H2 M2 k2 => q _ _ _ _ (k2.setU (of_decide_eq_true hl2))
          · cases h3
      · cases e
    · cases e
  · cases e
end
end Q

/-! ### layer Q: rules of the walk for calls that may raise -/
section
open PySem.Spec PyProof.Rows
variable {X : Cx} {CX : CXT} {k : Nat} {f C : Addr} {fd : FuncData} {ps : List Str} {sp : Sp} {W : L2.St → XK} {m : Str} {pos apos : Pos} {e o : Expr} {es : List Expr} {ta : TE} {t : TA}
theorem pe_methS {pl : Sem Bool} (he : PE X o ta) (c : Cls X.K C) (hm : Meth X.K C m f) (F : FnOk X.prog X.w X.K X.mg X.base CX k f fd ps sp) (hr : Room k X.A) (hb : Binds X.K fd ps []) (hx : ∀ σ, PassesAt CX X σ (W σ)) (ha : PA X (e :: es) t)
    (g1 : starEach (e :: es) X.env = (false, eval e X.env) :: starEach es X.env := by rfl) (g2 : (backTo pos (starEach es X.env)).any (·.1) = false := by rfl)
    (g3 : eval (.Call (.Attribute o m apos) (e :: es) [] pos) X.env = (do { let ov ← eval o X.env; standAt apos.atName; let (h, first) ← holding [ov] (getMethod ov m pl); callWith pos h first (backTo pos (starEach (e :: es) X.env)) (backToKw pos (keywordEach [] X.env)) }) := by rfl) :
    PE X (.Call (.Attribute o m apos) (e :: es) [] pos) (Q.tMethS C m sp W ta t) := by
  refine ⟨fun pins s σ H Q I h => PySem.W.methodCall_KW (pl := pl) (thn (he.run pins s σ H _ I h) fun u s1 z => ?_) g3⟩
  obtain ⟨x, H1, I1, rx, a, dx, fs, ex, ea, l, q⟩ := z
  subst ex
  obtain rfl : u = Value.ref a := rx
  refine getmeth_ok I1 ea c hm l (PySem.W.callWith_K (first := [.ref a]) (h₀ := X.base) I.ok.mod.kin hm.kp (thn (ha.run pos pins s1 σ H1 _ I1 q) fun us s2 z => ?_) g1 g2)
  obtain ⟨vs, H2, I2, r, q2⟩ := z
  exact ⟨I2.kIn, run_fnS (us := .ref a :: us) (vs := .ref a :: vs) F hr hb (hx σ) I2 (.cons rfl r) q2⟩
end

theorem DpAll.len {K : PySem.W.Frag} {H : Hp} : ∀ {vs : List V} {ds : List PyData}, DpAll K H vs ds → vs.length = ds.length
  | _, _, .nil => rfl
  | _, _, .cons a b => by rw [List.length_cons, List.length_cons, DpAll.len b]
theorem DpAll.get {K : PySem.W.Frag} {H : Hp} : ∀ {vs : List V} {ds : List PyData}, DpAll K H vs ds → ∀ {i : Nat} {d : PyData}, ds[i]? = some d → ∃ v, vs[i]? = some v ∧ Dp K H v d
  | _, _, .nil, i, d, h => by simp at h
  | _, _, .cons a b, 0, d, h => by
    have e := Option.some.inj h
    subst e
    exact ⟨_, rfl, a⟩
  | _, _, .cons a b, i + 1, d, h => DpAll.get b (i := i) (by simpa using h)
/-- depth below n, lists not too long -/
def Fits : Nat → PyData → Prop
  | 0, _ => False
  | n + 1, .list xs => xs.length < 2 ^ 60 ∧ ∀ x ∈ xs, Fits n x
  | n + 1, .tuple xs => xs.length < 2 ^ 60 ∧ ∀ x ∈ xs, Fits n x
  | _ + 1, .dict _ => False
  | _ + 1, _ => True
theorem ty_l {K : PySem.W.Frag} {H : Hp} {a : Addr} {xs : List V} (h : SqL K H a xs) : TyX K H (.ref a) (.type "list") := by
  rcases h with (h | ⟨o, h⟩) | ⟨o, its, n, h1, h2, _⟩
  · exact .base (.lst h)
  · exact .base (.frz h)
  · exact .kList h1 h2
theorem ty_t {K : PySem.W.Frag} {H : Hp} {a : Addr} {xs : List V} (h : SqT K H a xs) : TyX K H (.ref a) (.type "tuple") := by
  rcases h with (h | ⟨o, h⟩) | ⟨o, its, n, h1, h2, _⟩
  · exact .base (.tup h)
  · exact .fTuple h
  · exact .kTuple h1 h2
/-- the two are the same data: True -/
def ySame (K : PySem.W.Frag) (n : Nat) : Sp := fun vs H Q _ => ∃ (x y : V) (d : PyData), vs = [x, y] ∧ Dp K H x d ∧ Dp K H y d ∧ Fits n d ∧ Q (.bl true) H

/-! ### defs called where an error is handled -/
open L2H
section
variable {P : Program} {w : World} {K : PySem.W.Frag} {mg : Str → Option Value} {base : Heap}
theorem hotC_of {CX : CXT} {N : List Str} {qual : Str} {scope : Scope} {f : Addr} {cd : Value} {A : Around} {outer : List Env} {s : Shared} {H : Hp} {E : XK} {p : Addr × Obj} (h : Hot1 A p) : HotC (cxH CX P w K mg base N qual scope f cd A outer s H E p).nox := ⟨p, ⟨h.1, h.2⟩, List.mem_singleton.mpr rfl⟩
theorem _root_.L2.Fun.okH {x qual : Str} {st : Stmt} {f : Addr} {fd : FuncData} {N ps : List Str} {k : Nat} {sp : Sp} (F : Fun K x qual st f fd) (S : FnScope N ps (defScope st)) (len : ∀ vs H Q E, sp vs H Q E → vs.length = ps.length)
    (hbody : ∀ (cdv : Value) (A : Around) (outer : List Env) (s : Shared) (H : Hp) (vs : List V) (Q : VK) (E : XK) (p : Addr × Obj), Hot1 A p → RoomH k (A.deeper (PyProof.Rows.envOfC qual (defScope st) s.heap.objs.size f cdv)) → sp vs H Q E →
      ∃ t, PSs (cxH CX0 P w K mg base N qual (defScope st) f cdv A outer s H E p).nox (defBody st) t ∧ t { nx := fun _ H' => Q .non H', rt := Q } (start N vs) H) : FnH P w K mg base CX0 (k + 1) f fd ps sp := by
  obtain ⟨oc, od, kV, doc, pm, an, cdv, ct, osl, rfl, lk, hcd⟩ := F.ex
  refine fn_ofH lk hcd S len fun A outer s H vs Q E p hot hr hsp => ?_
  obtain ⟨t, h, q⟩ := hbody cdv A outer s H vs Q E p hot hr hsp
  exact ⟨t, h.nox, q⟩
end

/-! ### layer Q: _law_same, by its older promise -/
namespace Q
open PySem L2 Y
def fitsB : Nat → PyData → Bool
  | 0, _ => false
  | n + 1, .list xs => decide (xs.length < 2 ^ 60) && xs.all (fitsB n)
  | n + 1, .tuple xs => decide (xs.length < 2 ^ 60) && xs.all (fitsB n)
  | _ + 1, .dict _ => false
  | _ + 1, _ => true
theorem fitsB_ok : ∀ (n : Nat) (d : PyData), fitsB n d = true → Fits n d
  | 0, _, h => by cases h
  | n + 1, d, h => by
    cases d with
    | list xs =>
      rw [fitsB, Bool.and_eq_true, List.all_eq_true] at h
      exact ⟨of_decide_eq_true h.1, fun x hx => fitsB_ok n x (h.2 x hx)⟩
    | tuple xs =>
      rw [fitsB, Bool.and_eq_true, List.all_eq_true] at h
      exact ⟨of_decide_eq_true h.1, fun x hx => fitsB_ok n x (h.2 x hx)⟩
    | dict xs => cases h
    | none => exact trivial
    | bool b => exact trivial
    | int b => exact trivial
    | str b => exact trivial
def Sv.rs? : Sv → Option PyData
  | .own (.dat d) => some d
  | .lent (.dat d) => some d
  | .lent (.lst ds) => some (.list ds)
  | _ => none
def sameB (d e : PyData) : Bool := nb d && nb e && PyData.eqv d e && d.canLay0 && fitsB 9 d
def xSame : Env → Option (Tr × Env)
  | [a, b] => match a.rs?, b.rs? with
    | some d, some e => if sameB d e = true then some (.dat (.bool true), [.un, .un]) else none
    | _, _ => none
  | _ => none
section
variable {K : PySem.W.Frag} {CA : Str → Addr} {Tb : List Tbl2} {H0 M0 H M H' M' : Hp} {pin : Nat → V × List Addr} {env : Env} {fps : List (List Addr)} {σ : L2.St}
theorem rs_rd {s : Sv} {d : PyData} (h : s.rs? = some d) : s.rd? = some d := by
  cases s with
  | un => cases h
  | arg t => cases h
  | own t => cases t <;> first | (cases h; rfl) | cases h
  | lent t => cases t <;> first | (cases h; rfl) | cases h
theorem rs_at (k : Ok K CA Tb H0 M0 pin env fps σ H M) {i : Nat} {s : Sv} {d : PyData} (h : env[i]? = some s) (hd : s.rs? = some d) (hc : d.canLay0 = true) : ∃ v, σ[i]? = some (some v) ∧ Dp K H v d := by
  have e : xVarR i env = some (d, env) := by
    unfold xVarR
    rw [h]
    dsimp only
    rw [rs_rd hd]; rfl
  obtain ⟨v, h1, M', f', k', s', r⟩ := sim_varR (K := K) (CA := CA) (Tb := Tb) _ _ _ e H0 M0 pin fps σ H M (fun v H' => ∃ M' fps', Ok K CA Tb H0 M0 pin env fps' σ H' M' ∧ Same M M' ∧ Rv K Tb M' H0 v d) k fun v H' M' fps' k' s' r => ⟨M', fps', k', s', r⟩
  exact ⟨v, h1, Rv.dp k'.sub (r.at k') hc⟩
theorem same_of {vs : List V} {Q : VK} {E : XK} (h : PX K CA Tb xSame vs H Q E) : ySame K 9 vs H Q E := by
  obtain ⟨H0, pin, M, as, envf, r, fps, h1, h2, k, q⟩ := h
  unfold xSame at h1
  split at h1
  · rename_i a b
    split at h1
    · rename_i d e ea eb
      split at h1
      · rename_i hs
        cases h1
        unfold sameB at hs
        rw [Bool.and_eq_true, Bool.and_eq_true, Bool.and_eq_true, Bool.and_eq_true] at hs
        obtain ⟨⟨⟨⟨hn1, hn2⟩, he⟩, hc⟩, hf⟩ := hs
        have ede := (eqv_eq d e hn1 hn2).mp he
        subst ede
        obtain ⟨v, g1, dv⟩ := rs_at k (i := 0) rfl ea hc
        obtain ⟨w, g2, dw⟩ := rs_at k (i := 1) rfl eb hc
        have hl := k.sls.le
        rw [List.length_map] at hl
        match vs, hl with
        | [x, y], _ =>
          cases g1
          cases g2
          have cl : clean 2 [a, b] = [.un, .un] := by
            cases a with
            | arg t => cases ea
            | _ => cases b with
              | arg t => cases eb
              | _ => rfl
          have kk := pin_of (vs := [v, w]) k k (fun i v h _ => h2 i v h)
          rw [show ([v, w] : List V).length = 2 from rfl, cl] at kk
          exact ⟨v, w, d, rfl, dv, dw, fitsB_ok 9 d hf, q (.bl true) H M _ [] kk (.dat (.bl true)) ⟨List.nodup_nil, fun _ h => nomatch h⟩⟩
      · cases h1
    · cases h1
  · cases h1
/-- in an except suite -/
def hRetSame (c C f : Str) (j : Nat) (fs : List (Str × PyData)) : XS := fun env => if c = C then match fs.lookup f, (env[j]?).bind Sv.rs? with
  | some d, some e => if sameB d e = true then some (.ret (.dat (.bool true)) env) else none
  | _, _ => none else none
def hIfSame (c C f : Str) (j : Nat) (fs : List (Str × PyData)) : XS := fun env => if c = C then match fs.lookup f, (env[j]?).bind Sv.rs? with
  | some d, some e => if sameB d e = true then some (.nx env) else none
  | _, _ => none else none
variable {a : Addr} {cls : Value} {d : Option Addr} {i : Nat} {c : Str} {fs : List (Str × PyData)}
theorem same_suite {C f : Str} {j : Nat} {x y : PyData} {E : L2.St → XK} {Q : VK} (k : Ok K CA Tb H0 M0 pin env fps σ H M) (h1 : σ[i]? = some (some (.ref a))) (h2 : cls = .ref (CA C)) (h3 : ErrAt K M H d fs) (hx : fs.lookup f = some x) (hy : (env[j]?).bind Sv.rs? = some y) (hs : sameB x y = true) (q : Q (.bl true) H) : tCallS (ySame K 9) E (tCons (tXf a cls d (CA C) f (tVar i)) (tCons (tVar j) tNil)) σ H Q := by
  unfold sameB at hs
  rw [Bool.and_eq_true, Bool.and_eq_true, Bool.and_eq_true, Bool.and_eq_true] at hs
  obtain ⟨⟨⟨⟨hn1, hn2⟩, he⟩, hc⟩, hf⟩ := hs
  have ede := (eqv_eq x y hn1 hn2).mp he
  subst ede
  obtain ⟨s, e1, e2⟩ := Option.bind_eq_some_iff.mp hy
  obtain ⟨w, g2, dw⟩ := rs_at k e1 e2 hc
  rcases h3 with ⟨dd, vs, rfl, hd, hfl⟩ | ⟨_, z⟩
  · obtain ⟨v, hv, dv⟩ := flds_at hfl hx
    exact ⟨_, h1, rfl, h2, dd, vs, v, rfl, hd, hv, w, g2, v, w, x, rfl, Rv.dp k.sub (.dq dv) hc, dw, fitsB_ok 9 x hf, q⟩
  · rw [z] at hx; cases hx
theorem simH_retSame {C f : Str} {j : Nat} {E : L2.St → XK} : SimH K CA Tb a cls d i c fs (tRet (tCallS (ySame K 9) E (tCons (tXf a cls d (CA C) f (tVar i)) (tCons (tVar j) tNil)))) (hRetSame c C f j fs) := fun env o e H0 M0 pin fps σ H M D k h1 h2 h3 q => by
  unfold hRetSame at e
  split at e
  · rename_i hcc
    subst hcc
    split at e
    · rename_i x y hx hy
      split at e
      · rename_i hs
        cases e
        exact same_suite k h1 h2 h3 hx hy hs (q _ _ _ M _ [] k (.dat (.bl true)) ⟨List.nodup_nil, fun _ h => nomatch h⟩)
      · cases e
    · cases e
  · cases e
theorem simH_ifSame {C f : Str} {j : Nat} {E : L2.St → XK} {t : TS} : SimH K CA Tb a cls d i c fs (tIfS (tNot (tB (tCallS (ySame K 9) E (tCons (tXf a cls d (CA C) f (tVar i)) (tCons (tVar j) tNil))))) t tNext) (hIfSame c C f j fs) := fun env o e H0 M0 pin fps σ H M D k h1 h2 h3 q => by
  unfold hIfSame at e
  split at e
  · rename_i hcc
    subst hcc
    split at e
    · rename_i x y hx hy
      split at e
      · rename_i hs
        cases e
        exact same_suite k h1 h2 h3 hx hy hs ⟨true, rfl, q _ _ _ _ k⟩
      · cases e
    · cases e
  · cases e
end
end Q

/-! ### errors raised where none is handled: their context is None -/
theorem takes0N {X : Cx} : L2N.Takes X (fun _ _ _ _ => False) := fun _ _ x => by
  obtain ⟨_, _, _, _, _, _, _, _, _, _, _, _, _, _, _, _, z⟩ := x
  exact z.elim
theorem _root_.L2.Fun.okXN {P : Program} {w : World} {K : PySem.W.Frag} {mg : Str → Option Value} {base : Heap} {x qual : Str} {st : Stmt} {f : Addr} {fd : FuncData} {N ps : List Str} {k : Nat} {sp : Sp} (F : Fun K x qual st f fd) (S : FnScope N ps (defScope st)) (len : ∀ vs H Q E, sp vs H Q E → vs.length = ps.length)
    (hbody : ∀ (cdv : Value) (A : Around) (outer : List Env) (s : Shared) (H : Hp) (vs : List V) (Q : VK) (E : XK), Room k (A.deeper (PyProof.Rows.envOfC qual (defScope st) s.heap.objs.size f cdv)) → sp vs H Q E →
      ∃ t, PSs (cxOf (L2N.CX P w) P w K mg base N qual (defScope st) f cdv A outer s H E) (defBody st) t ∧ t { nx := fun _ H' => Q .non H', rt := Q } (start N vs) H) : FnOk P w K mg base (L2N.CX P w) (k + 1) f fd ps sp := by
  obtain ⟨oc, od, kV, doc, pm, an, cdv, ct, osl, rfl, lk, hcd⟩ := F.ex
  exact fn_of lk hcd S len fun A outer s H vs Q E hr hsp => hbody cdv A outer s H vs Q E hr hsp
section
open PySem.Spec PyProof.Rows
theorem pmk_oexN {X : Cx} {CX : CXT} {x : Str} {e : Expr} {es : List Expr} {ta : TA} {p pos : Pos} {C fI : Addr} {k : Nat} {fd : FuncData} {ps : List Str} {sp : Sp} {ds : List Value} {dvs : List V} (T : OexC X.K C)
    (iC : PySem.W.findIn X.K (.ref C) "__init__" = some (some (.ref fI))) (tI : PySem.W.typeIn X.K (.ref fI) = some (.type "function"))
    (F1 : FnOk X.prog X.w X.K X.mg X.base CX k fI fd ps sp) (hr : Room (k + 1) X.A) (hb : Binds X.K fd ps ds) (hd : Vals dvs ds) (hx : Passes CX X (fun _ _ _ => False)) (hg : Gl X x) (hm : X.mg x = some (.ref C)) (ha : PA X (e :: es) ta)
    (hdb : (x == ("__debug__" : Str)) = false := by decide) (he : starEach (e :: es) X.env = (false, eval e X.env) :: starEach es X.env := by rfl) (hpl : (backTo pos (starEach es X.env)).any (·.1) = false := by rfl) :
    L2N.PMk X (.Call (.Name x p) (e :: es) [] pos) (tMkO C sp dvs ta) := by
  intro pins s σ H Q I h
  obtain ⟨nm, q, N, bs, bm, sn, sub, ab, col, dd, k0, k1, k2, k3, k5, hC, hbm⟩ := T.cls
  refine wpAny_Call_Name_kw (ld_glob I hg hm ?_ hdb)
  refine PySem.W.callWith_K (h₀ := X.base) I.ok.mod.kin T.kC (thn (ha.run pos pins s σ H _ I h) fun us s1 ⟨vs, H1, I1, r1, hz, q1⟩ => ⟨I1.kIn, ?_⟩) he hpl
  obtain ⟨hp, g, dr, tk, os⟩ := s1
  -- the new object stands behind the tuple of its arguments
  let h2 : Heap := (hp.push (PySem.W.kdv_tup us)).push (PySem.HandSPX.excO C hp.objs.size)
  have le : hp.objs.size ≤ hp.objs.size + 1 := Nat.le_succ _
  have q2 := q1 (hp.objs.size + 1) (I1.hok.fresh le)
  have keep : ∀ b o, hp.get? b = some o → h2.get? b = some o := fun b o z => Heap.get?_push_of_some _ (Heap.get?_push_of_some _ z)
  have new : h2.get? (hp.objs.size + 1) = some (PySem.HandSPX.excO C hp.objs.size) := by heap_get
  have I2 : Inv X pins σ (upd H1 (hp.objs.size + 1) (exo (hp.objs.size + 1) C none)) ⟨h2, g, dr, tk, os⟩ := I1.laid (t' := tk) keep le (exo_ok new)
  have r2 : Vals (V.ref (hp.objs.size + 1) :: (vs ++ dvs)) (Value.ref (hp.objs.size + 1) :: (us ++ ds)) := .cons rfl (r1.append hd)
  have len : (Value.ref (hp.objs.size + 1) :: us ++ ds).length = ps.length := r2.length.symm.trans (F1.len _ _ _ _ q2)
  have small : us.length ≤ sizeLine := by rw [← Paired.length r1, sizeLine_eq]; omega
  show wpAny _ _ (call (.ref C) us) _ _ _
  refine wpAny_call (PySem.HandSPX.call_own PySem.F.excBase_ValueError (fun Y => PySem.HandSPX.refsVE_contains Y bm hbm) (I1.kIn _ _ hC) (PySem.W.looks_findIn I1.kIn iC) (fun self => PySem.W.bind_fn I1.kIn self tI) small
    (codeAny_mono (F1.run _ X.stack _ _ ⟨Value.ref (hp.objs.size + 1) :: us, []⟩ (Value.ref (hp.objs.size + 1) :: (us ++ ds)) _ _ (fun _ _ _ => False) (hr.make C us []) (I2.env0.make C us []) (hb _ (Value.ref (hp.objs.size + 1) :: us) I2.kIn len) r2 q2) fun r s' after => ?_))
  match r, after with
  | .error er, after => exact hx pins σ _ _ er s' I2 after
  | .ok (.ret u), after =>
    obtain ⟨v, H2, os2, bare2, un2, hok2, rv, ev, d, fs, ea, ed, hd1, q3⟩ := after
    subst ev
    obtain ⟨h3, g2, d2, t2, os'⟩ := s'
    obtain ⟨t0, G, J, kG, ge, hoe, na⟩ := mk_end0 (d2 := d2) (t2 := t2) I1 le keep un2 hok2 os2 bare2 ea ed hd1
    exact ⟨rv, hp.objs.size + 1, _, _, ⟨G, g2, d2, t2, os'⟩, _, .ref C, some d, rfl, J, kG, ge, hoe, ⟨rfl, rfl, fun vs hv => by cases hv; rfl⟩, rfl, rfl, na, rfl, bare2, raises_own T.exC T.tyC, q3⟩
end

/-! ### layer Q: errors of what is lent, of a loop's head; defs that may raise where they don't -/
theorem passF {P : Program} {w : World} {X : Cx} : Passes (L2N.CX P w) X (fun _ _ _ => False) := fun _ _ _ _ _ _ _ c => by
  obtain ⟨_, _, _, _, _, _, _, _, _, _, _, _, z⟩ := c
  exact z.elim
theorem hot_suiteQ {X : Cx} {a : Addr} {oe : Obj} {cls : Value} {d : Option Addr} {pn : List (Addr × Obj)} (hz : L2N.Zn cls d oe) (hf : ∃ vs, oe.data = .fields vs) : L2H.HotC (X.suite a ((a, oe) :: pn)) := by
  obtain ⟨vs, hd⟩ := hf
  exact ⟨(a, oe), ⟨rfl, vs, hd, hz.2.2 vs hd⟩, List.mem_cons_self⟩
namespace Q
open PySem L2 Y
section
variable {K : PySem.W.Frag} {CA : Str → Addr} {Tb : List Tbl2} {W : WX}
/-- o.m(..), o lent: how it ends -/
def resL (c m : Str) (i : Nat) (f : Env → Option (RX × Env)) (g : XG) : Env → Option (RX × Env) := fun env => match env[i]? with
  | some (.lent (.obj c' fs)) => if c' = c ∧ (fs.lookup m).isNone = true then x1 g (fun ads => (f (.lent (.obj c fs) :: ads.map Ad.sv)).map (·.1)) env else none
  | _ => none
theorem sim_resL {m c : Str} {i : Nat} {f : Env → Option (RX × Env)} {ta : TA} {g : XG} (hg : SimG K CA Tb ta g) {env env' : Env} {r : RX} (e : resL c m i f g env = some (r, env')) {H0 M0 H M : Hp} {pin : Nat → V × List Addr} {fps : List (List Addr)} {σ : L2.St} {Q : VK} {E : L2.St → XK} (k : Ok K CA Tb H0 M0 pin env fps σ H M)
    (q : ∀ H' M' fps', Ok K CA Tb H0 M0 pin env' fps' σ H' M' → Same M M' → ResK K CA H0 M' H' fps' Q (E σ) r) : tMethS (CA c) m (PXQ K CA Tb f) E (tVar i) ta σ H Q := by
  unfold resL at e
  split at e
  · rename_i c' fs h1
    split at e
    · rename_i h30
      obtain ⟨ec, h31⟩ := h30
      have h3 : fs.lookup m = none := Option.isNone_iff_eq_none.mp h31
      obtain ⟨ads, h4, h5⟩ := x1_some e
      obtain ⟨⟨r', envf⟩, h6, rfl⟩ := Option.map_eq_some_iff.mp h5
      obtain ⟨v0, v1, p1, g1, g2, g3, g4⟩ := k.lentAt h1 (ps := []) rfl
      subst ec
      have g3' := g3
      cases g3 with
      | @obj _ a dx _ fvs fq a1 a2 =>
      have a0 := g4 _ List.mem_cons_self
      have g2' : v0 = .ref a := g2
      subst g2'
      refine ⟨_, g1, a, dx, fvs, rfl, k.base _ _ a1 a0.2, FsOk.none a2 h3, ?_⟩
      refine hg _ _ _ h4 H0 M0 pin fps σ H M _ k fun vs H1 M1 f1 ls k1 s1 b1 => ?_
      exact call_q0 k1 (ads := .l (.obj c' fs) :: ads) (.cons (.l (TrOk.mono s1 (fun _ _ => rfl) g3') g4) b1) h6 fun H' M' k' s' => q H' M' f1 k' (s1.trans s')
    · cases e
  · cases e
def eMethL (c m : Str) (i : Nat) (f : Env → Option (RX × Env)) (g : XG) : XQ := fun env => match resL c m i f g env with
  | some (.ok _, e) => some (.o (.nx e))
  | some (.er c fs, e) => some (.ex c fs e)
  | none => none
theorem sim_emethL {m c : Str} {i : Nat} {f : Env → Option (RX × Env)} {ta : TA} {g : XG} (hg : SimG K CA Tb ta g) : SimE K CA Tb W (tDrop (tMethS (CA c) m (PXQ K CA Tb f) (WE W) (tVar i) ta)) (eMethL c m i f g) := fun env o e H0 M0 pin fps σ H M D k q => by
  unfold eMethL at e
  split at e
  · rename_i t e1 h1
    cases e
    exact sim_resL hg h1 k fun H' M' fps' k' s' v fr tv hf => q _ _ _ _ k'
  · rename_i c' fs e1 h1
    cases e
    exact sim_resL hg h1 k fun H' M' fps' k' s' d er => q _ _ _ _ d k' er
  · cases e
/-- for .. in o.m(..), where the call raises -/
def eForX (c m : Str) (i : Nat) (f : Env → Option (RX × Env)) (g : XG) : XQ := fun env => match resL c m i f g env with
  | some (.er c fs, e) => some (.ex c fs e)
  | _ => none
theorem sim_eforX {m c : Str} {i : Nat} {f : Env → Option (RX × Env)} {ta : TA} {g : XG} {tg : TG} {tb : TS} (hg : SimG K CA Tb ta g) : SimE K CA Tb W (tFor (iTup K (tMethS (CA c) m (PXQ K CA Tb f) (WE W) (tVar i) ta)) tg tb) (eForX c m i f g) := fun env o e H0 M0 pin fps σ H M D k q => by
  unfold eForX at e
  split at e
  · rename_i c' fs e1 h1
    cases e
    exact sim_resL hg h1 k fun H' M' fps' k' s' d er => q _ _ _ _ d k' er
  · cases e
end
end Q

/-! ### set(xs) of texts -/
section
open PySem.Spec PyProof.Rows
variable {P : Program} {w : World} {A : Around} {E : Value → Shared → Prop} {s : Shared}
abbrev newZ (w : World) : Obj := { cls := .type "set", dict := none, data := .set #[] 0 (.fresh 0 0 (!w.params.followText "set-order")) }
theorem take_foldS {ks : List Str} {i : Nat} {k : Str} (h : ks[i]? = some k) : (ks.take (i + 1)).foldl addS [] = addS ((ks.take i).foldl addS []) k := by
  rw [List.take_add_one, h, List.foldl_append]; rfl
theorem foldS_len (ks : List Str) : ∀ L : List Str, (ks.foldl addS L).length ≤ L.length + ks.length := by
  induction ks with
  | nil => intro L; exact Nat.le_refl _
  | cons k ks ih =>
    intro L
    have h1 := ih (addS L k)
    have h2 := addS_len (L := L) (k := k)
    rw [List.foldl_cons, List.length_cons]; omega
/-- set.update's loop, over texts -/
theorem set_updateS {I : Addr} {fp wr : List Addr} {G : Array GenState → Array GenState → Prop} {n : Nat} {Pv : Nat → Value → Prop} {St : Nat → Shared → Prop} {R : Result → Shared → Prop}
    (W : WalksS P w A.in1 I fp wr G n Pv St) (D : Addr) (hDf : D ∉ fp) (ks : List Str) (hn : n = ks.length) (hfew : ks.length + 1 < scanBound) (hval : ∀ i v, Pv i v → ∃ k tk, ks[i]? = some k ∧ v = .str k tk)
    (h0 : Heap) (hD0 : h0.get? D = none) (hw0 : ∀ b ∈ wr, h0.get? b = none) :
    ∀ (m i : Nat) (s : Shared), n - i = m → i ≤ n → St i s → (∀ b o, h0.get? b = some o → s.heap.get? b = some o) → SetS w s.heap D ((ks.take i).foldl addS []) →
      (∀ sz, Moved (D :: wr) G s sz → SetS w sz.heap D (ks.foldl addS []) → (∀ b o, h0.get? b = some o → sz.heap.get? b = some o) → R (.ok (.ret .none)) sz) →
      codeAny (model P w) A (.builtin "set.update.loop" ⟨[.ref D, .ref I], []⟩) R s := by
  have nDw : D ∉ wr := fun h => hDf (W.sub _ h)
  have mono : ∀ b ∈ wr, b ∈ D :: wr := fun b hb => List.mem_cons_of_mem _ hb
  have over : ∀ {s sz : Shared}, Moved wr G s sz → (∀ b o, h0.get? b = some o → s.heap.get? b = some o) → ∀ b o, h0.get? b = some o → sz.heap.get? b = some o := fun hm c b o e =>
    hm.heap b o (fun hb => by rw [hw0 b hb] at e; cases e) (c b o e)
  intro m
  induction m with
  | zero =>
    intro i s hm1 hi hst c T hR
    obtain rfl : i = n := by omega
    refine codeAny_builtin F.entry_set_update_loop ?_
    rw [Around.under_plainId F.plain_set_update_loop _]
    show wpAny _ A.in1 (pyNext (.ref I) >>= _) _ _ s
    refine wpAny_bind (W.done s _ _ hst fun sz hm => ?_)
    show wpAny _ A.in1 (ret Value.none) _ _ sz
    rw [hn, List.take_length] at T
    exact wpAny_pure (hR sz (hm.mono mono) (T.at fun o e => hm.heap D o nDw e) (over hm c))
  | succ m ih =>
    intro i s hm1 hi hst c T hR
    have hlt : i < n := by omega
    refine codeAny_builtin F.entry_set_update_loop ?_
    rw [Around.under_plainId F.plain_set_update_loop _]
    show wpAny _ A.in1 (pyNext (.ref I) >>= _) _ _ s
    refine wpAny_bind (W.item i s _ _ hlt hst fun v sz hP hst1 hm => ?_)
    obtain ⟨k, tk, hp, rfl⟩ := hval i v hP
    have c1 := over hm c
    have T1 : SetS w sz.heap D ((ks.take i).foldl addS []) := T.at fun o e => hm.heap D o nDw e
    have hkey : (strKind P w).is k (.str k tk) = true := by show Value.isStrOf k (.str k tk) = true; simp [Value.isStrOf]
    have room : ((ks.take i).foldl addS []).length + 1 < scanBound := by
      have h1 := foldS_len (ks.take i) []
      rw [List.length_nil, List.length_take] at h1
      omega
    show wpAny _ A.in1 (holding [Value.str k tk] (setAdd D (.str k tk)) >>= _) _ _ sz
    refine wpAny_bind (wpAny_holding ?_)
    unfold setAdd
    refine wpAny_holding ?_
    refine wpAny_bind ((strKind P w).pyHash hkey ?_)
    refine setS_add_hashed T1 room fun b h2 sb T2 => ?_
    have c2 : ∀ b o, h0.get? b = some o → h2.get? b = some o := fun b o e => (sb.2 b (fun z => by rw [z, hD0] at e; cases e)).trans (c1 b o e)
    rw [← take_foldS hp] at T2
    refine wpAny_pure ⟨plainId_quiet F.plain_set_update_loop _, ih (i + 1) _ (by omega) hlt (W.frame _ sz _ _ hst1 (Nat.le_succ _) fun b hb o e => (sb.2 b fun z => hDf (by rw [← z]; exact hb)).trans e) c2 T2 fun s3 hm3 T3 c3 => ?_⟩
    exact hR s3 (Moved.trans W.gtrans ((hm.mono mono).then_heap (Nat.le_succ _) fun b o hb e => (sb.2 b fun z => hb (by rw [z]; exact List.mem_cons_self)).trans e) hm3) T3 c3

set_option maxRecDepth 100000 in
set_option maxHeartbeats 3200000 in
/-- set(xs), xs a list of texts -/
theorem call_setS_list {l : Addr} {items : Array Value} (ks : List Str) {Q : Value → Shared → Prop} (hh : A.handled = none) (hl : s.heap.IsList l items) (hsz : items.size = ks.length) (vals : ∀ (i : Nat) (v : Value), items[i]? = some v → ∃ k tk, ks[i]? = some k ∧ v = .str k tk)
    (hfew : ks.length + 1 < scanBound)
    (h : ∀ (h1 : Heap) (tk : Nat), SetS w h1 s.heap.objs.size (ks.foldl addS []) → (∀ b o, s.heap.get? b = some o → h1.get? b = some o) → Q (.ref s.heap.objs.size) { s with heap := h1, toks := tk }) :
    wpAny (model P w) A (call (.type "set") [.ref l]) Q E s := by
  obtain ⟨mc, mtl, hmro⟩ := F.called_set.mro
  have m1 := F.called_set.made
  have m2 := F.called_set.sub
  refine wpAny_call (codeAny_of_tree ?_)
  show wpAny _ _ (callAny (.type "set") _) _ _ _
  refine wpAny_pure ⟨Code.quiet_builtin _ (by decide +kernel), codeAny_builtin F.entry_type_call ?_⟩
  rw [Around.under_plain (weight_type_call_type "set" [.ref l] []) rfl]
  have m3 := F.called_set.notType
  have m4 := F.called_set.canCreate
  have m5 := F.typeCall_set_1 (.ref l)
  repeat (any_goals (first | assumption | wp_step))

  refine codeAny_mono (code_set_led1 (.ref l) (E := E) (Q₁ := fun v sx => v = .ref s.heap.objs.size ∧ sx = { s with heap := s.heap.push (newZ w) }) ⟨rfl, rfl⟩) fun r s₁ hr => ?_
  cases r with
  | error e => exact hr
  | ok fl =>
    cases fl with
    | ret obj =>
      obtain ⟨rfl, rfl⟩ := hr
      have gS : (s.heap.push (newZ w)).get? s.heap.objs.size = some (newZ w) := Heap.get?_push_size _ rfl
      have tS : Shared.TypeIs { s with heap := s.heap.push (newZ w) } (.ref s.heap.objs.size) "set" := ⟨_, gS, rfl⟩
      have m6 := F.called_set.init.lookup
      have m7 := F.called_set.init.bind (.ref s.heap.objs.size)
      repeat (any_goals (first | assumption | wp_step))

      refine codeAny_mono (codeAny_call_builtin (R := wants (fun r sx => r = .none ∧ ∃ h1 tk, sx = { s with heap := h1, toks := tk } ∧ SetS w h1 s.heap.objs.size (ks.foldl addS []) ∧
          (∀ b o, s.heap.get? b = some o → h1.get? b = some o)) E) F.called_set.init.plain F.entry_set_init (check_set_init_1 tS ?_)) fun r₂ s₂ hr₂ => ?_
      · obtain ⟨ol, hol, hcl, nl, hdl⟩ := hl
        obtain ⟨ocls, odict, odata, oslots⟩ := ol
        dsimp only at hcl hdl
        subst hcl; subst hdl
        have gl : (s.heap.push (newZ w)).get? l = some { cls := .type "list", dict := odict, data := .seq items nl, slots := oslots } := Heap.get?_push_of_some _ hol
        have m8 := F.sub_list_set
        have m9 := F.sub_list_frozenset
        have m10 : (Value.type "list" == Value.type "dict") = false := by decide
        have il : (s.heap.push (newZ w)).IsList l items := ⟨_, gl, rfl, nl, rfl⟩
        unfold Builtin.«set.__init__» noKeywords Builtin.Frozenset.updateFrom
        generalize hPI : pyIter = PI
        wp_walk
        subst hPI

        refine wpAny_pyIter_list il ?_
        refine wpAny_bind (wpAny_runValue ?_)
        have lS : l < s.heap.objs.size := Heap.lt_size hol
        have a3 : A.in1.in1.in1.handled = none := by simp [hh]
        have z1 : (s.heap.push (newZ w)).objs.size = s.heap.objs.size + 1 := Heap.size_push ..
        have nI : l ≠ (s.heap.push (newZ w)).objs.size := by
          rw [z1]; exact Nat.ne_of_lt (Nat.lt_succ_of_lt lS)
        have fS : s.heap.objs.size ∉ [(s.heap.push (newZ w)).objs.size, l] := by
          rw [z1]; simp only [List.mem_cons, List.not_mem_nil, or_false, not_or]
          exact And.intro (Nat.ne_of_lt (Nat.lt_succ_self _)) (Nat.ne_of_gt lS)
        have gone : ∀ b, s.heap.objs.size ≤ b → s.heap.get? b = none := fun b hb => by
          cases q : s.heap.get? b with
          | none => rfl
          | some o => exact absurd (Heap.lt_size q) (Nat.not_lt.mpr hb)
        refine set_updateS ((Walks.list a3 _ l nI items).toS) s.heap.objs.size
          fS ks hsz hfew vals s.heap (gone _ (Nat.le_refl _)) (fun b hb => gone b (by
            rw [List.mem_singleton.mp hb, z1]
            exact Nat.le_succ _)) (items.size - 0) 0 _ (by omega) (Nat.zero_le _)
          ⟨⟨_, Heap.get?_push_size _ rfl, rfl, rfl⟩, (il.push _)⟩ (fun b o e => Heap.get?_push_of_some _ (Heap.get?_push_of_some _ e)) ?hS0 ?hR
        case hS0 =>
          have g0 : ((s.heap.push (newZ w)).push { cls := .type "list_iterator", data := .fields #[.ref l, .int 0 0] }).get? s.heap.objs.size = some (newZ w) := Heap.get?_push_of_some _ gS
          exact setS_fresh g0
        case hR =>
          intro sz hm r1 r3
          obtain ⟨h1, g2, d1, tk1, os1⟩ := sz
          have eg : g2 = s.gens := hm.gens
          have ed : d1 = s.drawn := hm.drawn
          have eo : os1 = s.os := hm.os
          subst eg; subst ed; subst eo
          show wpAny _ _ _ _ _ _
          refine wpAny_pure ?_
          show wpAny _ _ (ret Value.none) _ _ _
          exact wpAny_pure ⟨rfl, h1, tk1, rfl, r1, r3⟩

      · cases r₂ with
        | error e => exact hr₂
        | ok fl₂ =>
          cases fl₂ with
          | ret r =>
            obtain ⟨rfl, h1, tk, rfl, y1, y3⟩ := hr₂
            repeat (any_goals (first | assumption | wp_step))
            exact h _ _ y1 y3
          | _ => exact hr₂.elim
    | _ => exact hr.elim

variable {X : Cx}
/-- set(xs), xs a list of texts -/
def rSetS (K : PySem.W.Frag) (w : World) : List V → Hp → VK → Prop := fun xs H Q => ∃ (l : Addr) (ks : List Str), xs = [V.ref l] ∧ SqL K H l (ks.map V.str) ∧ ks.length + 1 < scanBound ∧
  ∀ D, H D = none → Q (.ref D) (upd H D (SetSO w D (ks.foldl addS [])))
theorem cr_setS (hc : X.calm = true) : CallR X (.type "set") (rSetS X.K X.w) := by
  intro pins s σ H xs us Q I r h
  obtain ⟨l, ks, rfl, hl, hf, q⟩ := h
  rw [Vals.ref1 r]
  have hn : H s.heap.objs.size = none := I.hok.fresh (Nat.le_refl _)
  obtain ⟨its, rv, pl, hz⟩ := I.list hl
  have at_ : ∀ {ks : List Str} {us : List Value}, Vals (ks.map V.str) us → us.length = ks.length ∧ ∀ (i : Nat) (v : Value), us[i]? = some v → ∃ k tk, ks[i]? = some k ∧ v = .str k tk := fun {ks} => by
    induction ks with
    | nil => intro us r; cases r; exact ⟨rfl, fun i v z => by cases i <;> cases z⟩
    | cons k ks ih =>
      intro us r
      cases r with
      | cons a t =>
        obtain ⟨h1, h2⟩ := ih t
        refine ⟨by rw [List.length_cons, List.length_cons, h1], fun i v z => ?_⟩
        cases i with
        | zero =>
          obtain ⟨tk, rfl⟩ := a
          cases z
          exact ⟨k, tk, rfl, rfl⟩
        | succ i => exact h2 i v z
  obtain ⟨a1, a2⟩ := at_ rv
  refine call_setS_list (P := X.prog) (w := X.w) ks (I.ok.hd hc) pl.isList (by simpa using a1) (fun i v z => a2 i v (by simpa using z)) hf fun h1 tk R k => ?_
  exact ⟨.ref s.heap.objs.size, upd H s.heap.objs.size (SetSO X.w s.heap.objs.size (ks.foldl addS [])), I.laid (t' := tk) k (Nat.le_refl _) (setSO_new R), rfl, q _ hn⟩
end

/-! ### layer Q: sorted(set(xs)), sorted(xs) of texts -/
namespace Q
open PySem L2 Y
open PySem.W (EachIs AllAlike Sortable dataLe)
section
variable {K : PySem.W.Frag} {CA : Str → Addr} {Tb : List Tbl2} {H0 M0 H M H' M' : Hp} {pin : Nat → V × List Addr} {env : Env} {fps : List (List Addr)} {σ : L2.St}
theorem dq_strs : ∀ {vs : List V} {ds : List PyData} {ks : List Str}, DqAll K M vs ds → strsD ds = some ks → vs = ks.map V.str
  | _, _, _, .nil, h => by cases h; rfl
  | _, _, _, .cons a b, h => by
    obtain ⟨k, ks', rfl, h2, rfl⟩ := strsD_cons h
    rw [dq_str a, dq_strs b h2]; rfl
theorem strsD_map : ∀ {ds : List PyData} {ks : List Str}, strsD ds = some ks → ds = ks.map PyData.str
  | [], _, h => by cases h; rfl
  | d :: ds, _, h => by
    obtain ⟨k, ks', rfl, h2, rfl⟩ := strsD_cons h
    rw [strsD_map h2]; rfl
theorem strsD_of : ∀ ks : List Str, strsD (ks.map PyData.str) = some ks
  | [] => rfl
  | k :: ks => by
    rw [List.map_cons]
    show (strsD (ks.map PyData.str)).map (k :: ·) = _
    rw [strsD_of ks]; rfl
theorem str_dq : ∀ ks : List Str, DqAll K M (ks.map V.str) (ks.map PyData.str)
  | [] => .nil
  | k :: ks => .cons (.str k) (str_dq ks)
/-- sorted(set(xs)) -/
def rSortSet (K : PySem.W.Frag) (w : World) : List V → Hp → VK → Prop := fun xs H Q => rSetS K w xs H fun y H2 => rSortS w K [y] H2 Q
def cSortSet : List PyData → Option (List PyData)
  | [.list ds] => match strsD ds with
    | some ks => if fewS ks.length = true then some (((setS ks).map PyData.str).mergeSort (dataLe false id)) else none
    | none => none
  | _ => none
theorem simC_sortSet {w : World} : SimCN K (rSortSet K w) cSortSet := fun d c h H M x Q s hx q => by
  unfold cSortSet at h
  split at h
  case h_2 => cases h
  rename_i ds
  split at h
  case h_2 => cases h
  rename_i ks h1
  split at h
  case isFalse => cases h
  rename_i hc
  cases h
  obtain ⟨v, rfl, r⟩ := rvA_one hx
  obtain ⟨p, vs, rfl, e1, e2⟩ := r.lst s
  rw [dq_strs e2 h1] at e1
  refine ⟨p, ks, rfl, SqL.of e1, of_decide_eq_true hc, fun D hD => ⟨D, setS ks, rfl, upd_same, fun z vs' L' hz pm nd dv => ?_⟩⟩
  rw [sort_perm_strs pm] at dv
  have zD : z ≠ D := fun e => by rw [e, upd_same] at hz; cases hz
  have hz' : H z = none := by rw [upd_ne zD] at hz; exact hz
  have mz := none_of s hz'
  have mD := none_of s hD
  have dx : DqAll K M vs' (((setS ks).map PyData.str).mergeSort (PySem.W.dataLe false id)) := dq_ofStrs dv fun d hd => by
    rw [(List.mergeSort_perm _ _).mem_iff] at hd
    obtain ⟨x, _, rfl⟩ := List.mem_map.mp hd
    exact ⟨x, rfl⟩
  refine q z vs' _ M ⟨fun a u e => ?_, Same.refl M, fun a u e => ?_, fun _ _ e => .inl e⟩ hz' mz upd_same dx
  · rw [upd_ne (fun y => by rw [y, hz'] at e; cases e), upd_ne (fun y => by rw [y, hD] at e; cases e)]; exact e
  · rw [upd_ne (fun y => by rw [y, mz] at e; cases e), upd_ne (fun y => by rw [y, mD] at e; cases e)]; exact s a u e
theorem sim_sortSet {w : World} {ta : TA} {a : XA} (ha : SimRA K CA Tb ta a) : SimN K CA Tb (tCB (rSortS w K) (tCons (tCB (rSetS K w) ta) tNil)) (x1 a fun ds => (cSortSet ds).map .lst) := sim_cbN (r := rSortSet K w) ha simC_sortSet
/-- sorted(xs), texts -/
def cSortT : List PyData → Option (List PyData)
  | [.list ds] => match strsD ds with
    | some ks => some ((ks.map PyData.str).mergeSort (dataLe false id))
    | none => none
  | _ => none
theorem each_dq : ∀ {vs : List V} {ds : List PyData}, DqAll K M vs ds → (∀ d ∈ ds, ∃ k, d = .str k) → EachIs (fun v d => Dq K M v d ∧ ∃ k, d = PyData.str k) vs ds
  | _, _, .nil, _ => .nil
  | _, _, .cons a b, h => .cons ⟨a, h _ List.mem_cons_self⟩ (each_dq b fun d hd => h d (List.mem_cons_of_mem _ hd))
theorem each_back : ∀ {vs : List V} {ds : List PyData}, EachIs (fun v d => Dq K M v d ∧ ∃ k, d = PyData.str k) vs ds → DqAll K M vs ds
  | _, _, .nil => .nil
  | _, _, .cons a b => .cons a.1 (each_back b)
theorem simC_sortT : SimCN K (rSortQ K) cSortT := fun d c h H M x Q s hx q => by
  unfold cSortT at h
  split at h
  case h_2 => cases h
  rename_i ds
  split at h
  case h_2 => cases h
  rename_i ks h1
  cases h
  obtain ⟨v, rfl, r⟩ := rvA_one hx
  obtain ⟨p, vs, rfl, e1, e2⟩ := r.lst s
  have e3 := strsD_map h1
  subst e3
  have all : ∀ d ∈ ks.map PyData.str, ∃ k, d = PyData.str k := fun d hd => by
    obtain ⟨k, _, rfl⟩ := List.mem_map.mp hd
    exact ⟨k, rfl⟩
  refine ⟨p, vs, ks.map PyData.str, fun v d => Dq K M v d ∧ ∃ k, d = PyData.str k, rfl, SqL.of e1, fun x d hd => ?_, each_dq e2 all, fun d hd d' hd' => ?_, .inr fun d hd => ?_, fun d hd => ?_, fun z vs' hz hv => ?_⟩
  · obtain ⟨h1, k, rfl⟩ := hd
    rw [dq_str h1]; exact .str k
  · obtain ⟨k, rfl⟩ := all d hd
    obtain ⟨k', rfl⟩ := all d' hd'
    rfl
  · obtain ⟨k, rfl⟩ := all d hd
    exact ⟨(fun z => nomatch z), (fun xs z => nomatch z)⟩
  · obtain ⟨k, rfl⟩ := all d hd
    show 0 ≤ 20; decide
  have mz := none_of s hz
  refine q z vs' _ M ⟨fun a u e => ?_, Same.refl M, fun a u e => ?_, fun _ _ e => .inl e⟩ hz mz upd_same (each_back hv)
  · rw [upd_ne (fun y => by rw [y, hz] at e; cases e)]; exact e
  · rw [upd_ne (fun y => by rw [y, mz] at e; cases e)]; exact s a u e
/-- _law_same of two data that are the same, bools too -/
def xSameB : Env → Option (Tr × Env)
  | [a, b] => match a.rs?, b.rs? with
    | some (.bool x), some (.bool y) => if x = y then some (.dat (.bool true), [.un, .un]) else none
    | _, _ => xSame [a, b]
  | _ => none
theorem sameB_of {vs : List V} {Q : VK} {E : XK} (h : PX K CA Tb xSameB vs H Q E) : ySame K 9 vs H Q E := by
  obtain ⟨H0, pin, M, as, envf, r, fps, h1, h2, k, q⟩ := h
  unfold xSameB at h1
  split at h1
  case h_2 => cases h1
  rename_i a b
  split at h1
  case h_2 => exact same_of ⟨H0, pin, M, [a, b], envf, r, fps, h1, h2, k, q⟩
  rename_i x y ea eb
  split at h1
  case isFalse => cases h1
  rename_i hs
  subst hs
  cases h1
  obtain ⟨v, g1, dv⟩ := rs_at k (i := 0) rfl ea rfl
  obtain ⟨w, g2, dw⟩ := rs_at k (i := 1) rfl eb rfl
  have hl := k.sls.le
  rw [List.length_map] at hl
  match vs, hl with
  | [x1, y1], _ =>
    cases g1
    cases g2
    have cl : clean 2 [a, b] = [.un, .un] := by
      cases a with
      | arg t => cases ea
      | _ => cases b with
        | arg t => cases eb
        | _ => rfl
    have kk := pin_of (vs := [v, w]) k k (fun i v h _ => h2 i v h)
    rw [show ([v, w] : List V).length = 2 from rfl, cl] at kk
    exact ⟨v, w, .bool x, rfl, dv, dw, trivial, q (.bl true) H M _ [] kk (.dat (.bl true)) ⟨List.nodup_nil, fun _ h => nomatch h⟩⟩
end
end Q

namespace Q
noncomputable section
open PySem L2 Y
def b__law_draw : XS := (xSeq (xSet 2 (xLend 0 (x2 (xVarR 0) (xC (.int 1)) fIxL))) (xSeq (xSetIx 0 [] (x2 (xVarR 2) (xC (.int 1)) fAdd) (xC (.int 1))) (xSeq (xIte (xLend 0 (xB (x2 (xVarR 2) (x1 (xCons (x2 (xVarR 0) (xC (.int 0)) fIxL) xNil) cLen) fLt))) (xRet (xLend 0 (x2 (x1 (xCons (x2 (x2 (xVarR 0) (xC (.int 0)) fIxL) (xVarR 2) fIxL) xNil) cInt) (xVarR 1) fModN))) xNext) (xRet (xC (.int 0))))))
def x__law_draw : Env → Option (Tr × Env) := callX 2 1 b__law_draw
theorem ok__law_draw {P : Program} {w : World} {K : PySem.W.Frag} {mg : Str → Option Value} {base : Heap} {A : Nat → Addr} {D : Nat → FuncData} {Tb : List Tbl2} {CA : Str → Addr} (T : Txt K mg A D) : FnOk P w K mg base CX0 1 (A 9) (D 9) ["box", "many"] (PX K CA Tb x__law_draw) := by
  refine T.F__law_draw.ok (k := 0) sc__law_draw (PX.len rfl) (fun cdv A' outer s H vs Q E hr h => ?_)
  have hnd := sc__law_draw.nd
  exact ⟨_, (pss_cons (ps_set (i := 2) hnd rfl (Or.inl rfl) (pe_ix (r := rIxL K) ix_list (pv 0) pe_int (fun _ _ => rfl))) (pss_cons (ps_asg (pe_op op_add (pv 2) pe_int) (pg_sub (pv 0) pe_int set_list)) (pss_cons (ps_if (pt_cmpR op_lt (pv 2) (pe_callB call_len_seq rfl T.z_len PySem.boot_len (pa_cons (pe_ix (r := rIxL K) ix_list (pv 0) pe_int (fun _ _ => rfl)) pa_nil)) (nomark _)) (pss_one (ps_ret (pe_op op_modN (pe_callTy call_int1 rfl T.z_int (by decide +kernel) (pa_cons (pe_ix (r := rIxL K) ix_list (pe_ix (r := rIxL K) ix_list (pv 0) pe_int (fun _ _ => rfl)) (pv 2) (fun _ _ => rfl)) pa_nil)) (pv 1)))) pss_nil) (pss_one (ps_ret pe_int))))), runX (K := K) (CA := CA) (Tb := Tb) (n := 2) (m := 1) (body := b__law_draw) rfl rfl (sim_seq (sim_set (sim_lendD (i := 0) (sim_op sim_varR (simR_of sim_int) simO_ixL))) (sim_seq (sim_setIx (sim_op sim_varR (simR_of sim_int) simO_i0) sim_pvar sim_int) (sim_seq (sim_ifS (sim_lendT (i := 0) (sim_test (sim_op sim_varR (simR_of (sim_cb (sim_consR (simR_of (sim_op sim_varR (simR_of sim_int) simO_ixL)) sim_nilR) simC_len)) simO_b0))) (sim_ret (sim_lendD (i := 0) (sim_op (simR_of (sim_cb (sim_consR (simR_of (sim_op (simR_of (sim_op sim_varR (simR_of sim_int) simO_ixL)) sim_varR simO_ixL)) sim_nilR) simC_int)) sim_varR simO_modN))) sim_next) (sim_ret sim_int)))) h⟩
def b__law_word : XS := (xSeq (xSet 1 (xDn (xCallM 0 x__law_draw (agCons (gD (xC (.int 3))) agNil)))) (xSeq (xIte (xB (x2 (xVarR 1) (xC (.int 0)) fGt)) (xRet (x2 (xDn (xLst (xCons (xC (.str "a")) (xCons (xC (.str "ab")) (xCons (xC (.str "abc")) (xCons (xC (.str "b")) (xCons (xC (.str "ba")) (xCons (xC (.str "mill")) (xCons (xC (.str "mills")) (xCons (xC (.str "weir")) (xCons (xC (.str "0")) (xCons (xC (.str "a0")) (xCons (xC (.str "z9")) (xCons (xC (.str "bab")) xNil)))))))))))))) (xDn (xCallM 0 x__law_draw (agCons (gD (xC (.int 12))) agNil))) fIxL)) xNext) (xSeq (xSet 2 (xC (.str ""))) (xSeq (xFor (x1 (xCons (x2 (xC (.int 1)) (xDn (xCallM 0 x__law_draw (agCons (gD (x2 (xDn (xLst (xCons (xC (.int 3)) (xCons (xC (.int 12)) xNil)))) (xDn (xCallM 0 x__law_draw (agCons (gD (xC (.int 2))) agNil))) fIxL)) agNil))) fAdd) xNil) rng1D) (gSet 3) (xSet 2 (x2 (xVarR 2) (x2 (xC (.str "abcdefghijklmnopqrstuvwxyz0123456789")) (xDn (xCallM 0 x__law_draw (agCons (gD (xC (.int 36))) agNil))) fIxS) fAddS))) (xRet (xVar 2))))))
def x__law_word : Env → Option (Tr × Env) := callX 1 3 b__law_word
theorem ok__law_word {P : Program} {w : World} {K : PySem.W.Frag} {mg : Str → Option Value} {base : Heap} {A : Nat → Addr} {D : Nat → FuncData} {Tb : List Tbl2} {CA : Str → Addr} (T : Txt K mg A D) : FnOk P w K mg base CX0 2 (A 11) (D 11) ["box"] (PX K CA Tb x__law_word) := by
  refine T.F__law_word.ok (k := 1) sc__law_word (PX.len rfl) (fun cdv A' outer s H vs Q E hr h => ?_)
  have hnd := sc__law_word.nd
  have G__law_draw := ok__law_draw (P := P) (w := w) (base := base) (Tb := Tb) (CA := CA) T
  exact ⟨_, (pss_cons (ps_set (i := 1) hnd rfl (Or.inl rfl) (pe_call G__law_draw (hr.mono (by first | decide | omega)) rfl T.m__law_draw T.F__law_draw.kp T.b__law_draw .nil pass0 (pa_cons (pv 0) (pa_cons pe_int pa_nil)))) (pss_cons (ps_if (pt_cmpR op_gt (pv 1) pe_int (nomark _)) (pss_one (ps_ret (pe_ix (r := rIxL K) ix_list (pe_lst (pa_cons pe_str (pa_cons pe_str (pa_cons pe_str (pa_cons pe_str (pa_cons pe_str (pa_cons pe_str (pa_cons pe_str (pa_cons pe_str (pa_cons pe_str (pa_cons pe_str (pa_cons pe_str (pa_cons pe_str pa_nil))))))))))))) (pe_call G__law_draw (hr.mono (by first | decide | omega)) rfl T.m__law_draw T.F__law_draw.kp T.b__law_draw .nil pass0 (pa_cons (pv 0) (pa_cons pe_int pa_nil))) (fun _ _ => rfl)))) pss_nil) (pss_cons (ps_set (i := 2) hnd rfl (Or.inl rfl) pe_str) (pss_cons (ps_for PassesOwn.never rfl (pi_range1 rfl T.z_range (pa_cons (pe_op op_add pe_int (pe_call G__law_draw (hr.mono (by first | decide | omega)) rfl T.m__law_draw T.F__law_draw.kp T.b__law_draw .nil pass0 (pa_cons (pv 0) (pa_cons (pe_ix (r := rIxL K) ix_list (pe_lst (pa_cons pe_int (pa_cons pe_int pa_nil))) (pe_call G__law_draw (hr.mono (by first | decide | omega)) rfl T.m__law_draw T.F__law_draw.kp T.b__law_draw .nil pass0 (pa_cons (pv 0) (pa_cons pe_int pa_nil))) (fun _ _ => rfl)) pa_nil)))) pa_nil)) (pg_name (i := 3) hnd rfl (Or.inl rfl)) (pss_one (ps_set (i := 2) hnd rfl (Or.inl rfl) (pe_op op_add_str (pv 2) (pe_ix ix_str pe_str (pe_call G__law_draw (hr.mono (by first | decide | omega)) rfl T.m__law_draw T.F__law_draw.kp T.b__law_draw .nil pass0 (pa_cons (pv 0) (pa_cons pe_int pa_nil))) (fun _ _ => rfl)))))) (pss_one (ps_ret (pv 2))))))), runX (K := K) (CA := CA) (Tb := Tb) (n := 1) (m := 3) (body := b__law_word) rfl rfl (sim_seq (sim_set (simD_of (sim_callM (sim_agCons (sim_gD sim_int) sim_agNil)))) (sim_seq (sim_ifS (sim_test (sim_op sim_varR (simR_of sim_int) simO_b0)) (sim_ret (sim_op (simR_of (simD_of (sim_lst (sim_cons sim_str (sim_cons sim_str (sim_cons sim_str (sim_cons sim_str (sim_cons sim_str (sim_cons sim_str (sim_cons sim_str (sim_cons sim_str (sim_cons sim_str (sim_cons sim_str (sim_cons sim_str (sim_cons sim_str sim_nil))))))))))))))) (simR_of (simD_of (sim_callM (sim_agCons (sim_gD sim_int) sim_agNil)))) simO_ixL)) sim_next) (sim_seq (sim_set sim_str) (sim_seq (sim_for (sim_wR1 (sim_consR (simR_of (sim_op (simR_of sim_int) (simR_of (simD_of (sim_callM (sim_agCons (sim_gD (sim_op (simR_of (simD_of (sim_lst (sim_cons sim_int (sim_cons sim_int sim_nil))))) (simR_of (simD_of (sim_callM (sim_agCons (sim_gD sim_int) sim_agNil)))) simO_ixL)) sim_agNil)))) simO_i0)) sim_nilR)) sim_gName (sim_set (sim_op sim_varR (simR_of (sim_op (simR_of sim_str) (simR_of (simD_of (sim_callM (sim_agCons (sim_gD sim_int) sim_agNil)))) simO_ixS)) simO_addS))) (sim_ret sim_var))))) h⟩
def b__law_pattern : XS := (xRet (xTup (xCons (x2 (xDn (xLst (xCons (xC (.str "word")) (xCons (xC (.str "start")) (xCons (xC (.str "word")) xNil))))) (xDn (xCallM 0 x__law_draw (agCons (gD (xC (.int 3))) agNil))) fIxL) (xCons (xDn (xCallM 0 x__law_word agNil)) xNil))))
def x__law_pattern : Env → Option (Tr × Env) := callX 1 0 b__law_pattern
theorem ok__law_pattern {P : Program} {w : World} {K : PySem.W.Frag} {mg : Str → Option Value} {base : Heap} {A : Nat → Addr} {D : Nat → FuncData} {Tb : List Tbl2} {CA : Str → Addr} (T : Txt K mg A D) : FnOk P w K mg base CX0 3 (A 12) (D 12) ["box"] (PX K CA Tb x__law_pattern) := by
  refine T.F__law_pattern.ok (k := 2) sc__law_pattern (PX.len rfl) (fun cdv A' outer s H vs Q E hr h => ?_)
  have hnd := sc__law_pattern.nd
  have G__law_word := ok__law_word (P := P) (w := w) (base := base) (Tb := Tb) (CA := CA) T
  have G__law_draw := ok__law_draw (P := P) (w := w) (base := base) (Tb := Tb) (CA := CA) T
  exact ⟨_, (pss_one (ps_ret (pe_tup (pa_cons (pe_ix (r := rIxL K) ix_list (pe_lst (pa_cons pe_str (pa_cons pe_str (pa_cons pe_str pa_nil)))) (pe_call G__law_draw (hr.mono (by first | decide | omega)) rfl T.m__law_draw T.F__law_draw.kp T.b__law_draw .nil pass0 (pa_cons (pv 0) (pa_cons pe_int pa_nil))) (fun _ _ => rfl)) (pa_cons (pe_call G__law_word (hr.mono (by first | decide | omega)) rfl T.m__law_word T.F__law_word.kp T.b__law_word .nil pass0 (pa_cons (pv 0) pa_nil)) pa_nil))))), runX (K := K) (CA := CA) (Tb := Tb) (n := 1) (m := 0) (body := b__law_pattern) rfl rfl (sim_ret (sim_tup (sim_cons (sim_op (simR_of (simD_of (sim_lst (sim_cons sim_str (sim_cons sim_str (sim_cons sim_str sim_nil)))))) (simR_of (simD_of (sim_callM (sim_agCons (sim_gD sim_int) sim_agNil)))) simO_ixL) (sim_cons (simD_of (sim_callM sim_agNil)) sim_nil)))) h⟩
def b__law_question (xr : Env → Option (Tr × Env)) : XS := (xSeq (xSet 4 (xDn (xCallM 0 x__law_draw (agCons (gD (xC (.int 8))) agNil)))) (xSeq (xIte (xOrT (xB (x2 (xVarR 1) (xC (.int 0)) fEq)) (xB (x2 (xVarR 4) (xC (.int 3)) fLt))) (xSeq (xIte (xB (x2 (xDn (xCallM 0 x__law_draw (agCons (gD (xC (.int 9))) agNil))) (xC (.int 0)) fEq)) (xRet (xTup (xCons (xC (.str "all")) xNil))) xNext) (xSeq (xSet 5 (xC (.int 1))) (xSeq (xSet 6 (xC (.int 0))) (xSeq (xIte (xAndT (xNotT (xB (xVar 2))) (xB (x2 (xDn (xCallM 0 x__law_draw (agCons (gD (xC (.int 2))) agNil))) (xC (.int 0)) fEq))) (xSeq (xSet 5 (x2 (x2 (xC (.int 1)) (xDn (xCallM 0 x__law_draw (agCons (gD (xC (.int 4))) agNil))) fAdd) (x2 (xC (.int 2)) (x2 (xDn (xCallM 0 x__law_draw (agCons (gD (xC (.int 6))) agNil))) (xC (.int 5)) fDiv) fMul) fAdd)) (xSet 6 (x2 (xDn (xCallM 0 x__law_draw (agCons (gD (xC (.int 4))) agNil))) (x2 (xDn (xCallM 0 x__law_draw (agCons (gD (xC (.int 3))) agNil))) (xC (.int 2)) fDiv) fMul))) xNext) (xRet (xTup (xCons (xC (.str "row")) (xCons (x1 (xCons (xDn (xLc (x1 (xCons (xVarR 5) xNil) rng1D) (gSet 3) xYes (xDn (xCallM 0 x__law_pattern agNil)) [3])) xNil) cTup) (xCons (xVar 6) xNil))))))))) xNext) (xSeq (xIte (xB (x2 (xVarR 4) (xC (.int 3)) fEq)) (xRet (xTup (xCons (xC (.str "not")) (xCons (xDn (xCallM 0 xr (agCons (gD (x2 (xVarR 1) (xC (.int 1)) fSub)) (agCons (gD (xVar 2)) agNil)))) xNil)))) xNext) (xSeq (xSet 7 (xDn (xLc (x1 (xCons (x2 (xC (.int 2)) (x2 (xDn (xCallM 0 x__law_draw (agCons (gD (xC (.int 3))) agNil))) (xC (.int 2)) fDiv) fAdd) xNil) rng1D) (gSet 3) xYes (xDn (xCallM 0 xr (agCons (gD (x2 (xVarR 1) (xC (.int 1)) fSub)) (agCons (gD (xVar 2)) agNil)))) [3]))) (xRet (xTup (xCons (x2 (xDn (xLst (xCons (xC (.str "and")) (xCons (xC (.str "or")) xNil)))) (x2 (x1 (xCons (xVarR 4) xNil) cInt) (xC (.int 2)) fMod) fIxL) (xCons (x1 (xCons (xVarR 7) xNil) cTup) xNil))))))))
def xr__law_question : Nat → Env → Option (Tr × Env)
  | 0 => fun _ => none
  | k + 1 => callX 3 5 (b__law_question (xr__law_question k))
def x__law_question : Env → Option (Tr × Env) := xr__law_question 8
theorem okr__law_question {P : Program} {w : World} {K : PySem.W.Frag} {mg : Str → Option Value} {base : Heap} {A : Nat → Addr} {D : Nat → FuncData} {Tb : List Tbl2} {CA : Str → Addr} (T : Txt K mg A D) : ∀ k, FnOk P w K mg base CX0 (4 + k) (A 13) (D 13) ["box", "depth", "simple"] (PX K CA Tb (xr__law_question k))
  | 0 => by
    have no : ∀ vs H Q E, ¬ PX K CA Tb (xr__law_question 0) vs H Q E := fun vs H Q E h => by
      obtain ⟨_, _, _, _, _, _, _, h1, _⟩ := h
      cases h1
    exact ⟨fun vs H Q E h => absurd h (no vs H Q E), fun A outer s H args us vs Q E _ _ _ _ h => absurd h (no vs H Q E)⟩
  | k + 1 => by
    have G__law_question := okr__law_question (P := P) (w := w) (base := base) (Tb := Tb) (CA := CA) T k
    refine T.F__law_question.ok (k := 4 + k) sc__law_question (PX.len rfl) (fun cdv A' outer s H vs Q E hr h => ?_)
    have hnd := sc__law_question.nd
    have G__law_draw := ok__law_draw (P := P) (w := w) (base := base) (Tb := Tb) (CA := CA) T
    have G__law_pattern := ok__law_pattern (P := P) (w := w) (base := base) (Tb := Tb) (CA := CA) T
    exact ⟨_, (pss_cons (ps_set (i := 4) hnd rfl (Or.inl rfl) (pe_call G__law_draw (hr.mono (by first | decide | omega)) rfl T.m__law_draw T.F__law_draw.kp T.b__law_draw .nil pass0 (pa_cons (pv 0) (pa_cons pe_int pa_nil)))) (pss_cons (ps_if (PW.pt (pw_or (pt_cmpR op_eq (pv 1) pe_int (nomark _)) (pw_or1 (pt_cmpR op_lt (pv 4) pe_int (nomark _))))) (pss_cons (ps_if (pt_cmpR op_eq (pe_call G__law_draw (hr.mono (by first | decide | omega)) rfl T.m__law_draw T.F__law_draw.kp T.b__law_draw .nil pass0 (pa_cons (pv 0) (pa_cons pe_int pa_nil))) pe_int (nomark _)) (pss_one (ps_ret (pe_tup (pa_cons pe_str pa_nil)))) pss_nil) (pss_cons (ps_set (i := 5) hnd rfl (Or.inl rfl) pe_int) (pss_cons (ps_set (i := 6) hnd rfl (Or.inl rfl) pe_int) (pss_cons (ps_if (PW.pt (pw_and (pt_not (pt_val (pv 2))) (pw_and1 (pt_cmpR op_eq (pe_call G__law_draw (hr.mono (by first | decide | omega)) rfl T.m__law_draw T.F__law_draw.kp T.b__law_draw .nil pass0 (pa_cons (pv 0) (pa_cons pe_int pa_nil))) pe_int (nomark _))))) (pss_cons (ps_set (i := 5) hnd rfl (Or.inl rfl) (pe_op op_add (pe_op op_add pe_int (pe_call G__law_draw (hr.mono (by first | decide | omega)) rfl T.m__law_draw T.F__law_draw.kp T.b__law_draw .nil pass0 (pa_cons (pv 0) (pa_cons pe_int pa_nil)))) (pe_op op_mul pe_int (pe_op op_fdiv (pe_call G__law_draw (hr.mono (by first | decide | omega)) rfl T.m__law_draw T.F__law_draw.kp T.b__law_draw .nil pass0 (pa_cons (pv 0) (pa_cons pe_int pa_nil))) pe_int)))) (pss_one (ps_set (i := 6) hnd rfl (Or.inl rfl) (pe_op op_mul (pe_call G__law_draw (hr.mono (by first | decide | omega)) rfl T.m__law_draw T.F__law_draw.kp T.b__law_draw .nil pass0 (pa_cons (pv 0) (pa_cons pe_int pa_nil))) (pe_op op_fdiv (pe_call G__law_draw (hr.mono (by first | decide | omega)) rfl T.m__law_draw T.F__law_draw.kp T.b__law_draw .nil pass0 (pa_cons (pv 0) (pa_cons pe_int pa_nil))) pe_int))))) pss_nil) (pss_one (ps_ret (pe_tup (pa_cons pe_str (pa_cons (pe_callTy call_tuple_of rfl T.z_tuple (by decide +kernel) (pa_cons (pe_lc (own := [("k", 3)]) rfl hnd (pi_range1 rfl T.z_range (pa_cons (pv 5) pa_nil)) (blkOk_by (own := [("k", 3)]) (N := N__law_question) (sc := defScope s__law_question) (by decide +kernel)) (fun _ _ _ _ _ => (pg_name (i := 3) hnd rfl (Or.inl rfl))) (fun _ _ _ _ _ => pts_nil) (fun _ _ _ _ _ => (pe_call G__law_pattern (hr.mono (by first | decide | omega)) rfl T.m__law_pattern T.F__law_pattern.kp T.b__law_pattern .nil pass0 (pa_cons (pv 0) pa_nil)))) pa_nil)) (pa_cons (pv 6) pa_nil)))))))))) pss_nil) (pss_cons (ps_if (pt_cmpR op_eq (pv 4) pe_int (nomark _)) (pss_one (ps_ret (pe_tup (pa_cons pe_str (pa_cons (pe_call G__law_question (hr.mono (by first | decide | omega)) rfl T.m__law_question T.F__law_question.kp T.b__law_question .nil pass0 (pa_cons (pv 0) (pa_cons (pe_op op_sub (pv 1) pe_int) (pa_cons (pv 2) pa_nil)))) pa_nil))))) pss_nil) (pss_cons (ps_setLc (i := 7) (own := [("k", 3)]) rfl hnd rfl rfl (sw_true rfl rfl rfl (by decide +kernel)) (pi_range1 rfl T.z_range (pa_cons (pe_op op_add pe_int (pe_op op_fdiv (pe_call G__law_draw (hr.mono (by first | decide | omega)) rfl T.m__law_draw T.F__law_draw.kp T.b__law_draw .nil pass0 (pa_cons (pv 0) (pa_cons pe_int pa_nil))) pe_int)) pa_nil)) (blkOk_by (own := [("k", 3)]) (N := N__law_question) (sc := defScope s__law_question) (by decide +kernel)) (fun _ _ _ _ _ => (pg_name (i := 3) hnd rfl (Or.inl rfl))) (fun _ _ _ _ _ => pts_nil) (fun _ _ _ _ _ => (pe_call G__law_question (hr.mono (by first | decide | omega)) rfl T.m__law_question T.F__law_question.kp T.b__law_question .nil pass0 (pa_cons (pv 0) (pa_cons (pe_op op_sub (pv 1) pe_int) (pa_cons (pv 2) pa_nil)))))) (pss_one (ps_ret (pe_tup (pa_cons (pe_ix (r := rIxL K) ix_list (pe_lst (pa_cons pe_str (pa_cons pe_str pa_nil))) (pe_op op_mod (pe_callTy call_int1 rfl T.z_int (by decide +kernel) (pa_cons (pv 4) pa_nil)) pe_int) (fun _ _ => rfl)) (pa_cons (pe_callTy call_tuple_of rfl T.z_tuple (by decide +kernel) (pa_cons (pv 7) pa_nil)) pa_nil))))))))), runX (K := K) (CA := CA) (Tb := Tb) (n := 3) (m := 5) (body := b__law_question (xr__law_question k)) rfl rfl (sim_seq (sim_set (simD_of (sim_callM (sim_agCons (sim_gD sim_int) sim_agNil)))) (sim_seq (sim_ifS (sim_orT (sim_test (sim_op sim_varR (simR_of sim_int) simO_eq)) (sim_test (sim_op sim_varR (simR_of sim_int) simO_b0))) (sim_seq (sim_ifS (sim_test (sim_op (simR_of (simD_of (sim_callM (sim_agCons (sim_gD sim_int) sim_agNil)))) (simR_of sim_int) simO_eq)) (sim_ret (sim_tup (sim_cons sim_str sim_nil))) sim_next) (sim_seq (sim_set sim_int) (sim_seq (sim_set sim_int) (sim_seq (sim_ifS (sim_andT (sim_notT (sim_b sim_var)) (sim_test (sim_op (simR_of (simD_of (sim_callM (sim_agCons (sim_gD sim_int) sim_agNil)))) (simR_of sim_int) simO_eq))) (sim_seq (sim_set (sim_op (simR_of (sim_op (simR_of sim_int) (simR_of (simD_of (sim_callM (sim_agCons (sim_gD sim_int) sim_agNil)))) simO_i0)) (simR_of (sim_op (simR_of sim_int) (simR_of (sim_op (simR_of (simD_of (sim_callM (sim_agCons (sim_gD sim_int) sim_agNil)))) (simR_of sim_int) simO_div)) simO_mul)) simO_i0)) (sim_set (sim_op (simR_of (simD_of (sim_callM (sim_agCons (sim_gD sim_int) sim_agNil)))) (simR_of (sim_op (simR_of (simD_of (sim_callM (sim_agCons (sim_gD sim_int) sim_agNil)))) (simR_of sim_int) simO_div)) simO_mul))) sim_next) (sim_ret (sim_tup (sim_cons sim_str (sim_cons (sim_cb (sim_consR (simR_of (simD_of (sim_lc (sim_wR1 (sim_consR sim_varR sim_nilR)) sim_gName sim_yes (simD_of (sim_callM sim_agNil)) (by decide)))) sim_nilR) simC_tup) (sim_cons sim_var sim_nil))))))))) sim_next) (sim_seq (sim_ifS (sim_test (sim_op sim_varR (simR_of sim_int) simO_eq)) (sim_ret (sim_tup (sim_cons sim_str (sim_cons (simD_of (sim_callM (sim_agCons (sim_gD (sim_op sim_varR (simR_of sim_int) simO_i0)) (sim_agCons (sim_gD sim_var) sim_agNil)))) sim_nil)))) sim_next) (sim_seq (sim_set (simD_of (sim_lc (sim_wR1 (sim_consR (simR_of (sim_op (simR_of sim_int) (simR_of (sim_op (simR_of (simD_of (sim_callM (sim_agCons (sim_gD sim_int) sim_agNil)))) (simR_of sim_int) simO_div)) simO_i0)) sim_nilR)) sim_gName sim_yes (simD_of (sim_callM (sim_agCons (sim_gD (sim_op sim_varR (simR_of sim_int) simO_i0)) (sim_agCons (sim_gD sim_var) sim_agNil)))) (by decide)))) (sim_ret (sim_tup (sim_cons (sim_op (simR_of (simD_of (sim_lst (sim_cons sim_str (sim_cons sim_str sim_nil))))) (simR_of (sim_op (simR_of (sim_cb (sim_consR sim_varR sim_nilR) simC_int)) (simR_of sim_int) simO_mod)) simO_ixL) (sim_cons (sim_cb (sim_consR sim_varR sim_nilR) simC_tup) sim_nil)))))))) h⟩
theorem ok__law_question {P : Program} {w : World} {K : PySem.W.Frag} {mg : Str → Option Value} {base : Heap} {A : Nat → Addr} {D : Nat → FuncData} {Tb : List Tbl2} {CA : Str → Addr} (T : Txt K mg A D) : FnOk P w K mg base CX0 12 (A 13) (D 13) ["box", "depth", "simple"] (PX K CA Tb x__law_question) := okr__law_question T 8
end
end Q
section
open L2H
section
variable {P : Program} {w : World} {K : PySem.W.Frag} {mg : Str → Option Value} {base : Heap} {A : Nat → Addr} {D : Nat → FuncData}
theorem ok_same (T : Txt K mg A D) : ∀ n, FnOk P w K mg base CX0 n (A 10) (D 10) ["actual", "due"] (ySame K n)
  | 0 => by
    have no : ∀ vs H Q E, ¬ ySame K 0 vs H Q E := fun vs H Q E h => by
      obtain ⟨x, y, d, _, _, _, f, _⟩ := h
      cases d <;> exact f
    exact ⟨fun vs H Q E h => absurd h (no vs H Q E), fun A outer s H args us vs Q E _ _ _ _ h => absurd h (no vs H Q E)⟩
  | n + 1 => by
    have G__law_same := ok_same T n
    refine T.F__law_same.ok sc__law_same (fun vs H Q E h => ?_) (fun cdv A' outer s H vs Q E hr h => ?_)
    · obtain ⟨x, y, d, rfl, _⟩ := h; rfl
    obtain ⟨x, y, d, rfl, dx, dy, hf, q⟩ := h
    have hnd := sc__law_same.nd
    refine ⟨_, (pss_cons (ps_if (PW.pt (pw_or (pt_val (pe_callB call_isi rfl T.z_isinstance (by decide +kernel) (pa_cons (pv 1) (pa_cons (pe_bltn (v := .ty "list") rfl T.z_list (by decide +kernel) rfl) pa_nil)))) (pw_or1 (pt_val (pe_callB call_isi rfl T.z_isinstance (by decide +kernel) (pa_cons (pv 1) (pa_cons (pe_bltn (v := .ty "tuple") rfl T.z_tuple (by decide +kernel) rfl) pa_nil))))))) (pss_cons (ps_if (PW.pt (pw_or (pt_cmpR op_ne (pe_callB call_isi rfl T.z_isinstance (by decide +kernel) (pa_cons (pv 1) (pa_cons (pe_bltn (v := .ty "list") rfl T.z_list (by decide +kernel) rfl) pa_nil))) (pe_callB call_isi rfl T.z_isinstance (by decide +kernel) (pa_cons (pv 0) (pa_cons (pe_bltn (v := .ty "list") rfl T.z_list (by decide +kernel) rfl) pa_nil))) (nomark _)) (pw_or1 (pt_cmpR op_ne (pe_callB call_isi rfl T.z_isinstance (by decide +kernel) (pa_cons (pv 1) (pa_cons (pe_bltn (v := .ty "tuple") rfl T.z_tuple (by decide +kernel) rfl) pa_nil))) (pe_callB call_isi rfl T.z_isinstance (by decide +kernel) (pa_cons (pv 0) (pa_cons (pe_bltn (v := .ty "tuple") rfl T.z_tuple (by decide +kernel) rfl) pa_nil))) (nomark _))))) (pss_one (ps_ret pe_bl)) pss_nil) (pss_cons (ps_if (pt_cmpR op_ne (pe_callB call_len_seq rfl T.z_len PySem.boot_len (pa_cons (pv 0) pa_nil)) (pe_callB call_len_seq rfl T.z_len PySem.boot_len (pa_cons (pv 1) pa_nil)) (nomark _)) (pss_one (ps_ret pe_bl)) pss_nil) (pss_cons (ps_for PassesOwn.never rfl (pi_range1 rfl T.z_range (pa_cons (pe_callB call_len_seq rfl T.z_len PySem.boot_len (pa_cons (pv 1) pa_nil)) pa_nil)) (pg_name (i := 2) hnd rfl (Or.inl rfl)) (pss_one (ps_if (pt_not (pt_val (pe_call G__law_same (hr.mono (by first | decide | omega)) rfl T.m__law_same T.F__law_same.kp T.b__law_same .nil pass0 (pa_cons (pe_ix (r := rIx K) ix_seq (pv 0) (pv 2) (fun _ _ => rfl)) (pa_cons (pe_ix (r := rIx K) ix_seq (pv 1) (pv 2) (fun _ _ => rfl)) pa_nil))))) (pss_one (ps_ret pe_bl)) pss_nil))) (pss_one (ps_ret pe_bl))))) pss_nil) (pss_cons (ps_if (pt_cmpR op_isN (pv 1) pe_non (nomark _)) (pss_one (ps_ret (pe_cmpR op_isN (pv 0) pe_non (nomark _)))) pss_nil) (pss_cons (ps_if (pt_val (pe_callB call_isi rfl T.z_isinstance (by decide +kernel) (pa_cons (pv 1) (pa_cons (pe_bltn (v := .ty "bool") rfl T.z_bool (by decide +kernel) rfl) pa_nil)))) (pss_one (ps_ret (pe_and (pe_callB call_isi rfl T.z_isinstance (by decide +kernel) (pa_cons (pv 0) (pa_cons (pe_bltn (v := .ty "bool") rfl T.z_bool (by decide +kernel) rfl) pa_nil))) (pe_one (pe_cmpR op_eq (pv 0) (pv 1) (nomark _)))))) pss_nil) (pss_cons (ps_if (pt_val (pe_callB call_isi rfl T.z_isinstance (by decide +kernel) (pa_cons (pv 1) (pa_cons (pe_bltn (v := .ty "str") rfl T.z_str (by decide +kernel) rfl) pa_nil)))) (pss_one (ps_ret (pe_and (pe_callB call_isi rfl T.z_isinstance (by decide +kernel) (pa_cons (pv 0) (pa_cons (pe_bltn (v := .ty "str") rfl T.z_str (by decide +kernel) rfl) pa_nil))) (pe_one (pe_cmpR op_eq (pv 0) (pv 1) (nomark _)))))) pss_nil) (pss_one (ps_ret (pe_and (pe_callB call_isi rfl T.z_isinstance (by decide +kernel) (pa_cons (pv 0) (pa_cons (pe_bltn (v := .ty "int") rfl T.z_int (by decide +kernel) rfl) pa_nil))) (pe_and (pe_not (pe_callB call_isi rfl T.z_isinstance (by decide +kernel) (pa_cons (pv 0) (pa_cons (pe_bltn (v := .ty "bool") rfl T.z_bool (by decide +kernel) rfl) pa_nil)))) (pe_one (pe_cmpR op_eq (pv 0) (pv 1) (nomark _))))))))))), ?_⟩
    cases d with
    | dict _ => exact hf.elim
    | list ds =>
      obtain ⟨hf1, hf2⟩ := hf
      cases dx with | lst hx ax =>
      cases dy with | lst hy ay =>
      rename_i a vs a' vs'
      have l1 := DpAll.len ax
      have l2 := DpAll.len ay
      refine ⟨_, rfl, _, _, _, _, _, rfl, .ty _, ty_l hy, kit_ty (by decide +kernel), _, rfl, iteT (iteT ?_)⟩
      refine ⟨_, rfl, _, _, _, _, true, rfl, .ty _, ty_l hy, kit_ty (by decide +kernel), _, rfl, _, _, _, _, true, rfl, .ty _, ty_l hx, kit_ty (by decide +kernel), rfl, _, rfl, iteNS rfl ?_⟩
      refine ⟨_, rfl, _, _, _, _, false, rfl, .ty _, ty_l hy, kit_ty (by decide +kernel), _, rfl, _, _, _, _, false, rfl, .ty _, ty_l hx, kit_ty (by decide +kernel), rfl, _, rfl, iteNS rfl ?_⟩
      refine ⟨_, rfl, _, _, rfl, .inl hx, _, rfl, _, _, rfl, .inl hy, rfl, _, rfl, iteNS (by rw [l1, l2]) ?_⟩
      refine ⟨_, rfl, _, _, rfl, .inl hy, _, rfl, (by omega), (by omega), ?_⟩
      rw [show ((vs'.length : Nat) : Int).toNat = ds.length by omega]
      refine for_range (n := ds.length) (fun i σ H' => ∃ kv : Option V, σ = [some (.ref a), some (.ref a'), kv] ∧ H' = H) ⟨none, rfl, rfl⟩ ?_ ?_
      · rintro i σ H' hi ⟨kv, rfl, rfl⟩
        obtain ⟨v, ev, dv⟩ := DpAll.get ax (List.getElem?_eq_getElem hi)
        obtain ⟨v', ev', dv'⟩ := DpAll.get ay (List.getElem?_eq_getElem hi)
        have ev1 : atI vs (0 + (i : Int)) = some v := by rw [Int.zero_add]; exact atI_nat ev
        have ev2 : atI vs' (0 + (i : Int)) = some v' := by rw [Int.zero_add]; exact atI_nat ev'
        refine ⟨_, rfl, _, rfl, .inl ⟨_, _, _, _, rfl, rfl, hx, ev1, _, rfl, _, rfl, .inl ⟨_, _, _, _, rfl, rfl, hy, ev2, ?_⟩⟩⟩
        exact ⟨v, v', ds[i], rfl, dv, dv', hf2 _ (List.getElem_mem hi), _, rfl, iteF ⟨_, rfl, rfl⟩⟩
      · rintro σ H' ⟨kv, rfl, rfl⟩
        exact q
    | tuple ds =>
      obtain ⟨hf1, hf2⟩ := hf
      cases dx with | tup hx ax =>
      cases dy with | tup hy ay =>
      rename_i a vs a' vs'
      have l1 := DpAll.len ax
      have l2 := DpAll.len ay
      refine ⟨_, rfl, _, _, _, _, _, rfl, .ty _, ty_t hy, kit_ty (by decide +kernel), _, rfl, iteF ⟨_, rfl, _, _, _, _, _, rfl, .ty _, ty_t hy, kit_ty (by decide +kernel), _, rfl, iteT ?_⟩⟩
      refine ⟨_, rfl, _, _, _, _, false, rfl, .ty _, ty_t hy, kit_ty (by decide +kernel), _, rfl, _, _, _, _, false, rfl, .ty _, ty_t hx, kit_ty (by decide +kernel), rfl, _, rfl, iteNS rfl ?_⟩
      refine ⟨_, rfl, _, _, _, _, true, rfl, .ty _, ty_t hy, kit_ty (by decide +kernel), _, rfl, _, _, _, _, true, rfl, .ty _, ty_t hx, kit_ty (by decide +kernel), rfl, _, rfl, iteNS rfl ?_⟩
      refine ⟨_, rfl, _, _, rfl, .inr hx, _, rfl, _, _, rfl, .inr hy, rfl, _, rfl, iteNS (by rw [l1, l2]) ?_⟩
      refine ⟨_, rfl, _, _, rfl, .inr hy, _, rfl, (by omega), (by omega), ?_⟩
      rw [show ((vs'.length : Nat) : Int).toNat = ds.length by omega]
      refine for_range (n := ds.length) (fun i σ H' => ∃ kv : Option V, σ = [some (.ref a), some (.ref a'), kv] ∧ H' = H) ⟨none, rfl, rfl⟩ ?_ ?_
      · rintro i σ H' hi ⟨kv, rfl, rfl⟩
        obtain ⟨v, ev, dv⟩ := DpAll.get ax (List.getElem?_eq_getElem hi)
        obtain ⟨v', ev', dv'⟩ := DpAll.get ay (List.getElem?_eq_getElem hi)
        have ev1 : atI vs (0 + (i : Int)) = some v := by rw [Int.zero_add]; exact atI_nat ev
        have ev2 : atI vs' (0 + (i : Int)) = some v' := by rw [Int.zero_add]; exact atI_nat ev'
        refine ⟨_, rfl, _, rfl, .inr (.inl ⟨_, _, _, _, rfl, rfl, hx, ev1, _, rfl, _, rfl, .inr (.inl ⟨_, _, _, _, rfl, rfl, hy, ev2, ?_⟩)⟩)⟩
        exact ⟨v, v', ds[i], rfl, dv, dv', hf2 _ (List.getElem_mem hi), _, rfl, iteF ⟨_, rfl, rfl⟩⟩
      · rintro σ H' ⟨kv, rfl, rfl⟩
        exact q
    | none =>
      cases dx with | non =>
      cases dy with | non =>
      refine ⟨_, rfl, _, _, _, _, _, rfl, .ty _, .base (.non), kit_ty (by decide +kernel), _, rfl, iteF ⟨_, rfl, _, _, _, _, _, rfl, .ty _, .base (.non), kit_ty (by decide +kernel), _, rfl, iteF ?_⟩⟩
      refine ⟨_, rfl, rfl, _, rfl, iteT ?_⟩
      exact ⟨_, rfl, rfl, q⟩
    | bool b =>
      cases dx with | bl =>
      cases dy with | bl =>
      refine ⟨_, rfl, _, _, _, _, _, rfl, .ty _, .base (.bl _), kit_ty (by decide +kernel), _, rfl, iteF ⟨_, rfl, _, _, _, _, _, rfl, .ty _, .base (.bl _), kit_ty (by decide +kernel), _, rfl, iteF ?_⟩⟩
      refine ⟨_, rfl, rfl, _, rfl, iteF ?_⟩
      refine ⟨_, rfl, _, _, _, _, _, rfl, .ty _, .base (.bl _), kit_ty (by decide +kernel), _, rfl, iteT ?_⟩
      refine ⟨_, rfl, _, _, _, _, _, rfl, .ty _, .base (.bl _), kit_ty (by decide +kernel), _, rfl, iteT ⟨_, rfl, _, rfl, rfl, ?_⟩⟩
      rw [decide_eq_true rfl]
      exact q
    | str z =>
      cases dx with | str =>
      cases dy with | str =>
      refine ⟨_, rfl, _, _, _, _, _, rfl, .ty _, .base (.str _), kit_ty (by decide +kernel), _, rfl, iteF ⟨_, rfl, _, _, _, _, _, rfl, .ty _, .base (.str _), kit_ty (by decide +kernel), _, rfl, iteF ?_⟩⟩
      refine ⟨_, rfl, rfl, _, rfl, iteF ?_⟩
      refine ⟨_, rfl, _, _, _, _, _, rfl, .ty _, .base (.str _), kit_ty (by decide +kernel), _, rfl, iteF ⟨_, rfl, _, _, _, _, _, rfl, .ty _, .base (.str _), kit_ty (by decide +kernel), _, rfl, iteT ?_⟩⟩
      refine ⟨_, rfl, _, _, _, _, _, rfl, .ty _, .base (.str _), kit_ty (by decide +kernel), _, rfl, iteT ⟨_, rfl, _, rfl, rfl, ?_⟩⟩
      rw [decide_eq_true rfl]
      exact q
    | int i =>
      cases dx with | int =>
      cases dy with | int =>
      refine ⟨_, rfl, _, _, _, _, _, rfl, .ty _, .base (.int _), kit_ty (by decide +kernel), _, rfl, iteF ⟨_, rfl, _, _, _, _, _, rfl, .ty _, .base (.int _), kit_ty (by decide +kernel), _, rfl, iteF ?_⟩⟩
      refine ⟨_, rfl, rfl, _, rfl, iteF ?_⟩
      refine ⟨_, rfl, _, _, _, _, _, rfl, .ty _, .base (.int _), kit_ty (by decide +kernel), _, rfl, iteF ⟨_, rfl, _, _, _, _, _, rfl, .ty _, .base (.int _), kit_ty (by decide +kernel), _, rfl, iteF ?_⟩⟩
      refine ⟨_, rfl, _, _, _, _, _, rfl, .ty _, .base (.int _), kit_ty (by decide +kernel), _, rfl, iteT ⟨_, rfl, _, _, _, _, false, rfl, .ty _, .base (.int _), kit_ty (by decide +kernel), _, rfl, _, rfl, iteT ⟨_, rfl, _, rfl, rfl, ?_⟩⟩⟩
      rw [decide_eq_true rfl]
      exact q
end
section
variable {P : Program} {w : World} {K : PySem.W.Frag} {mg : Str → Option Value} {base : Heap} {A : Nat → Addr} {D : Nat → FuncData}
theorem ok_sameH (T : Txt K mg A D) : ∀ n, FnH P w K mg base CX0 n (A 10) (D 10) ["actual", "due"] (ySame K n)
  | 0 => by
    have no : ∀ vs H Q E, ¬ ySame K 0 vs H Q E := fun vs H Q E h => by
      obtain ⟨x, y, d, _, _, _, f, _⟩ := h
      cases d <;> exact f
    exact ⟨fun vs H Q E h => absurd h (no vs H Q E), fun A outer s H args us vs Q E p _ _ _ _ _ _ h => absurd h (no vs H Q E)⟩
  | n + 1 => by
    have GH__law_same := ok_sameH T n
    refine T.F__law_same.okH sc__law_same (fun vs H Q E h => ?_) (fun cdv A' outer s H vs Q E p hot hr h => ?_)
    · obtain ⟨x, y, d, rfl, _⟩ := h; rfl
    obtain ⟨x, y, d, rfl, dx, dy, hf, q⟩ := h
    have hnd := sc__law_same.nd
    refine ⟨_, (pss_cons (ps_if (PW.pt (pw_or (pt_val (pe_callB call_isi rfl T.z_isinstance (by decide +kernel) (pa_cons (pv 1) (pa_cons (pe_bltn (v := .ty "list") rfl T.z_list (by decide +kernel) rfl) pa_nil)))) (pw_or1 (pt_val (pe_callB call_isi rfl T.z_isinstance (by decide +kernel) (pa_cons (pv 1) (pa_cons (pe_bltn (v := .ty "tuple") rfl T.z_tuple (by decide +kernel) rfl) pa_nil))))))) (pss_cons (ps_if (PW.pt (pw_or (pt_cmpR op_ne (pe_callB call_isi rfl T.z_isinstance (by decide +kernel) (pa_cons (pv 1) (pa_cons (pe_bltn (v := .ty "list") rfl T.z_list (by decide +kernel) rfl) pa_nil))) (pe_callB call_isi rfl T.z_isinstance (by decide +kernel) (pa_cons (pv 0) (pa_cons (pe_bltn (v := .ty "list") rfl T.z_list (by decide +kernel) rfl) pa_nil))) (nomark _)) (pw_or1 (pt_cmpR op_ne (pe_callB call_isi rfl T.z_isinstance (by decide +kernel) (pa_cons (pv 1) (pa_cons (pe_bltn (v := .ty "tuple") rfl T.z_tuple (by decide +kernel) rfl) pa_nil))) (pe_callB call_isi rfl T.z_isinstance (by decide +kernel) (pa_cons (pv 0) (pa_cons (pe_bltn (v := .ty "tuple") rfl T.z_tuple (by decide +kernel) rfl) pa_nil))) (nomark _))))) (pss_one (ps_ret pe_bl)) pss_nil) (pss_cons (ps_if (pt_cmpR op_ne (pe_callB call_len_seq rfl T.z_len PySem.boot_len (pa_cons (pv 0) pa_nil)) (pe_callB call_len_seq rfl T.z_len PySem.boot_len (pa_cons (pv 1) pa_nil)) (nomark _)) (pss_one (ps_ret pe_bl)) pss_nil) (pss_cons (ps_forH PassesOwn.never (hotC_of hot) (pi_range1H rfl T.z_range (pa_cons (pe_callB call_len_seq rfl T.z_len PySem.boot_len (pa_cons (pv 1) pa_nil)) pa_nil)) (pg_name (i := 2) hnd rfl (Or.inl rfl)) (pss_one (ps_if (pt_not (pt_val (pe_callH (E := fun _ => E0) GH__law_same (hr.mono (by first | decide | omega)) (hotC_of hot) rfl T.m__law_same T.F__law_same.kp T.b__law_same (fun _ _ _ _ _ _ _ h => h.elim) (pa_cons (pe_ix (r := rIx K) ix_seq (pv 0) (pv 2) (fun _ _ => rfl)) (pa_cons (pe_ix (r := rIx K) ix_seq (pv 1) (pv 2) (fun _ _ => rfl)) pa_nil))))) (pss_one (ps_ret pe_bl)) pss_nil))) (pss_one (ps_ret pe_bl))))) pss_nil) (pss_cons (ps_if (pt_cmpR op_isN (pv 1) pe_non (nomark _)) (pss_one (ps_ret (pe_cmpR op_isN (pv 0) pe_non (nomark _)))) pss_nil) (pss_cons (ps_if (pt_val (pe_callB call_isi rfl T.z_isinstance (by decide +kernel) (pa_cons (pv 1) (pa_cons (pe_bltn (v := .ty "bool") rfl T.z_bool (by decide +kernel) rfl) pa_nil)))) (pss_one (ps_ret (pe_and (pe_callB call_isi rfl T.z_isinstance (by decide +kernel) (pa_cons (pv 0) (pa_cons (pe_bltn (v := .ty "bool") rfl T.z_bool (by decide +kernel) rfl) pa_nil))) (pe_one (pe_cmpR op_eq (pv 0) (pv 1) (nomark _)))))) pss_nil) (pss_cons (ps_if (pt_val (pe_callB call_isi rfl T.z_isinstance (by decide +kernel) (pa_cons (pv 1) (pa_cons (pe_bltn (v := .ty "str") rfl T.z_str (by decide +kernel) rfl) pa_nil)))) (pss_one (ps_ret (pe_and (pe_callB call_isi rfl T.z_isinstance (by decide +kernel) (pa_cons (pv 0) (pa_cons (pe_bltn (v := .ty "str") rfl T.z_str (by decide +kernel) rfl) pa_nil))) (pe_one (pe_cmpR op_eq (pv 0) (pv 1) (nomark _)))))) pss_nil) (pss_one (ps_ret (pe_and (pe_callB call_isi rfl T.z_isinstance (by decide +kernel) (pa_cons (pv 0) (pa_cons (pe_bltn (v := .ty "int") rfl T.z_int (by decide +kernel) rfl) pa_nil))) (pe_and (pe_not (pe_callB call_isi rfl T.z_isinstance (by decide +kernel) (pa_cons (pv 0) (pa_cons (pe_bltn (v := .ty "bool") rfl T.z_bool (by decide +kernel) rfl) pa_nil)))) (pe_one (pe_cmpR op_eq (pv 0) (pv 1) (nomark _))))))))))), ?_⟩
    cases d with
    | dict _ => exact hf.elim
    | list ds =>
      obtain ⟨hf1, hf2⟩ := hf
      cases dx with | lst hx ax =>
      cases dy with | lst hy ay =>
      rename_i a vs a' vs'
      have l1 := DpAll.len ax
      have l2 := DpAll.len ay
      refine ⟨_, rfl, _, _, _, _, _, rfl, .ty _, ty_l hy, kit_ty (by decide +kernel), _, rfl, iteT (iteT ?_)⟩
      refine ⟨_, rfl, _, _, _, _, true, rfl, .ty _, ty_l hy, kit_ty (by decide +kernel), _, rfl, _, _, _, _, true, rfl, .ty _, ty_l hx, kit_ty (by decide +kernel), rfl, _, rfl, iteNS rfl ?_⟩
      refine ⟨_, rfl, _, _, _, _, false, rfl, .ty _, ty_l hy, kit_ty (by decide +kernel), _, rfl, _, _, _, _, false, rfl, .ty _, ty_l hx, kit_ty (by decide +kernel), rfl, _, rfl, iteNS rfl ?_⟩
      refine ⟨_, rfl, _, _, rfl, .inl hx, _, rfl, _, _, rfl, .inl hy, rfl, _, rfl, iteNS (by rw [l1, l2]) ?_⟩
      refine ⟨_, rfl, _, _, rfl, .inl hy, _, rfl, (by omega), (by omega), ?_⟩
      rw [show ((vs'.length : Nat) : Int).toNat = ds.length by omega]
      refine for_range (n := ds.length) (fun i σ H' => ∃ kv : Option V, σ = [some (.ref a), some (.ref a'), kv] ∧ H' = H) ⟨none, rfl, rfl⟩ ?_ ?_
      · rintro i σ H' hi ⟨kv, rfl, rfl⟩
        obtain ⟨v, ev, dv⟩ := DpAll.get ax (List.getElem?_eq_getElem hi)
        obtain ⟨v', ev', dv'⟩ := DpAll.get ay (List.getElem?_eq_getElem hi)
        have ev1 : atI vs (0 + (i : Int)) = some v := by rw [Int.zero_add]; exact atI_nat ev
        have ev2 : atI vs' (0 + (i : Int)) = some v' := by rw [Int.zero_add]; exact atI_nat ev'
        refine ⟨_, rfl, _, rfl, .inl ⟨_, _, _, _, rfl, rfl, hx, ev1, _, rfl, _, rfl, .inl ⟨_, _, _, _, rfl, rfl, hy, ev2, ?_⟩⟩⟩
        exact ⟨v, v', ds[i], rfl, dv, dv', hf2 _ (List.getElem_mem hi), _, rfl, iteF ⟨_, rfl, rfl⟩⟩
      · rintro σ H' ⟨kv, rfl, rfl⟩
        exact q
    | tuple ds =>
      obtain ⟨hf1, hf2⟩ := hf
      cases dx with | tup hx ax =>
      cases dy with | tup hy ay =>
      rename_i a vs a' vs'
      have l1 := DpAll.len ax
      have l2 := DpAll.len ay
      refine ⟨_, rfl, _, _, _, _, _, rfl, .ty _, ty_t hy, kit_ty (by decide +kernel), _, rfl, iteF ⟨_, rfl, _, _, _, _, _, rfl, .ty _, ty_t hy, kit_ty (by decide +kernel), _, rfl, iteT ?_⟩⟩
      refine ⟨_, rfl, _, _, _, _, false, rfl, .ty _, ty_t hy, kit_ty (by decide +kernel), _, rfl, _, _, _, _, false, rfl, .ty _, ty_t hx, kit_ty (by decide +kernel), rfl, _, rfl, iteNS rfl ?_⟩
      refine ⟨_, rfl, _, _, _, _, true, rfl, .ty _, ty_t hy, kit_ty (by decide +kernel), _, rfl, _, _, _, _, true, rfl, .ty _, ty_t hx, kit_ty (by decide +kernel), rfl, _, rfl, iteNS rfl ?_⟩
      refine ⟨_, rfl, _, _, rfl, .inr hx, _, rfl, _, _, rfl, .inr hy, rfl, _, rfl, iteNS (by rw [l1, l2]) ?_⟩
      refine ⟨_, rfl, _, _, rfl, .inr hy, _, rfl, (by omega), (by omega), ?_⟩
      rw [show ((vs'.length : Nat) : Int).toNat = ds.length by omega]
      refine for_range (n := ds.length) (fun i σ H' => ∃ kv : Option V, σ = [some (.ref a), some (.ref a'), kv] ∧ H' = H) ⟨none, rfl, rfl⟩ ?_ ?_
      · rintro i σ H' hi ⟨kv, rfl, rfl⟩
        obtain ⟨v, ev, dv⟩ := DpAll.get ax (List.getElem?_eq_getElem hi)
        obtain ⟨v', ev', dv'⟩ := DpAll.get ay (List.getElem?_eq_getElem hi)
        have ev1 : atI vs (0 + (i : Int)) = some v := by rw [Int.zero_add]; exact atI_nat ev
        have ev2 : atI vs' (0 + (i : Int)) = some v' := by rw [Int.zero_add]; exact atI_nat ev'
        refine ⟨_, rfl, _, rfl, .inr (.inl ⟨_, _, _, _, rfl, rfl, hx, ev1, _, rfl, _, rfl, .inr (.inl ⟨_, _, _, _, rfl, rfl, hy, ev2, ?_⟩)⟩)⟩
        exact ⟨v, v', ds[i], rfl, dv, dv', hf2 _ (List.getElem_mem hi), _, rfl, iteF ⟨_, rfl, rfl⟩⟩
      · rintro σ H' ⟨kv, rfl, rfl⟩
        exact q
    | none =>
      cases dx with | non =>
      cases dy with | non =>
      refine ⟨_, rfl, _, _, _, _, _, rfl, .ty _, .base (.non), kit_ty (by decide +kernel), _, rfl, iteF ⟨_, rfl, _, _, _, _, _, rfl, .ty _, .base (.non), kit_ty (by decide +kernel), _, rfl, iteF ?_⟩⟩
      refine ⟨_, rfl, rfl, _, rfl, iteT ?_⟩
      exact ⟨_, rfl, rfl, q⟩
    | bool b =>
      cases dx with | bl =>
      cases dy with | bl =>
      refine ⟨_, rfl, _, _, _, _, _, rfl, .ty _, .base (.bl _), kit_ty (by decide +kernel), _, rfl, iteF ⟨_, rfl, _, _, _, _, _, rfl, .ty _, .base (.bl _), kit_ty (by decide +kernel), _, rfl, iteF ?_⟩⟩
      refine ⟨_, rfl, rfl, _, rfl, iteF ?_⟩
      refine ⟨_, rfl, _, _, _, _, _, rfl, .ty _, .base (.bl _), kit_ty (by decide +kernel), _, rfl, iteT ?_⟩
      refine ⟨_, rfl, _, _, _, _, _, rfl, .ty _, .base (.bl _), kit_ty (by decide +kernel), _, rfl, iteT ⟨_, rfl, _, rfl, rfl, ?_⟩⟩
      rw [decide_eq_true rfl]
      exact q
    | str z =>
      cases dx with | str =>
      cases dy with | str =>
      refine ⟨_, rfl, _, _, _, _, _, rfl, .ty _, .base (.str _), kit_ty (by decide +kernel), _, rfl, iteF ⟨_, rfl, _, _, _, _, _, rfl, .ty _, .base (.str _), kit_ty (by decide +kernel), _, rfl, iteF ?_⟩⟩
      refine ⟨_, rfl, rfl, _, rfl, iteF ?_⟩
      refine ⟨_, rfl, _, _, _, _, _, rfl, .ty _, .base (.str _), kit_ty (by decide +kernel), _, rfl, iteF ⟨_, rfl, _, _, _, _, _, rfl, .ty _, .base (.str _), kit_ty (by decide +kernel), _, rfl, iteT ?_⟩⟩
      refine ⟨_, rfl, _, _, _, _, _, rfl, .ty _, .base (.str _), kit_ty (by decide +kernel), _, rfl, iteT ⟨_, rfl, _, rfl, rfl, ?_⟩⟩
      rw [decide_eq_true rfl]
      exact q
    | int i =>
      cases dx with | int =>
      cases dy with | int =>
      refine ⟨_, rfl, _, _, _, _, _, rfl, .ty _, .base (.int _), kit_ty (by decide +kernel), _, rfl, iteF ⟨_, rfl, _, _, _, _, _, rfl, .ty _, .base (.int _), kit_ty (by decide +kernel), _, rfl, iteF ?_⟩⟩
      refine ⟨_, rfl, rfl, _, rfl, iteF ?_⟩
      refine ⟨_, rfl, _, _, _, _, _, rfl, .ty _, .base (.int _), kit_ty (by decide +kernel), _, rfl, iteF ⟨_, rfl, _, _, _, _, _, rfl, .ty _, .base (.int _), kit_ty (by decide +kernel), _, rfl, iteF ?_⟩⟩
      refine ⟨_, rfl, _, _, _, _, _, rfl, .ty _, .base (.int _), kit_ty (by decide +kernel), _, rfl, iteT ⟨_, rfl, _, _, _, _, false, rfl, .ty _, .base (.int _), kit_ty (by decide +kernel), _, rfl, _, rfl, iteT ⟨_, rfl, _, rfl, rfl, ?_⟩⟩⟩
      rw [decide_eq_true rfl]
      exact q
end
end
namespace Q
noncomputable section
open PySem L2 Y
def x__law_same : Env → Option (Tr × Env) := xSameB
theorem ok__law_same {P : Program} {w : World} {K : PySem.W.Frag} {mg : Str → Option Value} {base : Heap} {A : Nat → Addr} {D : Nat → FuncData} {Tb : List Tbl2} {CA : Str → Addr} (T : Txt K mg A D) : FnOk P w K mg base CX0 9 (A 10) (D 10) ["actual", "due"] (PX K CA Tb x__law_same) := (ok_same T 9).imp fun _ _ _ _ h => sameB_of h
def b__law_cell : XS := (xSeq (xIte (xB (x2 (xVarR 1) (xScrLen 0) fLt)) (xRet (xScrIx 0 (xVarR 1))) xNext) (xRet (xC (.int 0))))
def x__law_cell : Env → Option (Tr × Env) := callX 2 0 b__law_cell
theorem ok__law_cell {P : Program} {w : World} {K : PySem.W.Frag} {mg : Str → Option Value} {base : Heap} {A : Nat → Addr} {D : Nat → FuncData} {Tb : List Tbl2} {CA : Str → Addr} (T : Txt K mg A D) : FnOk P w K mg base CX0 1 (A 7) (D 7) ["script", "k"] (PX K CA Tb x__law_cell) := by
  refine T.F__law_cell.ok (k := 0) sc__law_cell (PX.len rfl) (fun cdv A' outer s H vs Q E hr h => ?_)
  have hnd := sc__law_cell.nd
  exact ⟨_, (pss_cons (ps_if (pt_cmpR op_lt (pv 1) (pe_callB call_len_seq rfl T.z_len PySem.boot_len (pa_cons (pv 0) pa_nil)) (nomark _)) (pss_one (ps_ret (pe_ix (r := rIxL K) ix_list (pv 0) (pv 1) (fun _ _ => rfl)))) pss_nil) (pss_one (ps_ret pe_int))), runX (K := K) (CA := CA) (Tb := Tb) (n := 2) (m := 0) (body := b__law_cell) rfl rfl (sim_seq (sim_ifS (sim_test (sim_op sim_varR (simR_of sim_scrLen) simO_b0)) (sim_ret (sim_scrIx sim_varR)) sim_next) (sim_ret sim_int)) h⟩
def b__law_digits : XS := (xSeq (xSetN 3 (xLst xNil)) (xSeq (xFor (x1 (xCons (xVarR 1) (xCons (xVarR 2) xNil)) rng2D) (gSet 4) (xSeq (xSet 5 (xDn (xCall x__law_cell (agCons (gL 0 []) (agCons (gD (xVar 4)) agNil))))) (xSeq (xIte (xB (x2 (xVarR 5) (xC (.int 0)) fLt)) (xSet 5 (x2 (xC (.int 1)) (x2 (xC (.int 2)) (xVarR 5) fMul) fSub)) xNext) (xIte (xB (x2 (xVarR 5) (x2 (xC (.int 10)) (xC (.int 18)) fPow) fGe)) (xFor (x1 (xCons (xC (.int 60)) xNil) rng1D) (gSet 6) (xIte (xB (x2 (xVarR 5) (xC (.int 0)) fGt)) (xSeq (xApp 3 [] (x2 (x1 (xCons (xVarR 5) xNil) cInt) (xC (.int 1000)) fMod)) (xSet 5 (x2 (xVarR 5) (xC (.int 1000)) fDiv))) xNext)) (xSeq (xSet 7 (x2 (x1 (xCons (x2 (x2 (x2 (xVarR 5) (xC (.int 48271)) fMul) (x2 (xVarR 4) (xC (.int 69621)) fMul) fAdd) (xC (.int 11)) fAdd) xNil) cInt) (xC (.int 2147483647)) fMod)) (xFor (x1 (xCons (xC (.int 12)) xNil) rng1D) (gSet 6) (xSeq (xSet 7 (x2 (x1 (xCons (x2 (x2 (x2 (xVarR 7) (xC (.int 16807)) fMul) (x2 (xC (.int 7)) (xVarR 6) fMul) fAdd) (xC (.int 1)) fAdd) xNil) cInt) (xC (.int 2147483647)) fMod)) (xApp 3 [] (x2 (x1 (xCons (x2 (xVarR 7) (xC (.int 997)) fDiv) xNil) cInt) (xC (.int 1000)) fMod))))))))) (xRetN (xMove 3))))
def x__law_digits : Env → Option (Tr × Env) := callX 3 5 b__law_digits
theorem ok__law_digits {P : Program} {w : World} {K : PySem.W.Frag} {mg : Str → Option Value} {base : Heap} {A : Nat → Addr} {D : Nat → FuncData} {Tb : List Tbl2} {CA : Str → Addr} (T : Txt K mg A D) : FnOk P w K mg base CX0 2 (A 8) (D 8) ["script", "first", "last"] (PX K CA Tb x__law_digits) := by
  refine T.F__law_digits.ok (k := 1) sc__law_digits (PX.len rfl) (fun cdv A' outer s H vs Q E hr h => ?_)
  have hnd := sc__law_digits.nd
  have G__law_cell := ok__law_cell (P := P) (w := w) (base := base) (Tb := Tb) (CA := CA) T
  exact ⟨_, (pss_cons (ps_set (i := 3) hnd rfl (Or.inl rfl) (pe_lst pa_nil)) (pss_cons (ps_for PassesOwn.never rfl (pi_range2 rfl T.z_range (pa_cons (pv 1) (pa_cons (pv 2) pa_nil))) (pg_name (i := 4) hnd rfl (Or.inl rfl)) (pss_cons (ps_set (i := 5) hnd rfl (Or.inl rfl) (pe_call G__law_cell (hr.mono (by first | decide | omega)) rfl T.m__law_cell T.F__law_cell.kp T.b__law_cell .nil pass0 (pa_cons (pv 0) (pa_cons (pv 4) pa_nil)))) (pss_cons (ps_if (pt_cmpR op_lt (pv 5) pe_int (nomark _)) (pss_one (ps_set (i := 5) hnd rfl (Or.inl rfl) (pe_op op_sub pe_int (pe_op op_mul pe_int (pv 5))))) pss_nil) (pss_one (ps_if (pt_cmpR op_ge (pv 5) (pe_op op_pow pe_int pe_int) (nomark _)) (pss_one (ps_for PassesOwn.never rfl (pi_range1 rfl T.z_range (pa_cons pe_int pa_nil)) (pg_name (i := 6) hnd rfl (Or.inl rfl)) (pss_one (ps_if (pt_cmpR op_gt (pv 5) pe_int (nomark _)) (pss_cons (ps_expr (pe_bm PySem.F.plainAttrs_list PySem.F.slot_list_append PySem.F.type_list_append mt_append (pv 3) (pa_cons (pe_op op_mod (pe_callTy call_int1 rfl T.z_int (by decide +kernel) (pa_cons (pv 5) pa_nil)) pe_int) pa_nil))) (pss_one (ps_set (i := 5) hnd rfl (Or.inl rfl) (pe_op op_fdiv (pv 5) pe_int)))) pss_nil)))) (pss_cons (ps_set (i := 7) hnd rfl (Or.inl rfl) (pe_op op_mod (pe_callTy call_int1 rfl T.z_int (by decide +kernel) (pa_cons (pe_op op_add (pe_op op_add (pe_op op_mul (pv 5) pe_int) (pe_op op_mul (pv 4) pe_int)) pe_int) pa_nil)) pe_int)) (pss_one (ps_for PassesOwn.never rfl (pi_range1 rfl T.z_range (pa_cons pe_int pa_nil)) (pg_name (i := 6) hnd rfl (Or.inl rfl)) (pss_cons (ps_set (i := 7) hnd rfl (Or.inl rfl) (pe_op op_mod (pe_callTy call_int1 rfl T.z_int (by decide +kernel) (pa_cons (pe_op op_add (pe_op op_add (pe_op op_mul (pv 7) pe_int) (pe_op op_mul pe_int (pv 6))) pe_int) pa_nil)) pe_int)) (pss_one (ps_expr (pe_bm PySem.F.plainAttrs_list PySem.F.slot_list_append PySem.F.type_list_append mt_append (pv 3) (pa_cons (pe_op op_mod (pe_callTy call_int1 rfl T.z_int (by decide +kernel) (pa_cons (pe_op op_fdiv (pv 7) pe_int) pa_nil)) pe_int) pa_nil))))))))))))) (pss_one (ps_ret (pv 3))))), runX (K := K) (CA := CA) (Tb := Tb) (n := 3) (m := 5) (body := b__law_digits) rfl rfl (sim_seq (sim_setN (sim_lst sim_nil)) (sim_seq (sim_for (sim_wR2 (sim_consR sim_varR (sim_consR sim_varR sim_nilR))) sim_gName (sim_seq (sim_set (simD_of (sim_call (sim_agCons (sim_gL sim_pvar) (sim_agCons (sim_gD sim_var) sim_agNil))))) (sim_seq (sim_ifS (sim_test (sim_op sim_varR (simR_of sim_int) simO_b0)) (sim_set (sim_op (simR_of sim_int) (simR_of (sim_op (simR_of sim_int) sim_varR simO_mul)) simO_i0)) sim_next) (sim_ifS (sim_test (sim_op sim_varR (simR_of (sim_op (simR_of sim_int) (simR_of sim_int) simO_pow)) simO_b0)) (sim_for (sim_wR1 (sim_consR (simR_of sim_int) sim_nilR)) sim_gName (sim_ifS (sim_test (sim_op sim_varR (simR_of sim_int) simO_b0)) (sim_seq (sim_app sim_pvar (sim_op (simR_of (sim_cb (sim_consR sim_varR sim_nilR) simC_int)) (simR_of sim_int) simO_mod)) (sim_set (sim_op sim_varR (simR_of sim_int) simO_div))) sim_next)) (sim_seq (sim_set (sim_op (simR_of (sim_cb (sim_consR (simR_of (sim_op (simR_of (sim_op (simR_of (sim_op sim_varR (simR_of sim_int) simO_mul)) (simR_of (sim_op sim_varR (simR_of sim_int) simO_mul)) simO_i0)) (simR_of sim_int) simO_i0)) sim_nilR) simC_int)) (simR_of sim_int) simO_mod)) (sim_for (sim_wR1 (sim_consR (simR_of sim_int) sim_nilR)) sim_gName (sim_seq (sim_set (sim_op (simR_of (sim_cb (sim_consR (simR_of (sim_op (simR_of (sim_op (simR_of (sim_op sim_varR (simR_of sim_int) simO_mul)) (simR_of (sim_op (simR_of sim_int) sim_varR simO_mul)) simO_i0)) (simR_of sim_int) simO_i0)) sim_nilR) simC_int)) (simR_of sim_int) simO_mod)) (sim_app sim_pvar (sim_op (simR_of (sim_cb (sim_consR (simR_of (sim_op sim_varR (simR_of sim_int) simO_div)) sim_nilR) simC_int)) (simR_of sim_int) simO_mod))))))))) (sim_retN sim_move))) h⟩
end
end Q
namespace PP
open Y

/-! ### what all laws share: cells, digits, draws -/
theorem same_upd {H H' : Hp} {p : Addr} {o : HO} (h : Same H H') (hp : H p = none) : Same H (upd H' p o) := fun b u q => by
  rw [upd_ne (ne_of_none q hp)]; exact h b u q
theorem same_new {H : Hp} {p : Addr} {o : HO} (h : H p = none) : Same H (upd H p o) := same_upd (Same.refl H) h
theorem at_ints {ns : List Int} {k : Nat} (h : k < ns.length) : atI (ns.map V.int) (k : Int) = some (.int (ns.getD k 0)) := by
  apply atI_nat
  rw [List.getElem?_map, List.getElem?_eq_getElem h, List.getD_eq_getElem?_getD, List.getElem?_eq_getElem h]
  rfl
section
variable {P : Program} {w : World} {K : PySem.W.Frag} {mg : Str → Option Value} {base : Heap} {A : Nat → Addr} {D : Nat → FuncData}
theorem len_lt {n : Nat} (h : n ≤ 1000000) : n < sizeLine := Nat.lt_of_le_of_lt h (by decide)
theorem app_map {ds : List Int} {z : Int} : ds.map V.int ++ [V.int z] = (ds ++ [z]).map V.int := by rw [List.map_append]; rfl
end


/-- all but the object at b stand as before -/
def Kp (b : Addr) (H H' : Hp) : Prop := ∀ c o, H c = some o → c ≠ b → H' c = some o
theorem Kp.refl (b : Addr) (H : Hp) : Kp b H H := fun _ _ h _ => h
theorem Kp.trans {b : Addr} {H H1 H2 : Hp} (a : Kp b H H1) (c : Kp b H1 H2) : Kp b H H2 := fun x o h n => c x o (a x o h n) n
theorem Kp.upd {b : Addr} {H H' : Hp} {o : HO} (a : Kp b H H') : Kp b H (upd H' b o) := fun x u h n => by rw [upd_ne n]; exact a x u h n
theorem Kp.of {b : Addr} {H H' : Hp} (a : Same H H') : Kp b H H' := fun x o h _ => a x o h
/-- the box of draws: its digits at p, the place -/
def BoxAt (H : Hp) (b p : Addr) : Prop := ∃ (ns : List Int) (n : Nat), H b = some (.lst [.ref p, .int (n : Int)]) ∧ H p = some (.lst (ns.map V.int))
theorem BoxAt.keep {H H' : Hp} {b p : Addr} (h : BoxAt H b p) (k : Same H H') : BoxAt H' b p := by
  obtain ⟨ns, n, h1, h2⟩ := h
  exact ⟨ns, n, k _ _ h1, k _ _ h2⟩
theorem BoxAt.ne {H : Hp} {b p d : Addr} (h : BoxAt H b p) (hd : H d = none) : d ≠ b ∧ d ≠ p := by
  obtain ⟨ns, n, h1, h2⟩ := h
  exact ⟨fun e => (by rw [e, h1] at hd; cases hd), fun e => (by rw [e, h2] at hd; cases hd)⟩
theorem BoxAt.updO {H : Hp} {b p d : Addr} {o : HO} (h : BoxAt H b p) (n1 : d ≠ b) (n2 : d ≠ p) : BoxAt (upd H d o) b p := by
  obtain ⟨ns, n, h1, h2⟩ := h
  exact ⟨ns, n, by rw [upd_ne n1.symm]; exact h1, by rw [upd_ne n2.symm]; exact h2⟩
/-- tuples stand as before -/
def TK (H H' : Hp) : Prop := ∀ c u, (∃ xs, u = .tup xs) → Rd H c u → Rd H' c u
theorem TK.refl (H : Hp) : TK H H := fun _ _ _ h => h
theorem TK.trans {H H1 H2 : Hp} (a : TK H H1) (b : TK H1 H2) : TK H H2 := fun c u h r => b c u h (a c u h r)
theorem TK.same {H H' : Hp} (a : Same H H') : TK H H' := fun c u _ r => by
  rcases r with r | ⟨o, r⟩
  · exact .inl (a _ _ r)
  · exact .inr ⟨o, a _ _ r⟩
theorem TK.kp {b : Addr} {H H' : Hp} {xs : List V} (a : Kp b H H') (h : H b = some (.lst xs)) : TK H H' := fun c u ⟨ys, e⟩ r => by
  subst e
  have hn : c ≠ b := fun z => by subst z; rcases r with r | ⟨o, r⟩ <;> (rw [h] at r; cases r)
  rcases r with r | ⟨o, r⟩
  · exact .inl (a _ _ r hn)
  · exact .inr ⟨o, a _ _ r hn⟩
theorem TK.box {b p : Addr} {H H' : Hp} (h : BoxAt H b p) (a : Kp b H H') : TK H H' := by
  obtain ⟨ns, n, h1, h2⟩ := h
  exact TK.kp a h1
theorem TK.updL {H H' : Hp} {b : Addr} {xs ys : List V} (a : TK H H') (h : H' b = some (.lst xs)) : TK H (upd H' b (.lst ys)) :=
  a.trans (TK.kp (Kp.upd (Kp.refl b H')) h)
theorem TK.new {H H' : Hp} {b : Addr} {o : HO} (a : TK H H') (h : H' b = none) : TK H (upd H' b o) := a.trans (TK.same (same_new h))
theorem TK.seq {K : PySem.W.Frag} {H H' : Hp} (k : TK H H') {a : Addr} {xs : List V} (h : SqT K H a xs) : SqT K H' a xs := by
  rcases h with h | h
  · exact .inl (k _ _ ⟨_, rfl⟩ h)
  · exact .inr h
/-- data without lists -/
inductive Imm : PyData → Prop
  | non : Imm .none
  | bl (b : Bool) : Imm (.bool b)
  | int (i : Int) : Imm (.int i)
  | str (x : Str) : Imm (.str x)
  | tup {ds : List PyData} : (∀ d ∈ ds, Imm d) → Imm (.tuple ds)
mutual
theorem Dp.keep {K : PySem.W.Frag} {H H' : Hp} (k : TK H H') : ∀ {v : V} {d : PyData}, Dp K H v d → Imm d → Dp K H' v d
  | _, _, .non, _ => .non
  | _, _, .bl b, _ => .bl b
  | _, _, .int i, _ => .int i
  | _, _, .str x, _ => .str x
  | _, _, .lst h a, i => nomatch i
  | _, _, .tup h a, i => .tup (k.seq h) (DpAll.keep k a (match i with | .tup j => j))
theorem DpAll.keep {K : PySem.W.Frag} {H H' : Hp} (k : TK H H') : ∀ {vs : List V} {ds : List PyData}, DpAll K H vs ds → (∀ d ∈ ds, Imm d) → DpAll K H' vs ds
  | _, _, .nil, _ => .nil
  | _, _, .cons a b, i => .cons (Dp.keep k a (i _ List.mem_cons_self)) (DpAll.keep k b fun d hd => i d (List.mem_cons_of_mem _ hd))
end
mutual
theorem Dp.same {K : PySem.W.Frag} {H H' : Hp} (k : Same H H') : ∀ {v : V} {d : PyData}, Dp K H v d → Dp K H' v d
  | _, _, .non => .non
  | _, _, .bl b => .bl b
  | _, _, .int i => .int i
  | _, _, .str x => .str x
  | _, _, .lst h a => .lst (k.seq h) (DpAll.same k a)
  | _, _, .tup h a => .tup ((TK.same k).seq h) (DpAll.same k a)
theorem DpAll.same {K : PySem.W.Frag} {H H' : Hp} (k : Same H H') : ∀ {vs : List V} {ds : List PyData}, DpAll K H vs ds → DpAll K H' vs ds
  | _, _, .nil => .nil
  | _, _, .cons a b => .cons (Dp.same k a) (DpAll.same k b)
end
theorem DpAll.len {K : PySem.W.Frag} {H : Hp} : ∀ {vs : List V} {ds : List PyData}, DpAll K H vs ds → vs.length = ds.length
  | _, _, .nil => rfl
  | _, _, .cons a b => by rw [List.length_cons, List.length_cons, DpAll.len b]
theorem DpAll.get {K : PySem.W.Frag} {H : Hp} : ∀ {vs : List V} {ds : List PyData}, DpAll K H vs ds → ∀ {i : Nat} {d : PyData}, ds[i]? = some d → ∃ v, vs[i]? = some v ∧ Dp K H v d
  | _, _, .nil, i, d, h => by simp at h
  | _, _, .cons a b, 0, d, h => by
    have e := Option.some.inj h
    subst e
    exact ⟨_, rfl, a⟩
  | _, _, .cons a b, i + 1, d, h => DpAll.get b (i := i) (by simpa using h)
theorem DpAll.app {K : PySem.W.Frag} {H : Hp} : ∀ {vs ws : List V} {ds es : List PyData}, DpAll K H vs ds → DpAll K H ws es → DpAll K H (vs ++ ws) (ds ++ es)
  | _, _, _, _, .nil, h => h
  | _, _, _, _, .cons a b, h => .cons a (DpAll.app b h)
theorem DpAll.ints {K : PySem.W.Frag} {H : Hp} : ∀ (ns : List Int), DpAll K H (ns.map V.int) (ns.map PyData.int)
  | [] => .nil
  | n :: r => .cons (.int n) (DpAll.ints r)
theorem DpAll.strs {K : PySem.W.Frag} {H : Hp} : ∀ (ns : List Str), DpAll K H (ns.map V.str) (ns.map PyData.str)
  | [] => .nil
  | n :: r => .cons (.str n) (DpAll.strs r)
/-- depth below n, lists not too long -/
def Fits : Nat → PyData → Prop
  | 0, _ => False
  | n + 1, .list xs => xs.length < 2 ^ 60 ∧ ∀ x ∈ xs, Fits n x
  | n + 1, .tuple xs => xs.length < 2 ^ 60 ∧ ∀ x ∈ xs, Fits n x
  | _ + 1, .dict _ => False
  | _ + 1, _ => True
theorem ty_l {K : PySem.W.Frag} {H : Hp} {a : Addr} {xs : List V} (h : SqL K H a xs) : TyX K H (.ref a) (.type "list") := by
  rcases h with (h | ⟨o, h⟩) | ⟨o, its, n, h1, h2, _⟩
  · exact .base (.lst h)
  · exact .base (.frz h)
  · exact .kList h1 h2
theorem ty_t {K : PySem.W.Frag} {H : Hp} {a : Addr} {xs : List V} (h : SqT K H a xs) : TyX K H (.ref a) (.type "tuple") := by
  rcases h with (h | ⟨o, h⟩) | ⟨o, its, n, h1, h2, _⟩
  · exact .base (.tup h)
  · exact .fTuple h
  · exact .kTuple h1 h2
/-- the two are the same data: True -/
def ySame (K : PySem.W.Frag) (n : Nat) : Sp := fun vs H Q _ => ∃ (x y : V) (d : PyData), vs = [x, y] ∧ Dp K H x d ∧ Dp K H y d ∧ Fits n d ∧ Q (.bl true) H
section
variable {P : Program} {w : World} {K : PySem.W.Frag} {mg : Str → Option Value} {base : Heap} {A : Nat → Addr} {D : Nat → FuncData}
end


theorem take_succ_map {α β : Type} {f : α → β} {l : List α} {i : Nat} {x : α} (h : l[i]? = some x) : (l.take i).map f ++ [f x] = (l.take (i + 1)).map f := by
  rw [List.take_add_one, h, List.map_append]; rfl
theorem take_all {α : Type} {l : List α} {n : Nat} (h : l.length ≤ n) : l.take n = l := List.take_of_length_le h


/-! ### a list of immutable data that grows -/
def LAt (K : PySem.W.Frag) (H : Hp) (d : Addr) (ds : List PyData) : Prop := ∃ vs, H d = some (.lst vs) ∧ DpAll K H vs ds ∧ ∀ x ∈ ds, Imm x
theorem LAt.tk {K : PySem.W.Frag} {H H' : Hp} {d : Addr} {ds : List PyData} (h : LAt K H d ds) (k : TK H H') (e : ∀ o, H d = some o → H' d = some o) : LAt K H' d ds := by
  obtain ⟨vs, h1, h2, h3⟩ := h
  exact ⟨vs, e _ h1, DpAll.keep k h2 h3, h3⟩
theorem LAt.same {K : PySem.W.Frag} {H H' : Hp} {d : Addr} {ds : List PyData} (h : LAt K H d ds) (k : Same H H') : LAt K H' d ds := h.tk (TK.same k) fun o => k _ o
theorem LAt.kp {K : PySem.W.Frag} {H H' : Hp} {b p d : Addr} {ds : List PyData} (h : LAt K H d ds) (B : BoxAt H b p) (k : Kp b H H') (n : d ≠ b) : LAt K H' d ds := h.tk (TK.box B k) fun o e => k _ o e n
theorem LAt.push {K : PySem.W.Frag} {H : Hp} {d : Addr} {ds : List PyData} {vs : List V} {v : V} {x : PyData} (h1 : H d = some (.lst vs)) (h2 : DpAll K H vs ds) (h3 : ∀ x ∈ ds, Imm x) (hv : Dp K H v x) (hx : Imm x) : LAt K (upd H d (.lst (vs ++ [v]))) d (ds ++ [x]) := by
  have k : TK H (upd H d (.lst (vs ++ [v]))) := TK.updL (TK.refl H) h1
  have h4 : ∀ y ∈ ds ++ [x], Imm y := fun y hy => by
    rcases List.mem_append.mp hy with hy | hy
    · exact h3 y hy
    · rw [List.mem_singleton.mp hy]; exact hx
  exact ⟨_, upd_same, DpAll.keep k (DpAll.app h2 (.cons hv .nil)) h4, h4⟩
theorem LAt.nil {K : PySem.W.Frag} {H : Hp} {d : Addr} (h : H d = some (.lst [])) : LAt K H d [] := ⟨[], h, .nil, fun x hx => nomatch hx⟩


def encT (t : Str × Str) : PyData := .tuple [.str t.1, .str t.2]
theorem imm_encT (t : Str × Str) : Imm (encT t) := .tup fun d hd => by
  rcases List.mem_cons.mp hd with rfl | hd
  · exact .str _
  · rw [List.mem_singleton.mp hd]; exact .str _


/-! ### data of questions and documents -/
theorem slA_use {K : PySem.W.Frag} {H : Hp} {Q : VK} {a : Addr} {xs : List V} {lo hi : Option Int} (hx : SqT K H a xs) (h : ∀ p H', Same H H' → SqT K H' p (cutV xs lo hi) → Q (.ref p) H') : rSlA K (.ref a) lo hi H Q := by
  refine ⟨a, xs, rfl, hx, fun hw => ?_, fun _ p hp => h p _ (same_new hp) (SqT.of upd_same)⟩
  have e : cutV xs lo hi = xs := by
    unfold cutV
    rw [hw.1, hw.2, List.drop_zero, Nat.sub_zero, List.take_length]
  exact h a H (Same.refl H) (by rw [e]; exact hx)
theorem catA_use {K : PySem.W.Frag} {H : Hp} {Q : VK} {a b : Addr} {xs ys : List V} (ha : SqT K H a xs) (hb : SqT K H b ys) (hz : xs.length + ys.length ≤ sizeLine) (h : ∀ p H', Same H H' → SqT K H' p (xs ++ ys) → Q (.ref p) H') : rCatA K (.ref a) (.ref b) H Q := by
  refine ⟨a, b, xs, ys, rfl, rfl, ha, hb, hz, fun e => h b H (Same.refl H) (by rw [e]; exact hb), fun _ e => h a H (Same.refl H) (by rw [e, List.append_nil]; exact ha), fun _ _ p hp => h p _ (same_new hp) (SqT.of upd_same)⟩
theorem sIx_n (n d k : Nat) : HT.sIx n d (some (k : Int)) = min k n := HT.sIx_nat n d k
theorem cutV_from (xs : List V) (k : Nat) : cutV xs (some (k : Int)) none = xs.drop k := by
  unfold cutV
  rw [sIx_n, HT.sIx_none]
  by_cases h : k ≤ xs.length
  · rw [Nat.min_eq_left h]
    exact List.take_of_length_le (by rw [List.length_drop]; omega)
  · rw [List.drop_eq_nil_of_le (by omega), List.drop_eq_nil_of_le (by omega), List.take_nil]
theorem cutV_mid (xs : List V) (a b : Nat) : cutV xs (some (a : Int)) (some (b : Int)) = (xs.drop a).take (b - a) := by
  unfold cutV
  rw [sIx_n, sIx_n]
  by_cases h : a ≤ xs.length
  · rw [Nat.min_eq_left h]
    exact List.take_eq_take_iff.mpr (by rw [List.length_drop]; omega)
  · rw [List.drop_eq_nil_of_le (by omega), List.drop_eq_nil_of_le (by omega), List.take_nil, List.take_nil]
abbrev Pat := Str × Str
def encPs (ps : List Pat) : PyData := .tuple (ps.map encT)
def encRow (ps : List Pat) (gap : Nat) : PyData := .tuple [.str "row", encPs ps, .int (gap : Int)]
def encD (ws : List Str) : PyData := .tuple (ws.map .str)
def encW (pl : List Nat) : PyData := .tuple (pl.map fun (n : Nat) => .int (n : Int))
theorem imm_ts (ps : List Pat) : ∀ d ∈ ps.map encT, Imm d := fun d hd => by
  obtain ⟨p, _, rfl⟩ := List.mem_map.mp hd; exact imm_encT p
theorem imm_encW (pl : List Nat) : Imm (encW pl) := .tup fun d hd => by
  obtain ⟨n, _, rfl⟩ := List.mem_map.mp hd; exact .int _
theorem imm_encD (ws : List Str) : Imm (encD ws) := .tup fun d hd => by
  obtain ⟨n, _, rfl⟩ := List.mem_map.mp hd; exact .str _
theorem imm_encPs (ps : List Pat) : Imm (encPs ps) := .tup (imm_ts ps)
theorem imm_encRow (ps : List Pat) (gap : Nat) : Imm (encRow ps gap) := .tup fun d hd => by
  rcases List.mem_cons.mp hd with rfl | hd
  · exact .str _
  · rcases List.mem_cons.mp hd with rfl | hd
    · exact imm_encPs ps
    · rw [List.mem_singleton.mp hd]; exact .int _
theorem Dp.tupI {K : PySem.W.Frag} {H : Hp} {v : V} {ds : List PyData} (h : Dp K H v (.tuple ds)) : ∃ a xs, v = .ref a ∧ SqT K H a xs ∧ DpAll K H xs ds := by
  cases h with
  | tup h1 h2 => exact ⟨_, _, rfl, h1, h2⟩
theorem Dp.strI {K : PySem.W.Frag} {H : Hp} {v : V} {z : Str} (h : Dp K H v (.str z)) : v = .str z := by cases h; rfl
theorem Dp.intI {K : PySem.W.Frag} {H : Hp} {v : V} {z : Int} (h : Dp K H v (.int z)) : v = .int z := by cases h; rfl
theorem DpAll.consI {K : PySem.W.Frag} {H : Hp} {vs : List V} {d : PyData} {ds : List PyData} (h : DpAll K H vs (d :: ds)) : ∃ v r, vs = v :: r ∧ Dp K H v d ∧ DpAll K H r ds := by
  cases h with
  | cons a b => exact ⟨_, _, rfl, a, b⟩
theorem DpAll.nilI {K : PySem.W.Frag} {H : Hp} {vs : List V} (h : DpAll K H vs []) : vs = [] := by cases h; rfl
theorem DpAll.strsI {K : PySem.W.Frag} {H : Hp} : ∀ {vs : List V} {ss : List Str}, DpAll K H vs (ss.map PyData.str) → vs = ss.map V.str
  | _, [], h => DpAll.nilI h
  | _, s :: r, h => by
    obtain ⟨v, t, rfl, h1, h2⟩ := DpAll.consI h
    rw [Dp.strI h1, DpAll.strsI h2]; rfl
theorem DpAll.natsI {K : PySem.W.Frag} {H : Hp} : ∀ {vs : List V} {ss : List Nat}, DpAll K H vs (ss.map fun (n : Nat) => PyData.int (n : Int)) → vs = ss.map fun (n : Nat) => V.int (n : Int)
  | _, [], h => DpAll.nilI h
  | _, s :: r, h => by
    obtain ⟨v, t, rfl, h1, h2⟩ := DpAll.consI h
    rw [Dp.intI h1, DpAll.natsI h2]; rfl
theorem DpAll.nats {K : PySem.W.Frag} {H : Hp} : ∀ (ss : List Nat), DpAll K H (ss.map fun (n : Nat) => V.int (n : Int)) (ss.map fun (n : Nat) => PyData.int (n : Int))
  | [] => .nil
  | n :: r => .cons (.int _) (DpAll.nats r)
theorem dp_encT {K : PySem.W.Frag} {H : Hp} {v : V} {p : Pat} (h : Dp K H v (encT p)) : ∃ q, v = .ref q ∧ SqT K H q [.str p.1, .str p.2] := by
  obtain ⟨a, xs, rfl, h1, h2⟩ := Dp.tupI h
  obtain ⟨x, r, rfl, h3, h4⟩ := DpAll.consI h2
  obtain ⟨y, r2, rfl, h5, h6⟩ := DpAll.consI h4
  rw [Dp.strI h3, Dp.strI h5, DpAll.nilI h6] at h1
  exact ⟨a, rfl, h1⟩
theorem dp_encD {K : PySem.W.Frag} {H : Hp} {v : V} {ws : List Str} (h : Dp K H v (encD ws)) : ∃ q, v = .ref q ∧ SqT K H q (ws.map V.str) := by
  obtain ⟨a, xs, rfl, h1, h2⟩ := Dp.tupI h
  rw [DpAll.strsI h2] at h1
  exact ⟨a, rfl, h1⟩
theorem dp_encW {K : PySem.W.Frag} {H : Hp} {v : V} {pl : List Nat} (h : Dp K H v (encW pl)) : ∃ q, v = .ref q ∧ SqT K H q (pl.map fun (n : Nat) => V.int (n : Int)) := by
  obtain ⟨a, xs, rfl, h1, h2⟩ := Dp.tupI h
  rw [DpAll.natsI h2] at h1
  exact ⟨a, rfl, h1⟩
theorem mk_encW {K : PySem.W.Frag} {H : Hp} {q : Addr} {pl : List Nat} (h : SqT K H q (pl.map fun (n : Nat) => V.int (n : Int))) : Dp K H (.ref q) (encW pl) := .tup h (DpAll.nats pl)
theorem dp_encRow {K : PySem.W.Frag} {H : Hp} {v : V} {ps : List Pat} {gap : Nat} (h : Dp K H v (encRow ps gap)) : ∃ q pa pxs, v = .ref q ∧ SqT K H q [.str "row", .ref pa, .int (gap : Int)] ∧ SqT K H pa pxs ∧ DpAll K H pxs (ps.map encT) := by
  obtain ⟨a, xs, rfl, h1, h2⟩ := Dp.tupI h
  obtain ⟨x, r, rfl, h3, h4⟩ := DpAll.consI h2
  obtain ⟨y, r2, rfl, h5, h6⟩ := DpAll.consI h4
  obtain ⟨z, r3, rfl, h7, h8⟩ := DpAll.consI h6
  obtain ⟨pa, pxs, rfl, h9, h10⟩ := Dp.tupI h5
  rw [Dp.strI h3, Dp.intI h7, DpAll.nilI h8] at h1
  exact ⟨a, pa, pxs, rfl, h1, h9, h10⟩
def fitsB (w : Str) (p : Pat) : Bool := if p.1 = "start" then Txt.startswith w p.2 else decide (w = p.2)
/-- how many of the patterns are taken, one behind the other -/
def tstep (ps : List Pat) (t : Nat) (w : Str) : Nat := if t < ps.length ∧ fitsB w (ps.getD t ("", "")) = true then t + 1 else t
def taken (ps : List Pat) (ws : List Str) : Nat := ws.foldl (tstep ps) 0
def endB (L n gap f : Nat) : Nat := min (f + n + gap) L
def beginsB (ws : List Str) (ps : List Pat) (gap : Nat) (pl : List Nat) : Bool :=
  fitsB (ws.getD (pl.getLastD 0) "") (ps.getD (pl.length - 1) ("", "")) && decide (taken (ps.drop (pl.length - 1)) ((ws.drop (pl.getLastD 0)).take (endB ws.length ps.length gap (pl.headD 0) - pl.getLastD 0)) = (ps.drop (pl.length - 1)).length)
def yFits (K : PySem.W.Frag) : Sp := fun vs H Q _ => ∃ (w : Str) (v : V) (p : Pat), vs = [.str w, v] ∧ Dp K H v (encT p) ∧ Q (.bl (fitsB w p)) H
def yEndB (K : PySem.W.Frag) : Sp := fun vs H Q _ => ∃ (vd vr : V) (ws : List Str) (ps : List Pat) (gap f : Nat), vs = [vd, vr, .int (f : Int)] ∧ Dp K H vd (encD ws) ∧ Dp K H vr (encRow ps gap) ∧ Q (.int ((endB ws.length ps.length gap f : Nat) : Int)) H
def yBegins (K : PySem.W.Frag) : Sp := fun vs H Q _ => ∃ (vd vr vp : V) (ws : List Str) (ps : List Pat) (gap : Nat) (pl : List Nat), vs = [vd, vr, vp] ∧ Dp K H vd (encD ws) ∧ Dp K H vr (encRow ps gap) ∧ Dp K H vp (encW pl) ∧
  pl ≠ [] ∧ pl.length ≤ ps.length ∧ pl.getLastD 0 < endB ws.length ps.length gap (pl.headD 0) ∧ ∀ H', Same H H' → Q (.bl (beginsB ws ps gap pl)) H'


/-! ### the grammar of questions -/
inductive Qu : Type
  | all : Qu
  | row (ps : List Pat) (gap : Nat) : Qu
  | neg (q : Qu) : Qu
  | bin (o : Bool) (qs : List Qu) : Qu
mutual
def encU : Qu → PyData
  | .all => .tuple [.str "all"]
  | .row ps gap => encRow ps gap
  | .neg q => .tuple [.str "not", encU q]
  | .bin o qs => .tuple [.str (if o = true then "or" else "and"), .tuple (encUs qs)]
def encUs : List Qu → List PyData
  | [] => []
  | q :: r => encU q :: encUs r
end
theorem encUs_map : ∀ qs : List Qu, encUs qs = qs.map encU
  | [] => rfl
  | q :: r => by
    show encU q :: encUs r = encU q :: r.map encU
    rw [encUs_map r]
theorem imm_two {a b : PyData} (ha : Imm a) (hb : Imm b) : Imm (.tuple [a, b]) := .tup fun d hd => by
  rcases List.mem_cons.mp hd with rfl | hd
  · exact ha
  · rw [List.mem_singleton.mp hd]; exact hb
mutual
theorem imm_encU : ∀ q : Qu, Imm (encU q)
  | .all => .tup fun d hd => by rw [List.mem_singleton.mp hd]; exact .str _
  | .row ps gap => imm_encRow ps gap
  | .neg q => imm_two (.str _) (imm_encU q)
  | .bin o qs => imm_two (.str _) (.tup (imm_encUs qs))
theorem imm_encUs : ∀ qs : List Qu, ∀ d ∈ encUs qs, Imm d
  | [], d, h => nomatch h
  | q :: r, d, h => by
    rcases List.mem_cons.mp h with rfl | h
    · exact imm_encU q
    · exact imm_encUs r d h
end


theorem strF {A B : Prop} {a b : Str} (h : a ≠ b) (hb : B) : if decide (V.str a = V.str b) = true then A else B := by
  rw [if_neg fun c => h (V.str.inj (of_decide_eq_true c))]
  exact hb
theorem strT {A B : Prop} {a : Str} (ha : A) : if decide (V.str a = V.str a) = true then A else B := by
  rw [if_pos (decide_eq_true rfl)]
  exact ha
theorem dp_kind {K : PySem.W.Frag} {H : Hp} {v : V} {k : Str} {ds : List PyData} (h : Dp K H v (.tuple (.str k :: ds))) : ∃ a us, v = .ref a ∧ SqT K H a (.str k :: us) ∧ DpAll K H us ds := by
  obtain ⟨a, xs, rfl, h1, h2⟩ := Dp.tupI h
  obtain ⟨v, r, rfl, h3, h4⟩ := DpAll.consI h2
  rw [Dp.strI h3] at h1
  exact ⟨a, r, rfl, h1, h4⟩


/-! ### list.extend(tuple) -/
open PySem.Spec PyProof.Rows in
theorem ext_tup (l : Addr) (items : Array Value) (n : Nat) (b : Addr) (items2 : Array Value) (hlong : ¬ (!items.isEmpty && Builtin.List.listTooLong (items.size + items2.size)) = true) (hs1 : items.size ≤ sizeLine) (hs2 : items.size + items2.size ≤ sizeLine + 1) :
    Meets (Builtin.«list.extend» ⟨[.ref l, .ref b], []⟩) (fun _ R s => s.heap.get? l = some { cls := .type "list", dict := none, data := .seq items n, slots := #[] } ∧ (∃ o n2, s.heap.get? b = some o ∧ o.cls = .type "tuple" ∧ o.data = .seq items2 n2) ∧ R (.ok (.ret Value.none)) { s with heap := s.heap.update l (Obj.mapSeq fun x => x ++ items2), toks := s.toks }) := by
  intro prog w A R s ⟨hl, ⟨o, n2, ho, hc, hd⟩, h⟩
  show wpAny _ A.in1 (Builtin.List.listExtendWith (.ref l) (.ref b) .none) _ _ s
  unfold Builtin.List.listExtendWith
  refine wpAny_bind (wpAny_typeOf ⟨o, ho, hc⟩ ?_)
  have h1 : (Builtin.List.listSameRef (.ref l) (.ref b) || Value.type "tuple" == Value.type "list" || Value.type "tuple" == Value.type "tuple") = true := by simp
  simp only [h1, if_true]
  refine wpAny_bind ?_
  unfold Builtin.List.listItems
  refine wpAny_bind (wpAny_seqItems ho hd (wpAny_pure ?_))
  refine wpAny_bind ?_
  refine wpAny_bind (wpAny_seqItems hl rfl (wpAny_pure ?_))
  rw [if_neg hlong]
  show wpAny _ A.in1 (updateSeq l (· ++ items2) >>= fun _ => ret Value.none) _ _ s
  refine wpAny_bind (wpAny_updateSeq hl rfl ?_ (hz := hs1) (_hz' := by rw [Array.size_append]; exact hs2))
  exact wpAny_pure h
def rExtT (K : PySem.W.Frag) : V → List V → Hp → VK → Prop := fun x vs H Q => ∃ l b xs zs, x = .ref l ∧ vs = [.ref b] ∧ H l = some (.lst xs) ∧ SqT K H b zs ∧ xs.length + zs.length ≤ sizeLine ∧ Q .non (upd H l (.lst (xs ++ zs)))
open PySem.Spec PyProof.Rows in
theorem mt_extendT {X : Cx} : MtM X "list.extend" (rExtT X.K) := by
  intro pins s σ H x vs v us Q I rx rv h
  obtain ⟨l, b, xs, zs, rfl, rfl, hH, hB, hz, q⟩ := h
  cases rx
  obtain ⟨u, rfl, ru⟩ := rv.one
  cases ru
  obtain ⟨z, its, n, r, hl, e⟩ := I.lstM hH
  obtain ⟨its2, r2, ⟨o2, ho2, hc2, n2, hd2⟩, z2⟩ := I.tuple hB
  have hl2 := r2.length
  have hsz : its.toArray.size + its2.toArray.size ≤ sizeLine := by rw [List.size_toArray, List.size_toArray]; omega
  have hlong : ¬ (!its.toArray.isEmpty && Builtin.List.listTooLong (its.toArray.size + its2.toArray.size)) = true := by
    rw [notLongL hsz, Bool.and_false]
    exact Bool.false_ne_true
  refine call_meets F.slot_list_extend ⟨_, e, rfl⟩ F.entry_list_extend (F.args_list_extend_2 _ _)
    (ext_tup l its.toArray n b its2.toArray hlong (by rw [List.size_toArray]; omega) (by omega)) ⟨e, ⟨o2, n2, ho2, hc2, hd2⟩, ?_⟩
  refine ⟨.non, _, I.lset (its' := its ++ its2) hH e (by simp) (r.append r2) ?_, rfl, q⟩
  rw [List.length_append]
  omega


def UAt (K : PySem.W.Frag) (H : Hp) (d : Addr) (qs : List Qu) : Prop := LAt K H d (qs.map encU)
theorem Same.spT {K : PySem.W.Frag} {H H' : Hp} {p : Addr} {xs : List V} (s : Same H H') (h : SqT K H p xs) : SqT K H' p xs := (TK.same s).seq h


def partsU : Qu → List Qu
  | .neg q => [q]
  | .bin _ qs => qs
  | _ => []
mutual
def subsR : Qu → List Qu
  | .all => [.all]
  | .row ps g => [.row ps g]
  | .neg q => .neg q :: subsR q
  | .bin o qs => .bin o qs :: subsRs qs
def subsRs : List Qu → List Qu
  | [] => []
  | q :: r => subsRs r ++ subsR q
end
theorem subsRs_eq : ∀ qs : List Qu, subsRs qs = qs.reverse.flatMap subsR
  | [] => rfl
  | q :: r => by
    show subsRs r ++ subsR q = _
    rw [subsRs_eq r, List.reverse_cons, List.flatMap_append, List.flatMap_singleton]
theorem subsR_eq (q : Qu) : subsR q = q :: (partsU q).reverse.flatMap subsR := by
  cases q with
  | all => rfl
  | row ps g => rfl
  | neg q =>
    show Qu.neg q :: subsR q = Qu.neg q :: ([q] : List Qu).reverse.flatMap subsR
    rw [List.reverse_singleton, List.flatMap_singleton]
  | bin o qs =>
    show Qu.bin o qs :: subsRs qs = _
    rw [subsRs_eq]; rfl
def yParts (K : PySem.W.Frag) : Sp := fun vs H Q _ => ∃ (v : V) (q : Qu) (M : Hp), vs = [v] ∧ Same M H ∧ Dp K M v (encU q) ∧ ∀ p H' xs, Same H H' → SqT K H' p xs → DpAll K M xs ((partsU q).map encU) → Q (.ref p) H'
theorem DpAll.appI {K : PySem.W.Frag} {H : Hp} : ∀ {ds es : List PyData} {vs : List V}, DpAll K H vs (ds ++ es) → ∃ v1 v2, vs = v1 ++ v2 ∧ DpAll K H v1 ds ∧ DpAll K H v2 es
  | [], _, _, h => ⟨[], _, rfl, .nil, h⟩
  | d :: ds, _, _, h => by
    obtain ⟨v, r, rfl, h1, h2⟩ := DpAll.consI h
    obtain ⟨v1, v2, rfl, h3, h4⟩ := DpAll.appI h2
    exact ⟨v :: v1, v2, rfl, .cons h1 h3, h4⟩
theorem strDec {a b : Str} : decide (V.str a = V.str b) = decide (a = b) := by
  rw [Bool.eq_iff_iff, decide_eq_true_eq, decide_eq_true_eq]
  exact ⟨V.str.inj, congrArg V.str⟩
section
variable {P : Program} {w : World} {K : PySem.W.Frag} {mg : Str → Option Value} {base : Heap} {A : Nat → Addr} {D : Nat → FuncData}
theorem ok_parts_of (T : Txt K mg A D) : FnOk P w K mg base CX0 1 (A 2) (D 2) ["question"] (yParts K) := by
  refine T.F_parts_of.ok sc_parts_of (fun vs H Q E h => ?_) (fun cdv A' outer s H vs Q E hr h => ?_)
  · obtain ⟨v, q, M, rfl, _⟩ := h; rfl
  obtain ⟨v, q, M, rfl, sM, hd, fin⟩ := h
  have hnd := sc_parts_of.nd
  refine ⟨_, (pss_cons (ps_if (pt_cmpR op_eq (pe_ix (r := rIxT K) ix_tup (pv 0) pe_int (fun _ _ => rfl)) pe_str (nomark _)) (pss_one (ps_ret (pe_tup (pa_cons (pe_ix (r := rIxT K) ix_tup (pv 0) pe_int (fun _ _ => rfl)) pa_nil)))) pss_nil) (pss_cons (ps_if (pt_cmpR op_in_seq (pe_ix (r := rIxT K) ix_tup (pv 0) pe_int (fun _ _ => rfl)) (pe_tup (pa_cons pe_str (pa_cons pe_str pa_nil))) (by rfl)) (pss_one (ps_ret (pe_ix (r := rIxT K) ix_tup (pv 0) pe_int (fun _ _ => rfl)))) pss_nil) (pss_one (ps_ret (pe_tup pa_nil))))), ?_⟩
  cases q with
  | all =>
    obtain ⟨aq, us, rfl, haq, hus⟩ := dp_kind (show Dp K M v (.tuple [.str "all"]) from hd)
    replace haq := Same.spT sM haq
    refine ⟨_, rfl, aq, _, 0, _, rfl, rfl, haq, atI_nat (j := 0) rfl, rfl, _, rfl, strF (by decide) ?_⟩
    refine ⟨_, rfl, aq, _, 0, _, rfl, rfl, haq, atI_nat (j := 0) rfl, (by show 2 ≤ sizeLine; decide), fun t ht => ?_⟩
    refine ⟨t, _, rfl, .inr (SqT.of upd_same), rfl, rfl, _, rfl, ?_⟩
    rw [show inV (V.str "all") [.str "and", .str "or"] = false by decide +kernel]
    refine iteF ⟨(by show 0 ≤ sizeLine; decide), fun t2 ht2 => ?_⟩
    exact fin t2 _ [] ((same_new ht).trans (same_new ht2)) (SqT.of upd_same) .nil
  | row ps g =>
    obtain ⟨aq, us, rfl, haq, hus⟩ := dp_kind (show Dp K M v (.tuple [.str "row", encPs ps, .int (g : Int)]) from hd)
    replace haq := Same.spT sM haq
    refine ⟨_, rfl, aq, _, 0, _, rfl, rfl, haq, atI_nat (j := 0) rfl, rfl, _, rfl, strF (by decide) ?_⟩
    refine ⟨_, rfl, aq, _, 0, _, rfl, rfl, haq, atI_nat (j := 0) rfl, (by show 2 ≤ sizeLine; decide), fun t ht => ?_⟩
    refine ⟨t, _, rfl, .inr (SqT.of upd_same), rfl, rfl, _, rfl, ?_⟩
    rw [show inV (V.str "row") [.str "and", .str "or"] = false by decide +kernel]
    refine iteF ⟨(by show 0 ≤ sizeLine; decide), fun t2 ht2 => ?_⟩
    exact fin t2 _ [] ((same_new ht).trans (same_new ht2)) (SqT.of upd_same) .nil
  | neg q =>
    obtain ⟨aq, us, rfl, haq, hus⟩ := dp_kind (show Dp K M v (.tuple [.str "not", encU q]) from hd)
    replace haq := Same.spT sM haq
    obtain ⟨v1, us2, rfl, hv1, hnil⟩ := DpAll.consI hus
    refine ⟨_, rfl, aq, _, 0, _, rfl, rfl, haq, atI_nat (j := 0) rfl, rfl, _, rfl, strT ?_⟩
    refine ⟨_, rfl, aq, _, 1, _, rfl, rfl, haq, atI_nat (j := 1) rfl, (by show 1 ≤ sizeLine; decide), fun t ht => ?_⟩
    exact fin t _ [v1] (same_new ht) (SqT.of upd_same) (.cons hv1 .nil)
  | bin o qs =>
    obtain ⟨aq, us, rfl, haq, hus⟩ := dp_kind (show Dp K M v (.tuple [.str (if o = true then "or" else "and"), .tuple (encUs qs)]) from hd)
    replace haq := Same.spT sM haq
    obtain ⟨v1, us2, rfl, hv1, hnil⟩ := DpAll.consI hus
    obtain ⟨a1, xs, rfl, ha1, hxs⟩ := Dp.tupI hv1
    refine ⟨_, rfl, aq, _, 0, _, rfl, rfl, haq, atI_nat (j := 0) rfl, rfl, _, rfl, strF (by cases o <;> decide) ?_⟩
    refine ⟨_, rfl, aq, _, 0, _, rfl, rfl, haq, atI_nat (j := 0) rfl, (by show 2 ≤ sizeLine; decide), fun t ht => ?_⟩
    refine ⟨t, _, rfl, .inr (SqT.of upd_same), rfl, rfl, _, rfl, ?_⟩
    rw [show inV (V.str (if o = true then "or" else "and")) [.str "and", .str "or"] = true by cases o <;> decide +kernel]
    refine iteT ?_
    have st := same_new (o := .tup [.str "and", .str "or"]) ht
    refine ⟨_, rfl, aq, _, 1, _, rfl, rfl, (Same.spT st haq), atI_nat (j := 1) rfl, ?_⟩
    rw [encUs_map] at hxs
    exact fin a1 _ xs st (Same.spT st (Same.spT sM ha1)) hxs
def UAM (K : PySem.W.Frag) (M H : Hp) (d : Addr) (qs : List Qu) : Prop := ∃ vs, H d = some (.lst vs) ∧ DpAll K M vs (qs.map encU)
def ySubs (K : PySem.W.Frag) : Sp := fun vs H Q _ => ∃ (v : V) (q : Qu) (M : Hp), vs = [v] ∧ Same M H ∧ Dp K M v (encU q) ∧ (subsR q).length ≤ 1000000 ∧ ∀ p H', Same H H' → H p = none → UAM K M H' p (subsR q) → Q (.ref p) H'
theorem flat_ge : ∀ qs : List Qu, qs.length ≤ (qs.flatMap subsR).length
  | [] => Nat.le_refl _
  | q :: r => by
    rw [List.flatMap_cons, List.length_append, subsR_eq, List.length_cons, List.length_cons]
    have := flat_ge r
    omega
theorem ok_questions_in (T : Txt K mg A D) : FnOk P w K mg base CX0 2 (A 1) (D 1) ["question"] (ySubs K) := by
  refine T.F_questions_in.ok sc_questions_in (fun vs H Q E h => ?_) (fun cdv A' outer s H vs Q E hr h => ?_)
  · obtain ⟨v, q, M, rfl, _⟩ := h; rfl
  obtain ⟨v, q, M, rfl, sM, hd, hsz, fin⟩ := h
  have hnd := sc_questions_in.nd
  have G_parts_of := ok_parts_of (P := P) (w := w) (base := base) T
  refine ⟨_, (pss_cons (ps_set (i := 1) hnd rfl (Or.inl rfl) (pe_lst pa_nil)) (pss_cons (ps_set (i := 2) hnd rfl (Or.inl rfl) (pe_lst (pa_cons (pv 0) pa_nil))) (pss_cons (ps_while PassesOwn.never (pt_truth (pv 2) (by intro _; rfl)) (pss_cons (ps_set (i := 3) hnd rfl (Or.inl rfl) (pe_bm0 PySem.F.plainAttrs_list PySem.F.slot_list_pop PySem.F.type_list_pop mt_pop (pv 2))) (pss_cons (ps_expr (pe_bm PySem.F.plainAttrs_list PySem.F.slot_list_append PySem.F.type_list_append mt_append (pv 1) (pa_cons (pv 3) pa_nil))) (pss_one (ps_expr (pe_bm PySem.F.plainAttrs_list PySem.F.slot_list_extend PySem.F.type_list_extend mt_extendT (pv 2) (pa_cons (pe_call G_parts_of (hr.mono (by first | decide | omega)) rfl T.m_parts_of T.F_parts_of.kp T.b_parts_of .nil pass0 (pa_cons (pv 3) pa_nil)) pa_nil))))))) (pss_one (ps_ret (pv 1)))))), ?_⟩
  refine ⟨(by decide), fun f hf => ?_⟩
  refine ⟨_, rfl, (by show 1 ≤ sizeLine; decide), fun g hg => ?_⟩
  have sf := same_new (o := .lst []) hf
  have sg := sf.trans (same_new (o := .lst [v]) hg)
  have hgf : g ≠ f := fun e => by rw [e, upd_same] at hg; cases hg
  have hg0 : H g = none := sf.free hg
  refine ⟨fun m σ H' => ∃ (fs ws : List Qu) (c3 : Option V), σ = [some v, some (.ref f), some (.ref g), c3] ∧ Same H H' ∧ UAM K M H' f fs ∧ UAM K M H' g ws ∧ fs ++ ws.reverse.flatMap subsR = subsR q ∧ m = (ws.reverse.flatMap subsR).length,
    ⟨_, [], [q], none, rfl, sg, ⟨[], by rw [upd_ne hgf.symm]; exact upd_same, .nil⟩, ⟨[v], upd_same, .cons hd .nil⟩, (by rw [List.nil_append, List.reverse_singleton, List.flatMap_singleton]), rfl⟩, ?_⟩
  rintro m σ H1 ⟨fs, ws, c3, rfl, s1, F1, G1, hinv, rfl⟩
  obtain ⟨vg, g1, g2⟩ := G1
  have hlg : vg.length = ws.length := by rw [DpAll.len g2, List.length_map]
  refine ⟨_, rfl, _, .inl ⟨vg, SqL.of g1, rfl⟩, ?_⟩
  have hlen : fs.length + (ws.reverse.flatMap subsR).length = (subsR q).length := by rw [← hinv, List.length_append]
  rcases List.eq_nil_or_concat ws with rfl | ⟨ws', x, rfl⟩
  · have e : vg = [] := List.eq_nil_of_length_eq_zero hlg
    subst e
    refine iteF ⟨_, rfl, ?_⟩
    rw [List.reverse_nil, List.flatMap_nil, List.append_nil] at hinv
    rw [← hinv] at fin
    exact fin f H1 s1 hf F1
  · rw [List.concat_eq_append] at hinv hlen hlg g2 ⊢
    rw [List.map_append] at g2
    obtain ⟨vs', us, rfl, d1, d2⟩ := DpAll.appI g2
    obtain ⟨vx, us2, rfl, dvx, dn⟩ := DpAll.consI d2
    rw [DpAll.nilI dn] at g1 hlg ⊢
    rw [List.length_append, List.length_append] at hlg
    have hl' : vs'.length = ws'.length := by simpa using hlg
    rw [show (!(vs' ++ [vx]).isEmpty) = true by simp]
    have hrev : (ws' ++ [x]).reverse.flatMap subsR = x :: ((partsU x).reverse.flatMap subsR ++ ws'.reverse.flatMap subsR) := by
      rw [List.reverse_append, List.reverse_singleton, List.flatMap_append, List.flatMap_singleton, subsR_eq]; rfl
    rw [hrev] at hinv hlen ⊢
    have hge := flat_ge ws'.reverse
    have hge2 := flat_ge (partsU x).reverse
    rw [List.length_reverse] at hge hge2
    rw [List.length_cons, List.length_append] at hlen
    refine iteT ⟨fun σ' H' => ∃ (fs ws : List Qu) (c3 : Option V), σ' = [some v, some (.ref f), some (.ref g), c3] ∧ Same H H' ∧ UAM K M H' f fs ∧ UAM K M H' g ws ∧ fs ++ ws.reverse.flatMap subsR = subsR q ∧ (ws.reverse.flatMap subsR).length < (x :: ((partsU x).reverse.flatMap subsR ++ ws'.reverse.flatMap subsR)).length,
      fun σ' H' ⟨fs, ws, c, h1, h2, h3, h4, h5, h6⟩ => ⟨_, h6, fs, ws, c, h1, h2, h3, h4, h5, rfl⟩, ?_⟩
    refine ⟨_, rfl, .inl ⟨rfl, _, SqL.of g1⟩, g, _, vx, rfl, rfl, g1, (by simp), ?_⟩
    rw [List.dropLast_concat]
    obtain ⟨vf, f1, f2⟩ := F1
    have k2 : TK H1 (upd H1 g (.lst vs')) := TK.updL (TK.refl H1) g1
    have f1' : upd H1 g (.lst vs') f = some (.lst vf) := by rw [upd_ne hgf.symm]; exact f1
    have k3 : TK H1 (upd (upd H1 g (.lst vs')) f (.lst (vf ++ [vx]))) := TK.updL k2 f1'
    have hvf : vf.length = fs.length := by rw [DpAll.len f2, List.length_map]
    have s3 : Same H (upd (upd H1 g (.lst vs')) f (.lst (vf ++ [vx]))) := same_upd (same_upd s1 hg0) hf
    refine ⟨_, rfl, .inl ⟨rfl, _, SqL.of f1'⟩, _, rfl, f, _, _, rfl, rfl, f1', (by rw [hvf]; exact len_lt (by omega)), ?_⟩
    have g4 : upd (upd H1 g (.lst vs')) f (.lst (vf ++ [vx])) g = some (.lst vs') := by rw [upd_ne hgf]; exact upd_same
    refine ⟨_, rfl, .inl ⟨rfl, _, SqL.of g4⟩, _, rfl, vx, x, M, rfl, sM.trans s3, dvx, fun p H4 xs s4 hp4 hxs => ?_⟩
    have g5 := s4 _ _ g4
    have f5 : H4 f = some (.lst (vf ++ [vx])) := s4 _ _ upd_same
    have hxl : xs.length = (partsU x).length := by rw [DpAll.len hxs, List.length_map]
    refine ⟨g, p, _, _, rfl, rfl, g5, hp4, (by rw [hl', hxl]; show _ ≤ 16777216; omega), ?_⟩
    have k5 : TK H4 (upd H4 g (.lst (vs' ++ xs))) := TK.updL (TK.refl H4) g5
    refine ⟨fs ++ [x], ws' ++ partsU x, some vx, rfl, same_upd (s3.trans s4) hg0, ⟨vf ++ [vx], by rw [upd_ne hgf.symm]; exact f5, ?_⟩, ⟨vs' ++ xs, upd_same, ?_⟩, ?_, ?_⟩
    · rw [List.map_append]
      exact DpAll.app f2 (.cons dvx .nil)
    · rw [List.map_append]
      exact DpAll.app d1 hxs
    · rw [List.reverse_append, List.flatMap_append, List.append_assoc]
      exact hinv
    · rw [List.reverse_append, List.flatMap_append, List.length_cons]
      exact Nat.lt_succ_self _
end


/-! ### tables of sets: a word for a table whose elements are found again, any full mask -/
def rnd (m : Nat) : Nat → Nat × Nat
  | 0 => (0, 0)
  | n + 1 => (((rnd m n).1 * 5 + 1) % (m + 1), (rnd m n).2 ||| 1 <<< (rnd m n).1)
def Full (m : Nat) : Prop := (rnd m (m + 1)).2 = 2 ^ (m + 1) - 1 ∧ (rnd m (m + 1)).1 = 0 ∧ m % 2 = 1 ∧ (m = 7 ∨ m = 31 ∨ m = 127 ∨ m = 511)
theorem rnd_fst (m : Nat) : ∀ n, (rnd m n).1 = lcgN m n
  | 0 => rfl
  | n + 1 => by
    show ((rnd m n).1 * 5 + 1) % (m + 1) = _
    rw [rnd_fst m n]; rfl
theorem rnd_bit (m : Nat) : ∀ n j, (rnd m n).2.testBit j = true → ∃ b, b < n ∧ lcgN m b = j
  | 0, j, h => by
    rw [show (rnd m 0).2 = 0 from rfl, Nat.zero_testBit] at h
    cases h
  | n + 1, j, h => by
    rw [show (rnd m (n + 1)).2 = (rnd m n).2 ||| 1 <<< (rnd m n).1 from rfl, Nat.testBit_or, Bool.or_eq_true] at h
    rcases h with h | h
    · obtain ⟨b, h1, h2⟩ := rnd_bit m n j h
      exact ⟨b, by omega, h2⟩
    · refine ⟨n, by omega, ?_⟩
      rw [Nat.one_shiftLeft, Nat.testBit_two_pow, decide_eq_true_eq, rnd_fst] at h
      exact h
theorem full7 : Full 7 := by unfold Full; decide +kernel
theorem full31 : Full 31 := by unfold Full; decide +kernel
theorem full127 : Full 127 := by unfold Full; decide +kernel
theorem full511 : Full 511 := by unfold Full; decide +kernel
theorem full_from0 {m : Nat} (h : Full m) {j : Nat} (hj : j ≤ m) : ∃ b, b ≤ m ∧ lcgN m b = j := by
  obtain ⟨b, h1, h2⟩ := rnd_bit m (m + 1) j (by rw [h.1, Nat.testBit_two_pow_sub_one]; exact decide_eq_true (by omega))
  exact ⟨b, by omega, h2⟩
theorem full_round {m : Nat} (h : Full m) : ∀ k, lcgN m (m + 1 + k) = lcgN m k
  | 0 => by rw [Nat.add_zero, ← rnd_fst]; exact h.2.1
  | k + 1 => by
    show (lcgN m (m + 1 + k) * 5 + 1) % (m + 1) = (lcgN m k * 5 + 1) % (m + 1)
    rw [full_round h k]
theorem full_all {m : Nat} (h : Full m) {i j : Nat} (hi : i ≤ m) (hj : j ≤ m) : ∃ k, k ≤ m ∧ lcgI m i k = j := by
  obtain ⟨a, ha, rfl⟩ := full_from0 h hi
  obtain ⟨b, hb, rfl⟩ := full_from0 h hj
  by_cases c : a ≤ b
  · exact ⟨b - a, by omega, by rw [lcgN_add, show a + (b - a) = b by omega]⟩
  · exact ⟨b + (m + 1) - a, by omega, by rw [lcgN_add, show a + (b + (m + 1) - a) = m + 1 + b by omega, full_round h]⟩
theorem full_run {m : Nat} (hm : Full m) (h : Int) {j : Nat} (hj : j ≤ m) : ∃ n, n ≤ m + 12 ∧ runI m (SetTable.bits h) n = j := by
  obtain ⟨k, hk, e⟩ := full_all hm (runI_le m (SetTable.bits h) 12) hj
  exact ⟨12 + k, by omega, by rw [runI_tail (bits_lt h)]; exact e⟩
/-- each slot is come to -/
theorem full_meets {m : Nat} (hm : Full m) (h : Int) {j : Nat} (hj : j ≤ m) : ∃ k, k < 10 * SetTable.turns m ∧ way m h k = j := by
  obtain ⟨n, hn, e⟩ := full_run hm h hj
  obtain ⟨k, hk, e2⟩ := run_nth m (SetTable.bits h) n
  refine ⟨k, by unfold SetTable.turns; omega, ?_⟩
  show (nth m (runAt m (SetTable.bits h % (m + 1)) (SetTable.bits h)) k).j = j
  rw [e2]
  exact e
theorem way_in {m : Nat} (h : Int) (k : Nat) : way m h k ≤ m := by
  have hi : SetTable.bits h % (m + 1) ≤ m := Nat.le_of_lt_succ (Nat.mod_lt _ (Nat.succ_pos _))
  have r := runEnd_bd hi
  have q := nth_in (m := m) k (runAt m (SetTable.bits h % (m + 1)) (SetTable.bits h)) (by show SetTable.bits h % (m + 1) + (SetTable.runEnd m (SetTable.bits h % (m + 1)) - SetTable.bits h % (m + 1)) ≤ m; omega)
  exact Nat.le_trans (Nat.le_add_right _ _) q
/-- found again: by the way from its hash, past taken slots -/
def Fnd (m : Nat) (pl : List Nat) (h : Int) (j : Nat) : Prop := ∃ k, way m h k = j ∧ ∀ c, c < k → way m h c ∈ pl
theorem Fnd.mono {m : Nat} {pl pl' : List Nat} {h : Int} {j : Nat} (f : Fnd m pl h j) (s : ∀ x ∈ pl, x ∈ pl') : Fnd m pl' h j := by
  obtain ⟨k, e, b⟩ := f
  exact ⟨k, e, fun c hc => s _ (b c hc)⟩
structure Tbl (t : SetTable) (hs : List Int) : Prop where
  ris : Ris t.place.toList
  dm : t.dummies = #[]
  sz : t.place.size = hs.length
  full : Full t.mask
  bd : ∀ x ∈ t.place.toList, x ≤ t.mask
  fnd : ∀ (i : Nat) (h : Int) (j : Nat), hs[i]? = some h → t.place.toList[i]? = some j → Fnd t.mask t.place.toList h j
/-- where a way ends -/
structure Ends (t : SetTable) (h : Int) (K : Nat) : Prop where
  lt : K < 10 * SetTable.turns t.mask
  out : way t.mask h K ∉ t.place.toList
  inn : ∀ c, c < K → way t.mask h c ∈ t.place.toList
theorem Tbl.ends {t : SetTable} {hs : List Int} (T : Tbl t hs) (hl : hs.length ≤ t.mask) (h : Int) : ∃ K, Ends t h K := by
  obtain ⟨j, hj, hn⟩ := st_missing t.place.toList (t.mask + 1) (by rw [Array.length_toList, T.sz]; omega)
  obtain ⟨k, hk, e⟩ := full_meets T.full h (Nat.le_of_lt_succ hj)
  obtain ⟨K, h1, h2, h3⟩ := st_least (p := fun k => way t.mask h k ∉ t.place.toList) k (by show way t.mask h k ∉ _; rw [e]; exact hn)
  exact ⟨K, Nat.lt_of_le_of_lt h1 hk, h2, fun c hc => Classical.byContradiction fun z => h3 c hc z⟩
theorem Ends.before {t : SetTable} {hs : List Int} (T : Tbl t hs) {h : Int} {K i j : Nat} (N : Ends t h K) (hi : hs[i]? = some h) (hj : t.place.toList[i]? = some j) : ∃ k, k < K ∧ way t.mask h k = j := by
  obtain ⟨k, e, b⟩ := T.fnd i h j hi hj
  refine ⟨k, Nat.lt_of_not_le fun c => ?_, e⟩
  rcases Nat.eq_or_lt_of_le c with c | c
  · exact N.out (by rw [c, e]; exact List.mem_of_getElem? hj)
  · exact N.out (b K c)
theorem Tbl.put {t : SetTable} {hs : List Int} (T : Tbl t hs) {h : Int} {K : Nat} (N : Ends t h K) :
    SetTable.below t.place (way t.mask h K) ≤ hs.length ∧ Tbl (t.put (way t.mask h K)).1 (hs.take (SetTable.below t.place (way t.mask h K)) ++ h :: hs.drop (SetTable.below t.place (way t.mask h K))) ∧
    (t.put (way t.mask h K)).1.fill = hs.length + 1 := by
  have hw := way_in (m := t.mask) h K
  have hK := N.out
  have hin := N.inn
  obtain ⟨k0, e0⟩ : ∃ k, way t.mask h k = way t.mask h K ∧ ∀ c, c < k → way t.mask h c ∈ t.place.toList := ⟨K, rfl, hin⟩
  generalize way t.mask h K = j at hw hK e0 ⊢
  have hle : SetTable.below t.place j ≤ t.place.size := (below_cut T.ris j).1
  have hlp : SetTable.below t.place j ≤ t.place.toList.length := by rw [Array.length_toList]; exact hle
  have hlh : SetTable.below t.place j ≤ hs.length := by rw [← T.sz]; exact hle
  have hpl := put_place t j
  have up : ∀ x ∈ t.place.toList, x ∈ (t.put j).1.place.toList := fun x hx => by rw [hpl]; exact mem_ins.2 (.inr hx)
  have hsz : (t.put j).1.place.size = hs.length + 1 := by
    rw [← Array.length_toList, hpl, len_ins _ hlp, Array.length_toList, T.sz]
  have hdm := put_dm T.dm j
  refine ⟨hlh, ⟨ris_insert T.ris fun e => hK (List.mem_of_getElem? (by rw [Array.getElem?_toList]; exact e)), hdm, by rw [len_ins _ hlh]; exact hsz, T.full, fun x hx => ?_, fun i h' j' h1 h2 => ?_⟩, ?_⟩
  · rw [hpl] at hx
    rcases mem_ins.1 hx with rfl | hx
    · exact hw
    · exact T.bd x hx
  · rw [hpl, tins_get _ hlp] at h2
    rw [tins_get _ hlh] at h1
    show Fnd t.mask _ h' j'
    by_cases c1 : i < SetTable.below t.place j
    · rw [if_pos c1] at h1 h2
      exact (T.fnd i h' j' h1 h2).mono up
    · rw [if_neg c1] at h1 h2
      by_cases c2 : i = SetTable.below t.place j
      · rw [if_pos c2] at h1 h2
        rw [← Option.some.inj h1, ← Option.some.inj h2]
        exact Fnd.mono ⟨k0, e0.1, e0.2⟩ up
      · rw [if_neg c2] at h1 h2
        exact (T.fnd (i - 1) h' j' h1 h2).mono up
  · unfold SetTable.fill
    rw [hsz, hdm]; rfl
/-! laid anew -/
/-- the numbers below n sit at slots that are found from their hashes -/
structure Sit (m : Nat) (hs : List Int) (owner : Array (Option Nat)) : Prop where
  sz : owner.size = m + 1
  own : ∀ j k, j ≤ m → oAt owner j = some k → ∃ h c, hs[k]? = some h ∧ way m h c = j ∧ ∀ c', c' < c → oAt owner (way m h c') ≠ none
  all : ∀ k, k < hs.length → ∃ j, j ≤ m ∧ oAt owner j = some k
  few : ∃ ps : List Nat, ps.length = hs.length ∧ ∀ j, j ≤ m → oAt owner j ≠ none → j ∈ ps
theorem Sit.zero (m : Nat) : Sit m [] (Array.replicate (m + 1) none) := ⟨by simp, (fun j k hj e => by rw [oAt_init hj] at e; cases e), fun k hk => absurd hk (Nat.not_lt_zero _), [], rfl, fun j hj e => absurd (oAt_init hj) e⟩
theorem free_full {m : Nat} (hm : Full m) (owner : Array (Option Nat)) (h : Int) {j : Nat} (hj : j ≤ m) (hf : oAt owner j = none) :
    ∃ c, SetTable.layClean.free m owner (SetTable.turns m) (SetTable.bits h % (m + 1)) (SetTable.bits h) = some (way m h c) ∧ oAt owner (way m h c) = none ∧ ∀ c', c' < c → oAt owner (way m h c') ≠ none := by
  obtain ⟨n, hn, e⟩ := full_run hm h hj
  have at_n : way m h (off m (SetTable.bits h % (m + 1)) (SetTable.bits h) n) = j := by
    show (nth m (runAt m (SetTable.bits h % (m + 1)) (SetTable.bits h)) (off m (SetTable.bits h % (m + 1)) (SetTable.bits h) n)).j = j
    rw [nth_off, itL_run]
    exact e
  obtain ⟨K, k1, k2, k3⟩ := st_least (p := fun k => oAt owner (way m h k) = none) (off m (SetTable.bits h % (m + 1)) (SetTable.bits h) n) (by
    show oAt owner (way m h _) = none
    rw [at_n]; exact hf)
  refine ⟨K, free_spec m owner (SetTable.turns m) n _ _ K (by unfold SetTable.turns; omega) k1 (fun k hk => ?_) ?_, k2, k3⟩
  · have q := k3 k hk
    show (oAt owner (way m h k)).isNone = false
    cases z : oAt owner (way m h k) with
    | none => exact absurd z q
    | some _ => rfl
  · show (oAt owner (way m h K)).isNone = true
    rw [k2]; rfl
theorem Sit.step {m : Nat} {hs : List Int} {owner : Array (Option Nat)} (hm : Full m) (W : Sit m hs owner) (hl : hs.length ≤ m) (h : Int) : ∃ owner', stepF m (some (owner, hs.length)) h = some (owner', (hs ++ [h]).length) ∧ Sit m (hs ++ [h]) owner' := by
  obtain ⟨ps, hps, hin⟩ := W.few
  obtain ⟨j0, h0, hn0⟩ := st_missing ps (m + 1) (by omega)
  have hj0 : oAt owner j0 = none := Classical.byContradiction fun z => hn0 (hin j0 (by omega) z)
  obtain ⟨c, e1, e2, e3⟩ := free_full hm owner h (show j0 ≤ m by omega) hj0
  have hjm := way_in (m := m) h c
  have hjs : way m h c < owner.size := by rw [W.sz]; omega
  have mono : ∀ i, oAt owner i ≠ none → oAt (owner.setIfInBounds (way m h c) (some hs.length)) i ≠ none := fun i hi => by
    by_cases z : i = way m h c
    · rw [z, oAt_set_self _ hjs]; exact fun e => nomatch e
    · rw [oAt_set_ne _ z]; exact hi
  refine ⟨_, by rw [stepF_some e1, List.length_append, List.length_singleton], by rw [Array.size_setIfInBounds]; exact W.sz, fun j k hj e => ?_, fun k hk => ?_, way m h c :: ps, by rw [List.length_cons, hps, List.length_append, List.length_singleton], fun i hi e => ?_⟩
  · by_cases z : j = way m h c
    · rw [z, oAt_set_self _ hjs] at e
      rw [← Option.some.inj e]
      exact ⟨h, c, by rw [List.getElem?_append_right (Nat.le_refl _), Nat.sub_self]; rfl, z.symm, fun c' hc' => mono _ (e3 c' hc')⟩
    · rw [oAt_set_ne _ z] at e
      obtain ⟨h', c', a1, a2, a3⟩ := W.own j k hj e
      exact ⟨h', c', by rw [List.getElem?_append_left (List.getElem?_eq_some_iff.mp a1).1]; exact a1, a2, fun x hx => mono _ (a3 x hx)⟩
  · rw [List.length_append, List.length_singleton] at hk
    by_cases z : k = hs.length
    · exact ⟨way m h c, hjm, by rw [z]; exact oAt_set_self _ hjs⟩
    · obtain ⟨i, hi, e⟩ := W.all k (by omega)
      exact ⟨i, hi, by rw [oAt_set_ne _ (fun y => by rw [y, e2] at e; cases e)]; exact e⟩
  · by_cases z : i = way m h c
    · rw [z]; exact List.mem_cons_self
    · rw [oAt_set_ne _ z] at e
      exact List.mem_cons_of_mem _ (hin i hi e)
theorem Sit.fold {m : Nat} (hm : Full m) : ∀ (rest hs : List Int) (owner : Array (Option Nat)), Sit m hs owner → hs.length + rest.length ≤ m → ∃ owner', rest.foldl (stepF m) (some (owner, hs.length)) = some (owner', (hs ++ rest).length) ∧ Sit m (hs ++ rest) owner'
  | [], hs, owner, W, _ => ⟨owner, by rw [List.append_nil]; rfl, by rw [List.append_nil]; exact W⟩
  | h :: rest, hs, owner, W, hl => by
    rw [List.length_cons] at hl
    obtain ⟨o1, e1, W1⟩ := W.step hm (by omega) h
    obtain ⟨o2, e2, W2⟩ := Sit.fold hm rest (hs ++ [h]) o1 W1 (by rw [List.length_append, List.length_singleton]; omega)
    rw [List.append_assoc] at e2 W2
    exact ⟨o2, by rw [List.foldl_cons, e1]; exact e2, W2⟩
theorem relaid_full (t : SetTable) {hs : Array Int} {wanted M : Nat} (hw : SetTable.sizeAbove wanted - 1 = M) (hM : Full M) (hn : hs.size ≤ M) :
    ∃ t' order, t.relaid hs wanted = some (t', order) ∧ order.toList.Perm (List.range hs.size) ∧ Tbl t' (order.toList.map fun i => hs.getD i 0) ∧ t'.mask = M ∧ t'.led = t.led := by
  obtain ⟨owner, e, W⟩ := Sit.fold hM hs.toList [] _ (Sit.zero M) (by rw [Array.length_toList]; show 0 + hs.size ≤ M; omega)
  rw [List.nil_append] at e W
  have hlay : SetTable.layClean M hs = some owner := by
    rw [layClean_eq]
    have e' : hs.toList.foldl (stepF M) (some (Array.replicate (M + 1) none, 0)) = some (owner, hs.toList.length) := e
    rw [e']; rfl
  have hr : t.relaid hs wanted = some (tabOf t M owner, ((liveOf M owner).map (·.2)).toArray) := by
    rw [relaid_eq, hw, hlay]; rfl
  have ris := ris_live (fun j => owner.getD j none) (List.range (M + 1)) (by
    unfold Ris
    first | exact List.pairwise_lt_range | exact List.pairwise_lt_range _)
  have r1 : Ris ((liveOf M owner).map (·.1)) := ris.1
  have nd : ((liveOf M owner).map (·.1)).Nodup := List.Pairwise.imp (fun h => Nat.ne_of_lt h) r1
  have hlen : (liveOf M owner).length = hs.size := by
    obtain ⟨ps, p1, p2⟩ := W.few
    have a := nat_nodup_len ((liveOf M owner).map (·.1)) ps nd fun x hx => by
      obtain ⟨⟨y, k⟩, hq, rfl⟩ := List.mem_map.mp hx
      obtain ⟨b1, b2⟩ := (mem_live W.sz).1 hq
      exact p2 _ b1 (by rw [b2]; exact fun z => nomatch z)
    have b := nat_nodup_len (List.range hs.size) ((liveOf M owner).map (·.2)) List.nodup_range fun k hk => by
      obtain ⟨j, b1, b2⟩ := W.all k (List.mem_range.mp hk)
      exact List.mem_map.mpr ⟨(j, k), (mem_live W.sz).2 ⟨b1, b2⟩, rfl⟩
    rw [List.length_map, p1] at a
    rw [List.length_map, List.length_range] at b
    have : hs.toList.length = hs.size := rfl
    omega
  refine ⟨_, _, hr, perm_range hs.size _ (by show ((liveOf M owner).map (·.2)).length = _; rw [List.length_map, hlen]) fun k hk => ?_, ⟨r1, rfl, ?_, hM, fun x hx => ?_, fun i h j h1 h2 => ?_⟩, rfl, rfl⟩
  · obtain ⟨j, b1, b2⟩ := W.all k hk
    exact List.mem_map.mpr ⟨(j, k), (mem_live W.sz).2 ⟨b1, b2⟩, rfl⟩
  · show ((liveOf M owner).map (·.1)).toArray.size = (((liveOf M owner).map (·.2)).map fun i => hs.getD i 0).length
    rw [List.size_toArray, List.length_map, List.length_map, List.length_map]
  · obtain ⟨⟨y, k⟩, hq, rfl⟩ := List.mem_map.mp (show x ∈ (liveOf M owner).map (·.1) from hx)
    exact ((mem_live W.sz).1 hq).1
  · have h1' : (((liveOf M owner).map (·.2)).map fun i => hs.getD i 0)[i]? = some h := h1
    have h2' : ((liveOf M owner).map (·.1))[i]? = some j := h2
    rw [List.map_map, List.getElem?_map] at h1'
    rw [List.getElem?_map] at h2'
    obtain ⟨⟨y, k⟩, q1, q2⟩ := Option.map_eq_some_iff.mp h2'
    obtain rfl : y = j := q2
    rw [q1] at h1'
    have eh : hs.getD k 0 = h := Option.some.inj h1'
    obtain ⟨b1, b2⟩ := (mem_live W.sz).1 (List.mem_of_getElem? q1)
    obtain ⟨h0, c, a1, a2, a3⟩ := W.own y k b1 b2
    have e0 : hs.getD k 0 = h0 := by
      rw [Array.getD_eq_getD_getElem?, ← Array.getElem?_toList, a1]; rfl
    rw [← eh, e0]
    refine ⟨c, a2, fun c' hc' => ?_⟩
    show way M h0 c' ∈ (liveOf M owner).map (·.1)
    cases z : oAt owner (way M h0 c') with
    | none => exact absurd z (a3 c' hc')
    | some k2 => exact List.mem_map.mpr ⟨(way M h0 c', k2), (mem_live W.sz).2 ⟨way_in h0 c', z⟩, rfl⟩


/-! ### sets of tuples of texts: the search -/
section
open PySem.Spec PyProof.Rows
abbrev hT (P : Program) (w : World) (k : List Str) : Int := tupleKeyHash (strKind P w) k
abbrev IsS (P : Program) (w : World) (h : Heap) (k : List Str) (a : Addr) : Prop := IsTupleKey (strKind P w) h k a
theorem strs_of {P : Program} {w : World} {k : List Str} {vs : List Value} (h : ItemsAre (strKind P w) k vs) : ∀ v ∈ vs, ∃ x t, v = Value.str x t := by
  induction h with
  | nil => exact fun v hv => nomatch hv
  | cons h1 _ ih =>
    intro v hv
    rcases List.mem_cons.mp hv with rfl | hv
    · obtain ⟨t, e⟩ := Value.isStrOf_shape h1
      exact ⟨_, t, e⟩
    · exact ih v hv
theorem noclass_str (n : Nat) (x : Str) (t : Tok) : ofAClassStatement n (.str x t) = pure false := by cases n <;> rfl
variable {P : Program} {w : World} {A : Around} {E : Value → Shared → Prop} {s : Shared}
theorem noclass_tup {k : List Str} {b : Addr} {Q : Bool → Shared → Prop} (hk : IsS P w s.heap k b) (h : Q false s) : wpAny (model P w) A (ofAClassStatement 8 (.ref b)) Q E s := by
  have hT := hk.typeIs
  obtain ⟨o, items, n, ho, _, hd, hi⟩ := hk
  unfold ofAClassStatement
  refine wpAny_bind (wpAny_typeOf hT ?_)
  dsimp only
  simp only [show (("tuple" : String) == "tuple") = true by decide, if_true, Bool.not_true, Bool.false_eq_true, if_false]
  try refine wpAny_bind (wpAny_pure ?_)
  show wpAny _ _ (seqItems? (.ref b) >>= _) _ _ s
  refine wpAny_bind (wpAny_seqItems ho hd ?_)
  dsimp only
  refine wpAny_bind ?_
  show wpAny _ _ (forIn items _ _) _ _ s
  rw [← Array.forIn_toList]
  refine wpAny_forIn_list _ (fun rest r s' => r.1 = none ∧ s' = s ∧ ∀ v ∈ rest, ∃ x t, v = Value.str x t) _ ?_ ?_ _ _ ⟨rfl, rfl, strs_of hi⟩
  · rintro v rest r s' ⟨_, rfl, hall⟩
    obtain ⟨x, t, rfl⟩ := hall v List.mem_cons_self
    rw [noclass_str]
    refine wpAny_bind (wpAny_pure ?_)
    simp only [Bool.false_eq_true, if_false]
    exact wpAny_pure ⟨rfl, rfl, fun u hu => hall u (List.mem_cons_of_mem _ hu)⟩
  · rintro ⟨r1, r2⟩ s' ⟨hr, rfl, _⟩
    obtain rfl : r1 = none := hr
    exact wpAny_pure h
theorem quiet_seen {k : List Str} {b : Addr} {Q : Bool → Shared → Prop} (hk : IsS P w s.heap k b) {ys : List Value} (hy : ∀ y ∈ ys, ∃ k' c, y = Value.ref c ∧ IsS P w s.heap k' c) (h : Q false s) :
    wpAny (model P w) A (searchCouldBeSeen (.ref b) ys) Q E s := by
  unfold searchCouldBeSeen
  refine wpAny_bind ?_
  refine wpAny_forIn_list _ (fun rest r s' => r.1 = none ∧ s' = s ∧ ∀ y ∈ rest, ∃ k' c, y = Value.ref c ∧ IsS P w s.heap k' c) _ ?_ ?_ _ _ ⟨rfl, rfl, hy⟩
  · rintro v rest r s' ⟨_, rfl, hall⟩
    obtain ⟨k', c, rfl, hc⟩ := hall v List.mem_cons_self
    have more : ∀ y ∈ rest, ∃ k' c, y = Value.ref c ∧ IsS P w s'.heap k' c := fun u hu => hall u (List.mem_cons_of_mem _ hu)
    dsimp only
    by_cases hv : (b == c || (carriedByValue (.ref b) && carriedByValue (.ref c))) = true
    · exact wp_if_pos hv (wpAny_pure ⟨rfl, rfl, more⟩)
    · refine wp_if_neg hv ?_
      refine wpAny_bind (wpAny_eqIsQuiet_tuple hk ?_)
      simp only [Bool.not_true, Bool.false_eq_true, if_false]
      refine wpAny_bind (wpAny_eqIsQuiet_tuple hc ?_)
      simp only [Bool.not_true, Bool.false_eq_true, if_false]
      refine wpAny_bind (noclass_tup hk ?_)
      simp only [Bool.false_eq_true, if_false]
      refine wpAny_bind (noclass_tup hc ?_)
      simp only [Bool.false_eq_true, if_false]
      exact wpAny_pure ⟨rfl, rfl, more⟩
  · rintro ⟨r1, r2⟩ s' ⟨hr, rfl, _⟩
    obtain rfl : r1 = none := hr
    exact wpAny_pure h
theorem hashBy_str (n : Nat) (x : Str) (t : Tok) : ∃ b, hashByValue n (.str x t) = pure b := by cases n <;> exact ⟨_, rfl⟩
theorem hashBy_any {k : List Str} {b : Addr} {Q : Bool → Shared → Prop} (hk : IsS P w s.heap k b) (h : ∀ r, Q r s) : wpAny (model P w) A (hashByValue 8 (.ref b)) Q E s := by
  have hT := hk.typeIs
  obtain ⟨o, items, n, ho, _, hd, hi⟩ := hk
  unfold hashByValue
  refine wpAny_bind (wpAny_specialOf hT PySem.F.slot_tuple_hash.lookup ?_)
  show wpAny _ _ (seqItems? (.ref b) >>= _) _ _ s
  refine wpAny_bind (wpAny_seqItems ho hd ?_)
  refine wpAny_bind ?_
  show wpAny _ _ (forIn items _ _) _ _ s
  rw [← Array.forIn_toList]
  refine wpAny_forIn_list _ (fun rest r s' => s' = s ∧ ∀ v ∈ rest, ∃ x t, v = Value.str x t) _ ?_ ?_ _ _ ⟨rfl, strs_of hi⟩
  · rintro v rest r s' ⟨rfl, hall⟩
    obtain ⟨x, t, rfl⟩ := hall v List.mem_cons_self
    obtain ⟨c, e⟩ := hashBy_str 7 x t
    rw [e]
    refine wpAny_bind (wpAny_pure ?_)
    cases c
    · simp only [Bool.not_false, if_true]
      exact wpAny_pure (wpAny_pure (h _))
    · simp only [Bool.not_true, Bool.false_eq_true, if_false]
      exact wpAny_pure ⟨rfl, fun u hu => hall u (List.mem_cons_of_mem _ hu)⟩
  · rintro ⟨r1, r2⟩ s' ⟨rfl, _⟩
    cases r1
    · exact wpAny_pure (h _)
    · exact wpAny_pure (h _)
/-! the set -/
def rowS (P : Program) (w : World) (L : List (Addr × List Str)) : List (Int × Value) := L.map fun p => (hT P w p.2, Value.ref p.1)
theorem rowS_len (L : List (Addr × List Str)) : (rowS P w L).length = L.length := List.length_map _
structure SetP (P : Program) (w : World) (h : Heap) (a : Addr) (L : List (Addr × List Str)) (es : Array (Int × Value)) (ep : Nat) (t : SetTable) : Prop where
  at_ : ∃ o, h.get? a = some o ∧ o.ExactSet ∧ o.data = .set es ep t
  rows : es.toList = rowS P w L
  tbl : Tbl t (L.map fun p => hT P w p.2)
  nd : (L.map (·.2)).Nodup
  led : w.params.followText "set-order" = true ∨ t.led = true
  room : L.length * 5 < t.mask * 3
theorem SetP.size {h : Heap} {a : Addr} {L : List (Addr × List Str)} {es : Array (Int × Value)} {ep : Nat} {t : SetTable} (R : SetP P w h a L es ep t) : es.size = L.length := by
  rw [← Array.length_toList, R.rows, rowS_len]
theorem SetP.few {h : Heap} {a : Addr} {L : List (Addr × List Str)} {es : Array (Int × Value)} {ep : Nat} {t : SetTable} (R : SetP P w h a L es ep t) : L.length ≤ 306 := by
  have h1 := R.room
  have h2 := R.tbl.full.2.2.2
  omega
theorem SetP.fits {h : Heap} {a : Addr} {L : List (Addr × List Str)} {es : Array (Int × Value)} {ep : Nat} {t : SetTable} (R : SetP P w h a L es ep t) : t.fits es.size = true := by
  have h1 := R.tbl.sz
  rw [List.length_map] at h1
  have h2 := R.size
  have h3 := R.room
  unfold SetTable.fits SetTable.fill
  rw [R.tbl.dm, Bool.and_eq_true, beq_iff_eq, decide_eq_true_eq]
  show t.place.size = es.size ∧ t.place.size + 0 ≤ t.mask
  omega
theorem SetP.row {h : Heap} {a : Addr} {L : List (Addr × List Str)} {es : Array (Int × Value)} {ep : Nat} {t : SetTable} (R : SetP P w h a L es ep t) {i : Nat} {p : Addr × List Str} (e : L[i]? = some p) : es[i]? = some (hT P w p.2, Value.ref p.1) := by
  rw [← Array.getElem?_toList, R.rows]
  unfold rowS
  rw [List.getElem?_map, e]; rfl
theorem no_dummy (m : Nat) : ∀ (n : Nat) (p : SetTable.Probe), p.dummy = none → (nth m p n).dummy = none
  | 0, _, h => h
  | n + 1, p, h => no_dummy m n (adv m p) (by unfold adv; split <;> exact h)
variable {a : Addr} {L : List (Addr × List Str)} {es : Array (Int × Value)} {ep : Nat} {t : SetTable}
abbrev prb (t : SetTable) (h : Int) (c : Nat) : SetTable.Probe := nth t.mask (runAt t.mask (SetTable.bits h % (t.mask + 1)) (SetTable.bits h)) c
theorem prb_add (t : SetTable) (h : Int) (c q : Nat) : nth t.mask (prb t h c) q = prb t h (c + q) := (nth_add t.mask c _ q).symm
/-- from the c-th step of the way on -/
theorem look (R : SetP P w s.heap a L es ep t) (ht : ∀ p ∈ L, IsS P w s.heap p.2 p.1) {x : Addr} {k : List Str} (hx : IsS P w s.heap k x) (hu : A.units < cLine) {K : Nat} (N : Ends t (hT P w k) K) {Q : SetFound → Shared → Prop}
    (yes : k ∈ L.map (·.2) → Q (.there none) s) (no : k ∉ L.map (·.2) → Q (.free (way t.mask (hT P w k) K) false) s) :
    ∀ (f c : Nat) (st : Option SetTable.Probe), st.getD (t.probeStart (hT P w k)) = prb t (hT P w k) c → c ≤ K → K < f + c → (∀ (i : Nat) p, L[i]? = some p → p.2 = k → ∃ c', c ≤ c' ∧ c' < K ∧ t.place.toList[i]? = some (way t.mask (hT P w k) c')) →
      wpAny (model P w) A (setSearchFrom a (.ref x) (hT P w k) true f st) Q E s
  | 0, c, _, _, h1, h2, _ => by omega
  | f + 1, c, st, hst, hc, hf, hk => by
    obtain ⟨o, ho, hex, hd⟩ := R.at_
    have hgw : ¬ t.gaveWay = true := by
      unfold SetTable.gaveWay
      rw [R.tbl.full.2.2.1]
      decide
    have hrow : ∀ (i : Nat) p, L[i]? = some p → (es[i]?.map (·.1)).getD 0 = hT P w p.2 := fun i p e => by rw [R.row e]; rfl
    rw [setSearchFrom_succ]
    refine wpAny_bind (wpAny_setState_of ho hd R.fits ?_)
    dsimp only
    refine wp_if_neg hgw ?_
    try refine wpAny_bind (wpAny_pure ?_)
    have hKf := N.lt
    have sp := go_spec t R.tbl.ris R.tbl.dm (fun i => (es[i]?.map (·.1)).getD 0) (hT P w k) (10 * SetTable.turns t.mask) (K - c) (prb t (hT P w k) c) (no_dummy _ _ _ rfl) (by omega)
      (fun q hq => by rw [prb_add]; exact N.inn (c + q) (by omega)) (by rw [prb_add, show c + (K - c) = K by omega]; exact N.out)
    rcases sp with ⟨q, i, hq, hi, hh, hno, hp⟩ | ⟨hno, hp⟩
    · rw [prb_add] at hi hp
      have hp2 : t.probe (fun i => (es[i]?.map (·.1)).getD 0) (hT P w k) (st.getD (t.probeStart (hT P w k))) = some (.candidate (way t.mask (hT P w k) (c + q)) i (prb t (hT P w k) (c + (q + 1)))) := by
        rw [hst, ← prb_add]
        exact hp
      rw [hp2]
      dsimp only
      have hil : i < L.length := by
        have h1 := (List.getElem?_eq_some_iff.mp hi).1
        rw [Array.length_toList, R.tbl.sz, List.length_map] at h1
        exact h1
      obtain ⟨p, hpi⟩ : ∃ p, L[i]? = some p := ⟨_, List.getElem?_eq_getElem hil⟩
      have hpm := List.mem_of_getElem? hpi
      have go : wpAny (model P w) A (searchRest a (.ref x) (hT P w k) true f es t (way t.mask (hT P w k) (c + q)) i (prb t (hT P w k) (c + (q + 1)))) Q E s := by
        unfold searchRest
        rw [R.row hpi]
        dsimp only
        refine wpAny_bind (wpAny_holding (wpAny_eqBool_tuple hu (ht p hpm) hx ?_))
        refine wpAny_bind (wpAny_setState_of ho hd R.fits ?_)
        dsimp only
        by_cases e : p.2 = k
        · refine wp_if_pos (by rw [decide_eq_true e]; rfl) ?_
          exact wpAny_pure (yes (List.mem_map.mpr ⟨p, hpm, e⟩))
        · refine wp_if_neg (by rw [decide_eq_false e]; exact Bool.false_ne_true) ?_
          try refine wpAny_bind (wpAny_pure ?_)
          rw [sameMem]
          dsimp only
          have hsl : t.slot (way t.mask (hT P w k) (c + q)) = .live i := slot_live R.tbl.ris hi
          simp only [if_true, hsl, R.row hpi]
          refine wpAny_bind (wpAny_isSame_ref_self (wpAny_bind (wpAny_pure ?_)))
          simp only [if_true]
          refine wp_if_neg (by rw [decide_eq_false e]; exact Bool.false_ne_true) ?_
          refine look R ht hx hu N yes no f (c + (q + 1)) _ rfl (by omega) (by omega) fun i0 p0 e0 k0 => ?_
          obtain ⟨c', a1, a2, a3⟩ := hk i0 p0 e0 k0
          refine ⟨c', Nat.le_of_not_lt fun z => ?_, a2, a3⟩
          rcases Nat.eq_or_lt_of_le (show c' ≤ c + q from Nat.le_of_lt_succ z) with z | z
          · rw [z] at a3
            have s0 := (slot_live R.tbl.ris a3).symm.trans hsl
            injection s0 with s0
            rw [s0, hpi] at e0
            exact e ((congrArg Prod.snd (Option.some.inj e0)).trans k0)
          · refine hno (c' - c) i0 (by omega) (by rw [prb_add, show c + (c' - c) = c' by omega]; exact a3) ?_
            rw [hrow i0 p0 e0, k0]
      by_cases hl : t.led = true
      · refine wp_if_neg (by rw [hl]; exact Bool.false_ne_true) ?_
        try refine wpAny_bind (wpAny_pure ?_)
        exact go
      · refine wp_if_pos (by rw [Bool.eq_false_iff.mpr hl]; rfl) ?_
        refine wpAny_bind (quiet_seen hx (fun y hy => ?_) ?_)
        · obtain ⟨e, he, ee⟩ := List.mem_map.mp hy
          have he1 : e ∈ es.toList := by
            have : e ∈ es ∧ e.1 = hT P w k := by simpa using he
            simpa using this.1
          rw [R.rows] at he1
          obtain ⟨p2, hp2, e2⟩ := List.mem_map.mp he1
          exact ⟨p2.2, p2.1, by rw [← ee, ← e2], ht p2 hp2⟩
        · refine wp_if_neg Bool.false_ne_true ?_
          try refine wpAny_bind (wpAny_pure ?_)
          exact go
    · rw [prb_add, show c + (K - c) = K by omega] at hp
      have hp2 : t.probe (fun i => (es[i]?.map (·.1)).getD 0) (hT P w k) (st.getD (t.probeStart (hT P w k))) = some (.empty (way t.mask (hT P w k) K) none) := by
        rw [hst]
        exact hp
      rw [hp2]
      dsimp only
      refine wpAny_pure (no fun hm => ?_)
      obtain ⟨p0, h0, k0⟩ := List.mem_map.mp hm
      obtain ⟨i0, h1⟩ := List.mem_iff_getElem?.mp h0
      obtain ⟨c', a1, a2, a3⟩ := hk i0 p0 h1 k0
      refine hno (c' - c) i0 (by omega) (by rw [prb_add, show c + (c' - c) = c' by omega]; exact a3) ?_
      rw [hrow i0 p0 h1, k0]
/-- the search, as adding asks for it -/
theorem look_at (R : SetP P w s.heap a L es ep t) (ht : ∀ p ∈ L, IsS P w s.heap p.2 p.1) {x : Addr} {k : List Str} (hx : IsS P w s.heap k x) (hu : A.units < cLine) {Q : SetFound → Shared → Prop}
    (yes : k ∈ L.map (·.2) → Q (.there none) s) (no : ∀ K, Ends t (hT P w k) K → k ∉ L.map (·.2) → Q (.free (way t.mask (hT P w k) K) false) s) : wpAny (model P w) A (setSearch a (.ref x) (hT P w k) true) Q E s := by
  have h1 := R.room
  obtain ⟨K, N⟩ := R.tbl.ends (by rw [List.length_map]; omega) (hT P w k)
  have h2 := N.lt
  have h3 := R.tbl.full.2.2.2
  unfold SetTable.turns at h2
  unfold setSearch
  refine look R ht hx hu N yes (no K N) 100000 0 none rfl (Nat.zero_le _) (by omega) fun i p hp hk => ?_
  have hil : i < t.place.toList.length := by
    rw [Array.length_toList, R.tbl.sz, List.length_map]
    exact (List.getElem?_eq_some_iff.mp hp).1
  obtain ⟨c, hc, e⟩ := N.before R.tbl (i := i) (by rw [List.getElem?_map, hp, ← hk]; rfl) (List.getElem?_eq_getElem hil)
  exact ⟨c, Nat.zero_le _, hc, by rw [List.getElem?_eq_getElem hil, e]⟩
end


/-! ### sets of tuples of texts: adding -/
section
open PySem.Spec PyProof.Rows
variable {P : Program} {w : World} {A : Around} {E : Value → Shared → Prop} {s : Shared}
theorem isS_but {h h' : Heap} {k : List Str} {a b : Addr} {o : Obj} {es : Array (Int × Value)} {ep : Nat} {t : SetTable} (hb : IsS P w h k b) (ho : h.get? a = some o) (hd : o.data = .set es ep t) (hs : Heap.SameBut a h h') : IsS P w h' k b := by
  obtain ⟨o', items, n, h1, h2, h3, h4⟩ := hb
  refine ⟨o', items, n, (hs.2 b fun e => ?_).trans h1, h2, h3, h4⟩
  rw [e, ho] at h1
  rw [← Option.some.inj h1, hd] at h3
  cases h3
theorem isS_up {h h' : Heap} {k : List Str} {b : Addr} (x : IsS P w h k b) (hk : ∀ c o, h.get? c = some o → h'.get? c = some o) : IsS P w h' k b := by
  obtain ⟨o, items, n, ho, r⟩ := x
  exact ⟨o, items, n, hk b o ho, r⟩
theorem sel_map {α β : Type} (L : List α) (f : α → β) : ∀ l : List Nat, l.filterMap (fun i => (L.map f)[i]?) = (l.filterMap fun i => L[i]?).map f
  | [] => rfl
  | i :: l => by
    rw [List.filterMap_cons, List.filterMap_cons, List.getElem?_map, sel_map L f l]
    cases L[i]? <;> rfl
theorem sel_get {L : List (Addr × List Str)} {es : Array (Int × Value)} (hr : es.toList = rowS P w L) : ∀ l : List Nat, (∀ i ∈ l, i < L.length) → (l.filterMap fun i => L[i]?).map (fun p => hT P w p.2) = l.map fun i => (es.map (·.1)).getD i 0
  | [], _ => rfl
  | i :: l, h => by
    have hi := h i List.mem_cons_self
    rw [List.filterMap_cons, List.getElem?_eq_getElem hi, List.map_cons]
    show hT P w L[i].2 :: _ = _
    rw [sel_get hr l fun j hj => h j (List.mem_cons_of_mem _ hj)]
    congr 1
    have e : (es.map (·.1))[i]? = some (hT P w L[i].2) := by
      rw [Array.getElem?_map, ← Array.getElem?_toList, hr]
      unfold rowS
      rw [List.getElem?_map, List.getElem?_eq_getElem hi]; rfl
    show _ = (es.map (·.1)).getD i 0
    rw [Array.getD_eq_getD_getElem?, e]; rfl
theorem sel_all {α : Type} (l : List α) : (List.range l.length).filterMap (fun i => l[i]?) = l := by
  have key : ∀ n, n ≤ l.length → (List.range n).filterMap (fun i => l[i]?) = l.take n := by
    intro n
    induction n with
    | zero => intro _; rfl
    | succ n ih =>
      intro hn
      rw [List.range_succ, List.filterMap_append, ih (by omega), List.take_add_one, List.getElem?_eq_getElem (show n < l.length by omega), List.filterMap_cons_some (List.getElem?_eq_getElem (show n < l.length by omega))]
      rfl
  rw [key _ (Nat.le_refl _), List.take_length]
theorem turn_rows {L : List (Addr × List Str)} {es : Array (Int × Value)} {order : Array Nat} (hr : es.toList = rowS P w L) (hp : order.toList.Perm (List.range L.length)) :
    ∃ L2, (order.filterMap (es[·]?)).toList = rowS P w L2 ∧ L2.Perm L ∧ (L2.map fun p => hT P w p.2) = order.toList.map fun i => (es.map (·.1)).getD i 0 := by
  refine ⟨order.toList.filterMap fun i => L[i]?, ?_, ?_, sel_get hr _ fun i hi => List.mem_range.mp (hp.mem_iff.mp hi)⟩
  · have e : (order.filterMap (es[·]?)).toList = order.toList.filterMap fun i => es.toList[i]? := by
      rw [Array.toList_filterMap]
      congr 1
      funext i
      exact Array.getElem?_toList.symm
    rw [e, hr]
    exact sel_map L _ _
  · have h1 := hp.filterMap fun i => L[i]?
    rw [sel_all] at h1
    exact h1
theorem mid_perm {α : Type} (L : List α) (p : Nat) (x : α) : (L.take p ++ x :: L.drop p).Perm (x :: L) := by
  have h : (L.take p ++ x :: L.drop p).Perm (x :: (L.take p ++ L.drop p)) := List.perm_middle
  rw [List.take_append_drop] at h
  exact h
theorem size_308 : SetTable.sizeAbove (SetTable.grown 77) = 512 := by decide +kernel
variable {a : Addr} {L : List (Addr × List Str)} {es : Array (Int × Value)} {ep : Nat} {t : SetTable}
/-- a set that is to be laid anew: too full, but whole -/
theorem relay_p {o : Obj} (ho : s.heap.get? a = some o) (hex : o.ExactSet) (hd : o.data = .set es ep t) (hr : es.toList = rowS P w L) (T : Tbl t (L.map fun p => hT P w p.2)) (hfl : L.length ≤ t.mask)
    (nd : (L.map (·.2)).Nodup) (ld : w.params.followText "set-order" = true ∨ t.led = true) {wanted M : Nat} (hw : SetTable.sizeAbove wanted - 1 = M) (hz : SetTable.sizeAbove wanted ≤ 512) (hM : Full M) (hn : L.length * 5 < M * 3) {Q : Unit → Shared → Prop}
    (hQ : ∀ h' L' es' ep' t', Heap.SameBut a s.heap h' → SetP P w h' a L' es' ep' t' → L'.Perm L → Q () { s with heap := h' }) : wpAny (model P w) A (setRelay a wanted) Q E s := by
  have hsl : es.size = L.length := by rw [← Array.length_toList, hr, rowS_len]
  have hsz := T.sz
  rw [List.length_map] at hsz
  have hfits : t.fits es.size = true := by
    unfold SetTable.fits SetTable.fill
    rw [T.dm, Bool.and_eq_true, beq_iff_eq, decide_eq_true_eq]
    show t.place.size = es.size ∧ t.place.size + 0 ≤ t.mask
    omega
  have hbig := hM.2.2.2
  obtain ⟨t', order, e, hp, T', em, el⟩ := relaid_full t (hs := es.map (·.1)) (wanted := wanted) hw hM (by rw [Array.size_map, hsl]; omega)
  rw [Array.size_map, hsl] at hp
  obtain ⟨L2, r1, r2, r3⟩ := turn_rows hr hp
  rw [← r3] at T'
  have hs2 : (order.filterMap (es[·]?)).size = es.size := by rw [← Array.length_toList, r1, rowS_len, r2.length_eq, hsl]
  rw [setRelay_eq]
  refine wpAny_bind (wpAny_setState_of ho hd hfits ?_)
  dsimp only
  refine wp_if_neg (by rw [sizeLine_eq]; omega) ?_
  try refine wpAny_bind (wpAny_pure ?_)
  rw [e]
  dsimp only
  refine wpAny_bind ?_
  refine wp_if_neg (by rw [hs2]; simp) ?_
  try refine wpAny_bind (wpAny_pure ?_)
  refine wpAny_pure ?_
  dsimp only
  refine wpAny_storeSet_of ho hd ?_ (by rw [hs2, hsl, sizeLine_eq]; omega)
  exact hQ _ L2 _ (ep + 1) t' (Heap.SameBut.update ..) ⟨⟨_, store_at ho hd, ⟨hex.1, hex.2.1, hex.2.2⟩, rfl⟩, r1, T', (r2.map (·.2)).nodup_iff.mpr nd, by rw [el]; exact ld, by rw [r2.length_eq, em]; exact hn⟩ r2
theorem plain_tbl {t : SetTable} {hs : List Int} {b : Bool} (T : Tbl t hs) : Tbl { t with plain := b } hs := ⟨T.ris, T.dm, T.sz, T.full, T.bd, T.fnd⟩
/-- adding -/
theorem add_p (R : SetP P w s.heap a L es ep t) (ht : ∀ p ∈ L, IsS P w s.heap p.2 p.1) {x : Addr} {k : List Str} (hx : IsS P w s.heap k x) (hu : A.units < cLine) (hfew : L.length + 1 ≤ 300) {Q : Bool → Shared → Prop}
    (hQ : ∀ b h' L' es' ep' t', Heap.SameBut a s.heap h' → SetP P w h' a L' es' ep' t' → (k ∈ L.map (·.2) → L' = L) → (k ∉ L.map (·.2) → L'.Perm ((x, k) :: L)) → Q b { s with heap := h' }) :
    wpAny (model P w) A (setAddHashed a (.ref x) (hT P w k)) Q E s := by
  obtain ⟨o, ho, hex, hd⟩ := R.at_
  have hsl := R.size
  have hroom := R.room
  unfold setAddHashed
  refine wpAny_holding ?_
  rw [show (100000 : Nat) = 99999 + 1 from rfl, setAddHashedIn_succ]
  refine wpAny_bind (wpAny_setState_of ho hd R.fits ?_)
  dsimp only
  refine wp_if_neg (by simp [byScan, Value.scannable]) ?_
  try refine wpAny_bind (wpAny_pure ?_)
  refine wpAny_bind (look_at R ht hx hu (fun hm => ?_) fun K N hm => ?_)
  · dsimp only
    exact wpAny_pure (hQ false s.heap L es ep t (Heap.SameBut.refl a s.heap) R (fun _ => rfl) fun z => absurd hm z)
  dsimp only
  refine wpAny_bind (wpAny_setState_of ho hd R.fits ?_)
  dsimp only
  obtain ⟨q2, q3, q9⟩ := R.tbl.put N
  have hin : (SetTable.insertAt es (SetTable.below t.place (way t.mask (hT P w k) K)) (hT P w k, Value.ref x)).toList = rowS P w (L.take (SetTable.below t.place (way t.mask (hT P w k) K)) ++ (x, k) :: L.drop (SetTable.below t.place (way t.mask (hT P w k) K))) := by
    rw [SetTable.toList_insertAt, R.rows]
    unfold rowS
    rw [List.map_append, List.map_cons, List.map_take, List.map_drop]
  have q5 : (t.put (way t.mask (hT P w k) K)).1.led = t.led := rfl
  have q4 : (t.put (way t.mask (hT P w k) K)).1.mask = t.mask := rfl
  have q1 : (t.put (way t.mask (hT P w k) K)).2 = SetTable.below t.place (way t.mask (hT P w k) K) := rfl
  rw [← q1] at q3 hin
  have hqp := q2
  rw [← q1] at hqp
  generalize t.put (way t.mask (hT P w k) K) = pt at q1 q3 q4 q5 q9 hin hqp ⊢
  obtain ⟨t1, p⟩ := pt
  dsimp only at q3 q4 q5 q9 hin hqp ⊢
  have pm := mid_perm L p (x, k)
  have hlen : (L.take p ++ (x, k) :: L.drop p).length = L.length + 1 := pm.length_eq
  have hhs : (L.take p ++ (x, k) :: L.drop p).map (fun p => hT P w p.2) = (L.map fun p => hT P w p.2).take p ++ hT P w k :: (L.map fun p => hT P w p.2).drop p := by
    rw [List.map_append, List.map_cons, List.map_take, List.map_drop]
  rw [← hhs] at q3
  have nd1 : ((L.take p ++ (x, k) :: L.drop p).map (·.2)).Nodup := (pm.map (·.2)).nodup_iff.mpr (by rw [List.map_cons]; exact List.nodup_cons.mpr ⟨hm, R.nd⟩)
  have hes : (SetTable.insertAt es p (hT P w k, Value.ref x)).size = L.length + 1 := by rw [← Array.length_toList, hin, rowS_len, hlen]
  generalize SetTable.insertAt es p (hT P w k, Value.ref x) = es1 at hin hes ⊢
  generalize L.take p ++ (x, k) :: L.drop p = L1 at pm hlen q3 nd1 hin
  -- the table's mark «plain» may go
  have tail : ∀ t2 : SetTable, Tbl t2 (L1.map fun p => hT P w p.2) → t2.led = t.led → t2.mask = t.mask → t2.fill = L.length + 1 → wpAny (model P w) A (do
      storeSet a es1 t2
      if (!false && t2.tooFull) = true then setRelay a (SetTable.grown (es.size + 1))
      pure true) Q E s := fun t2 T2 l2 m2 f2 => by
    have ld1 : w.params.followText "set-order" = true ∨ t2.led = true := by rw [l2]; exact R.led
    refine wpAny_bind (wpAny_storeSet_of ho hd ?_ (by rw [hes, sizeLine_eq]; omega))
    have sb : Heap.SameBut a s.heap (s.heap.update a (Obj.putSet es1 t2)) := Heap.SameBut.update ..
    have ho1 := store_at (es' := es1) (t' := t2) ho hd
    generalize s.heap.update a (Obj.putSet es1 t2) = h1 at sb ho1 ⊢
    have m4 := T2.full.2.2.2
    by_cases hf : t2.tooFull = true
    · have hfull : (L.length + 1) * 5 ≥ t2.mask * 3 := by
        have h := hf
        unfold SetTable.tooFull at h
        rw [decide_eq_true_eq, f2] at h
        exact h
      have c3 : (t.mask = 7 ∧ L.length = 4) ∨ (t.mask = 31 ∧ L.length = 18) ∨ (t.mask = 127 ∧ L.length = 76) := by omega
      have go : ∀ M, SetTable.sizeAbove (SetTable.grown (L.length + 1)) - 1 = M → SetTable.sizeAbove (SetTable.grown (L.length + 1)) ≤ 512 → Full M → (L.length + 1) * 5 < M * 3 →
          wpAny (model P w) A (setRelay a (SetTable.grown (L.length + 1))) (fun _ s' => wpAny (model P w) A (pure true) Q E s') E { s with heap := h1 } := fun M z1 z2 z3 z4 =>
        relay_p (s := { s with heap := h1 }) ho1 ⟨hex.1, hex.2.1, hex.2.2⟩ rfl hin T2 (by rw [hlen]; omega) nd1 ld1 z1 z2 z3 (by rw [hlen]; exact z4) fun h2 L2 es2 ep2 t2 sb2 R2 pm2 =>
          wpAny_pure (hQ true h2 L2 es2 ep2 t2 (sb.trans sb2) R2 (fun z => absurd z hm) fun _ => pm2.trans pm)
      first
        | (refine wpAny_bind ?_; refine wp_if_pos (by simp [hf]) ?_)
        | (refine wp_if_pos (by simp [hf]) ?_; refine wpAny_bind ?_)
      rw [hsl]
      rcases c3 with ⟨_, e2⟩ | ⟨_, e2⟩ | ⟨_, e2⟩
      · exact go 31 (by rw [e2, size_20]) (by rw [e2, size_20]; decide) full31 (by omega)
      · exact go 127 (by rw [e2, size_76]) (by rw [e2, size_76]; decide) full127 (by omega)
      · exact go 511 (by rw [e2, size_308]) (by rw [e2, size_308]; decide) full511 (by omega)
    · first
        | refine wp_if_neg (by simp [hf]) ?_
        | (refine wpAny_bind ?_; refine wp_if_neg (by simp [hf]) ?_; refine wpAny_pure ?_)
      refine wpAny_pure (hQ true h1 L1 es1 (ep + 1) t2 sb ⟨⟨_, ho1, ⟨hex.1, hex.2.1, hex.2.2⟩, rfl⟩, hin, T2, nd1, ld1, ?_⟩ (fun z => absurd z hm) fun _ => pm)
      have h := hf
      unfold SetTable.tooFull at h
      rw [decide_eq_true_eq, f2] at h
      rw [hlen]
      omega
  have f1 : t1.fill = L.length + 1 := by rw [q9, List.length_map]
  have both : ∀ b : Bool, wpAny (model P w) A (do
      storeSet a es1 (if b = true then t1 else { t1 with plain := false })
      if (!false && (if b = true then t1 else { t1 with plain := false }).tooFull) = true then setRelay a (SetTable.grown (es.size + 1))
      pure true) Q E s := fun b => by
    cases b
    · exact tail { t1 with plain := false } (plain_tbl q3) q5 q4 f1
    · exact tail t1 q3 q5 q4 f1
  by_cases hpl : t1.plain = true
  · first
      | (refine wpAny_bind ?_; refine wp_if_pos hpl ?_; refine hashBy_any hx fun r => ?_)
      | refine wp_if_pos hpl (wpAny_bind (hashBy_any hx fun r => ?_))
    exact both r
  · first
      | (refine wpAny_bind ?_; refine wp_if_neg hpl ?_; refine wpAny_pure ?_)
      | refine wp_if_neg hpl (wpAny_bind (wpAny_pure ?_))
    exact both true
end


/-! ### the set that a comprehension with two clauses makes of tuples of texts -/
section
open PySem.Spec PyProof.Rows PpSet
def SetPO (P : Program) (w : World) (a : Addr) (L : List (Addr × List Str)) : HO := .ext fun h => ∃ es ep t, SetP P w h a L es ep t
theorem SetP.up {P : Program} {w : World} {h h' : Heap} {a : Addr} {L : List (Addr × List Str)} {es : Array (Int × Value)} {ep : Nat} {t : SetTable} (R : SetP P w h a L es ep t) (k : ∀ o, h.get? a = some o → h'.get? a = some o) : SetP P w h' a L es ep t := by
  obtain ⟨o, ho, r⟩ := R.at_
  exact ⟨⟨o, k o ho, r⟩, R.rows, R.tbl, R.nd, R.led, R.room⟩
theorem setPO_new {P : Program} {w : World} {H : Hp} {h : Heap} {a : Addr} {L : List (Addr × List Str)} {es : Array (Int × Value)} {ep : Nat} {t : SetTable} (R : SetP P w h a L es ep t) : ObjOk P w H h a (SetPO P w a L) := by
  obtain ⟨o, ho, _⟩ := R.at_
  exact ⟨⟨es, ep, t, R⟩, ⟨o, ho⟩, fun h1 h2 ⟨es, ep, t, p⟩ k => ⟨es, ep, t, p.up (k)⟩⟩
theorem setP_fresh {P : Program} {w : World} {h : Heap} {a : Addr} (ho : h.get? a = some { cls := .type "set", dict := none, data := .set #[] 0 (.fresh 0 0 (!w.params.followText "set-order")) }) : SetP P w h a [] #[] 0 (.fresh 0 0 (!w.params.followText "set-order")) where
  at_ := ⟨_, ho, ⟨rfl, rfl, rfl⟩, rfl⟩
  rows := rfl
  tbl := ⟨List.Pairwise.nil, rfl, rfl, full7, fun x hx => (by cases hx), fun i h j hi => (by simp at hi)⟩
  nd := List.nodup_nil
  led := by
    show _ ∨ (!w.params.followText "set-order") = true
    cases w.params.followText "set-order"
    · exact .inr rfl
    · exact .inl rfl
  room := by
    show 0 * 5 < 7 * 3
    decide
theorem strs_are {P : Program} {w : World} : ∀ {k : List Str} {us : List Value}, Vals (k.map V.str) us → ItemsAre (strKind P w) k us
  | [], _, .nil => .nil
  | x :: k, _, .cons r t => by
    obtain ⟨tk, rfl⟩ := r
    refine .cons ?_ (strs_are t)
    show Value.isStrOf x (.str x tk) = true
    simp [Value.isStrOf]
/-- the tuple p has the texts k -/
abbrev TS2 (K : PySem.W.Frag) (H : Hp) (q : Addr × List Str) : Prop := SqT K H q.1 (q.2.map V.str)
variable {X : Cx}
theorem inv_isS {pins : List (Addr × Obj)} {σ : L2.St} {H : Hp} {s : Shared} {b : Addr} {k : List Str} (I : Inv X pins σ H s) (h : SqT X.K H b (k.map V.str)) : IsS X.prog X.w s.heap k b := by
  obtain ⟨its, r, ⟨o, ho, hc, n, hd⟩, _⟩ := I.tuple h
  exact ⟨o, its.toArray, n, ho, hc, hd, by simpa using strs_are r⟩
theorem addP_ok {pins : List (Addr × Obj)} {σ : L2.St} {H : Hp} {s : Shared} {E : Value → Shared → Prop} {D x : Addr} {k : List Str} {L : List (Addr × List Str)} {Q : Value → Shared → Prop} (hu : X.A.units + 64 < cLine) (I : Inv X pins σ H s) (hD : H D = some (SetPO X.prog X.w D L)) (hx : SqT X.K H x (k.map V.str)) (hL : ∀ q ∈ L, TS2 X.K H q) (hf : L.length + 1 ≤ 300)
    (h : ∀ L' s', Inv X pins σ (upd H D (SetPO X.prog X.w D L')) s' → (k ∈ L.map (·.2) → L' = L) → (k ∉ L.map (·.2) → L'.Perm ((x, k) :: L)) → Q .none s') : wpAny (model X.prog X.w) X.A (call (.builtin "set.add") [.ref D, .ref x]) Q E s := by
  obtain ⟨es, ep, t, R⟩ : ∃ es ep t, SetP X.prog X.w s.heap D L es ep t := (I.hok D _ hD).1
  obtain ⟨o, ho, hex, hd⟩ := R.at_
  have hT : s.TypeIs (.ref D) "set" := ⟨o, ho, hex.1⟩
  have hxs := inv_isS I hx
  have hLs : ∀ q ∈ L, IsS X.prog X.w s.heap q.2 q.1 := fun q hq => inv_isS I (hL q hq)
  refine wpAny_call_entry PySem.F.slot_set_add hT PySem.F.entry_set_add ?_ (PySem.F.args_set_add_2 _ _)
  unfold Builtin.«set.add» Builtin.Frozenset.oneOther
  simp only [List.isEmpty_nil, bind_assoc]
  unfold Builtin.Frozenset.addrOf setAdd
  refine wpAny_bind (wpAny_pure ?_)
  try dsimp only
  refine wpAny_bind (wpAny_pure ?_)
  try dsimp only
  refine wpAny_bind ?_
  refine wpAny_holding ?_
  refine wpAny_bind (wpAny_pyHash_tuple (by show X.A.units + _ < _; first | omega | (simp; omega)) hxs ?_)
  refine add_p (s := { s with toks := s.toks + (k.length + 1) }) R hLs hxs (by show X.A.units + _ < _; first | omega | (simp; omega)) hf fun b h' L' es' ep' t' sb R' c1 c2 => ?_
  show wpAny _ _ (ret Value.none) _ _ _
  obtain ⟨o', ho', _⟩ := R'.at_
  exact wpAny_pure ⟨_, rfl, h L' _ (I.write (e := D) (t' := s.toks + (k.length + 1)) (by rw [hD]; trivial) (.inl rfl) (fun b u hb hu => (sb.2 b hb).trans hu) ⟨o', ho'⟩ (setPO_new R')) c1 c2⟩
/-! the loops -/
section
variable {prog : Program} {w : World} {A : Around} {R : Result → Shared → Prop} {s : Shared} {elt t0 i0 t1 i1 : Expr} {scope : Scope} {pos : Pos} {it acc : Value} {env : Env}
abbrev sc2 (elt t0 i0 t1 i1 : Expr) (scope : Scope) (pos : Pos) : Expr := .SetComp elt [⟨t0, i0, [], 0⟩, ⟨t1, i1, [], 0⟩] scope pos
/-- what is asked of a turn of the outer loop, of nothing that raises -/
theorem outer_loop (hs : ∀ x, foldedSetIterable i1 env x = pure x) (I : Nat → Shared → Prop)
    (turn : ∀ n s, I n s → wpAny (model prog w) A (pyNext it) (fun r s₁ => match r with
      | none => R (.ok .next) s₁
      | some v => wpAny (model prog w) A (letOwnedTupleGo t0 it v) (fun _ s₂ => wpAny (model prog w) A (assign t0 env v) (fun _ s₃ =>
          wpAny (model prog w) A (eval i1 env) (fun x s₄ => wpAny (model prog w) A (pyIter x) (fun it1 s₅ =>
            codeAny (model prog w) A (.compStart (sc2 elt t0 i0 t1 i1 scope pos) 1 it1 acc env) (fun r s' => match r with
              | .ok _ => ∃ m, m < n ∧ I m s'
              | .error _ => False) s₅) (fun _ _ => False) s₄) (fun _ _ => False) s₃) (fun _ _ => False) s₂) (fun _ _ => False) s₁) (fun _ _ => False) s)
    (n : Nat) (h : I n s) : codeAny (model prog w) A (.compLoop (sc2 elt t0 i0 t1 i1 scope pos) 0 it acc env) R s := by
  refine codeAny_loop rfl I (fun n s hI => ?_) n h
  show wpAny _ A ((compTurn (sc2 elt t0 i0 t1 i1 scope pos) 0 it acc env).onRaise (fun x => do noteFrame x env; theTreesLotGoes x)) _ _ s
  refine wpAny_noted ?_
  unfold compTurn
  dsimp only [List.getElem?_cons_zero, List.getElem?_cons_succ, List.getElem?_nil]
  simp only [bne_self_eq_false, Bool.false_eq_true, if_false]
  refine wpAny_bind (wpAny_standAt (wpAny_bind (wpAny_mono (turn n s hI) (fun r s₁ h₁ => ?_) fun _ _ z => z.elim)))
  cases r with
  | none => exact wpAny_pure h₁
  | some v =>
    refine wpAny_bind (wpAny_mono h₁ (fun _ s₂ h₂ => wpAny_bind (wpAny_mono h₂ (fun _ s₃ h₃ => ?_) fun _ _ z => z.elim)) fun _ _ z => z.elim)
    refine wpAny_bind (wpAny_tests_nil ?_)
    refine wpAny_bind (wpAny_mono h₃ (fun x s₄ h₄ => ?_) fun _ _ z => z.elim)
    refine wpAny_bind (wpAny_standAt (wpAny_bind (wpAny_of_eq (hs x) (wpAny_bind (wpAny_holding (wpAny_mono h₄ (fun it1 s₅ h₅ => ?_) fun _ _ z => z.elim))))))
    refine wpAny_bind (wpAny_runOwn ?_)
    rw [Around.mark_none]
    refine codeAny_mono h₅ fun r s' hr => ?_
    cases r with
    | error e => exact hr.elim
    | ok f =>
      first
        | exact wpAny_pure ⟨rfl, hr⟩
        | exact wpAny_bind (wpAny_pure (wpAny_pure ⟨rfl, hr⟩))
/-- .. and of the inner one's -/
theorem inner_loop (I : Nat → Shared → Prop)
    (turn : ∀ n s, I n s → wpAny (model prog w) A (pyNext it) (fun r s₁ => match r with
      | none => R (.ok .next) s₁
      | some v => wpAny (model prog w) A (letOwnedTupleGo t1 it v) (fun _ s₂ => wpAny (model prog w) A (assign t1 env v) (fun _ s₃ =>
          wpAny (model prog w) A (eval elt env) (fun x s₄ => wpAny (model prog w) A (call (.builtin "set.add") [acc, x]) (fun _ s₅ => ∃ m, m < n ∧ I m s₅) (fun _ _ => False) s₄) (fun _ _ => False) s₃) (fun _ _ => False) s₂) (fun _ _ => False) s₁) (fun _ _ => False) s)
    (n : Nat) (h : I n s) : codeAny (model prog w) A (.compLoop (sc2 elt t0 i0 t1 i1 scope pos) 1 it acc env) R s := by
  refine codeAny_loop rfl I (fun n s hI => ?_) n h
  show wpAny _ A ((compTurn (sc2 elt t0 i0 t1 i1 scope pos) 1 it acc env).onRaise (fun x => do noteFrame x env; theTreesLotGoes x)) _ _ s
  refine wpAny_noted ?_
  unfold compTurn
  dsimp only [List.getElem?_cons_zero, List.getElem?_cons_succ, List.getElem?_nil]
  simp only [bne_self_eq_false, Bool.false_eq_true, if_false]
  refine wpAny_bind (wpAny_standAt (wpAny_bind (wpAny_mono (turn n s hI) (fun r s₁ h₁ => ?_) fun _ _ z => z.elim)))
  cases r with
  | none => exact wpAny_pure h₁
  | some v =>
    refine wpAny_bind (wpAny_mono h₁ (fun _ s₂ h₂ => wpAny_bind (wpAny_mono h₂ (fun _ s₃ h₃ => ?_) fun _ _ z => z.elim)) fun _ _ z => z.elim)
    refine wpAny_bind (wpAny_tests_nil ?_)
    exact wpAny_bind (wpAny_bind (wpAny_mono h₃ (fun x s₄ h₄ => wpAny_bind (wpAny_standAt (wpAny_bind (wpAny_mono h₄ (fun _ s₅ h₅ => wpAny_pure (wpAny_pure ⟨rfl, h₅⟩)) fun _ _ z => z.elim)))) fun _ _ z => z.elim))
/-- a clause's start: the iterator is asked for itself once more, or not -/
theorem start_any {d : Nat} {g : Comprehension} (hg : (clausesOf (sc2 elt t0 i0 t1 i1 scope pos))[d]? = some g) (ha : g.is_async = 0) (h0 : codeAny (model prog w) A (.compLoop (sc2 elt t0 i0 t1 i1 scope pos) d it acc env) R s)
    (h : wpAny (model prog w) A (pyIter it) (fun it' s' => codeAny (model prog w) A (.compLoop (sc2 elt t0 i0 t1 i1 scope pos) d it' acc env) R s') (notedBy (model prog w) A env fun x s' => R (.error x) s') s) :
    codeAny (model prog w) A (.compStart (sc2 elt t0 i0 t1 i1 scope pos) d it acc env) R s := by
  refine codeAny_of_tree ?_
  show wpAny _ _ ((compStart (sc2 elt t0 i0 t1 i1 scope pos) d it acc env).onRaise (fun x => do noteFrame x env; standAt theWindowsPlace)) _ _ s
  refine wpAny_notedAt ?_
  unfold compStart
  rw [hg]
  refine wp_if_neg (by show ¬ (g.is_async != 0) = true; rw [ha]; decide) ?_
  show wpAny _ _ (ask >>= _) _ _ s
  refine wpAny_bind (wpAny_askSetting (wpAny_ite ?_))
  split
  · first
      | exact wpAny_bind (wpAny_pure (wpAny_pure (And.intro rfl h0)))
      | exact wpAny_pure (And.intro rfl h0)
  · first
      | exact wpAny_bind (wpAny_rule (wpAny_bind (wpAny_standAt (wpAny_bind (wpAny_mono h (fun it' s' h' => wpAny_pure (And.intro rfl h')) fun _ _ x => x)))))
      | (refine wpAny_bind (wpAny_rule ?_); show wpAny _ _ (standAt g.iter.pos >>= _) _ _ s; exact wpAny_bind (wpAny_standAt (wpAny_bind (wpAny_mono h (fun it' s' h' => wpAny_pure (And.intro rfl h')) fun _ _ x => x))))
end
end


section
open PySem.Spec PyProof.Rows PpSet
/-- the reading of {e for t0 in i0 for t1 in i1}: the walk of the outer source, in each turn that of the inner one, from which the outer's next is reached -/
def tSc2 (P : Program) (w : World) (K : PySem.W.Frag) (wi : TI) (g : TG) (wi1 : TI) (g1 : TG) (te : TE) (vs vs1 : List Nat) : TE := fun σ H Q => wi σ H fun J H1 => ∀ D, H1 D = none → ∃ W : Nat → Nat → Hp → Prop, (∃ m, W 0 m (upd H1 D (SetPO P w D []))) ∧ ∀ i m H, W i m H →
  (J.stop i H ∧ Q (.ref D) H) ∨ (J.go i H ∧ ∃ Nx : Hp → Prop, (∀ H', Nx H' → ∃ m', m' < m ∧ W (i + 1) m' H') ∧ ∀ x H', J.yld i H x H' → g x (wipe σ vs) H' fun σ2 H2 => wipe σ2 vs = wipe σ vs ∧
    wi1 σ2 H2 fun J1 H3 => ∃ W1 : Nat → Nat → Hp → Prop, (∃ m, W1 0 m H3) ∧ ∀ j k H, W1 j k H →
      (J1.stop j H ∧ Nx H) ∨ (J1.go j H ∧ ∃ Nx1 : Hp → Prop, (∀ H', Nx1 H' → ∃ k', k' < k ∧ W1 (j + 1) k' H') ∧ ∀ x H', J1.yld j H x H' → g1 x (wipe σ2 vs1) H' fun σ3 H5 => wipe σ3 vs1 = wipe σ2 vs1 ∧
        te σ3 H5 fun y H6 => ∃ (p : Addr) (k : List Str) (L : List (Addr × List Str)), y = .ref p ∧ H6 D = some (SetPO P w D L) ∧ SqT K H6 p (k.map V.str) ∧ (∀ q ∈ L, TS2 K H6 q) ∧ L.length + 1 ≤ 300 ∧
          ∀ L', (k ∈ L.map (·.2) → L' = L) → (k ∉ L.map (·.2) → L'.Perm ((p, k) :: L)) → Nx1 (upd H6 D (SetPO P w D L'))))
variable {X : Cx}
theorem pe_sc2 {elt t0 i0 t1 i1 : Expr} {scope : Scope} {own : List (Str × Nat)} {vs1 : List Nat} {pos : Pos} {wi wi1 : TI} {g g1 : TG} {te : TE} (hu : X.A.units + 64 < cLine) (hc : X.calm = true) (hN : X.N.Nodup) (hi : PI X t0 i0 wi) (ok : BlkOk X.N X.env.scope scope own) (hv : ∀ i ∈ vs1, i ∈ own.map (·.2))
    (hg : ∀ (s : Shared) (H : Hp) (C : Addr) (cl : List (Str × Addr)) (fp : List Addr), PG (X.blk s H scope (compEnvC scope cl C X.env) fp) t0 g)
    (hi1 : ∀ (s : Shared) (H : Hp) (C : Addr) (cl : List (Str × Addr)) (fp : List Addr), PI (X.blk s H scope (compEnvC scope cl C X.env) fp) t1 i1 wi1)
    (hg1 : ∀ (s : Shared) (H : Hp) (C : Addr) (cl : List (Str × Addr)) (fp : List Addr), PG (X.blk s H scope (compEnvC scope cl C X.env) fp) t1 g1)
    (he : ∀ (s : Shared) (H : Hp) (C : Addr) (cl : List (Str × Addr)) (fp : List Addr), PE (X.blk s H scope (compEnvC scope cl C X.env) fp) elt te)
    (hs : ∀ x, foldedSetIterable i0 X.env x = pure x := by intro _; rfl) (hs1 : ∀ env x, foldedSetIterable i1 env x = pure x := by intro _ _; rfl) :
    PE X (.SetComp elt [⟨t0, i0, [], 0⟩, ⟨t1, i1, [], 0⟩] scope pos) (tSc2 X.prog X.w X.K wi g wi1 g1 te (own.map (·.2)) vs1) := by
  refine ⟨fun pins s σ H Q I h => ?_⟩
  rw [eval_SetComp]
  have hfree : ∀ y ∈ scope.names, y.2 = .free → ∃ c, X.env.cells.lookup y.1 = some c := fun y hy e => (ok.free y hy e).elim (fun k => I.ok.has _ (.inl k)) fun k => I.ok.has _ (.inr k)
  refine wpAny_comprehension_free (use := none) rfl hs (closure_ok hfree) ok.kind (fun y hy e => by rw [ok.uniq y hy, e])
    (thn (hi.run pins s σ H _ I h) fun xv s1 hx => thn hx fun itv s2 h2 => ?_)
  obtain ⟨it, fp, tn, J, H2, rfl, I2, T, st2, f2, q⟩ := h2
  refine newSet_ok (newEnv_comp ?_)
  -- the new set
  obtain ⟨D, hD⟩ : ∃ D, s2.heap.objs.size = D := ⟨_, rfl⟩
  rw [hD]
  obtain ⟨W, ⟨m0, w0⟩, turn⟩ := q D (I2.hok.fresh (Nat.le_of_eq hD))
  obtain ⟨s3, hs3⟩ : ∃ s3 : Shared, ({ s2 with heap := s2.heap.push { cls := .type "set", dict := none, data := .set #[] 0 (.fresh 0 0 (!X.w.params.followText "set-order")) } } : Shared) = s3 := ⟨_, rfl⟩
  have e3 : s3.heap = s2.heap.push { cls := .type "set", dict := none, data := .set #[] 0 (.fresh 0 0 (!X.w.params.followText "set-order")) } := by rw [← hs3]
  have I3 : Inv X pins σ (upd H2 D (SetPO X.prog X.w D [])) s3 := by
    rw [← hs3]
    refine I2.laid (t' := s2.toks) (fun b o e => Heap.get?_push_of_some _ e) (Nat.le_of_eq hD) ?_
    exact setPO_new (setP_fresh (by rw [← hD]; exact Heap.get?_push_size _ rfl))
  obtain ⟨H3, hH3⟩ : ∃ H3, upd H2 D (SetPO X.prog X.w D []) = H3 := ⟨_, rfl⟩
  have f3 : ∀ b ∈ fp, FpOk X pins H3 b ∧ b < s3.heap.objs.size := fun b hb => by
    obtain ⟨o, e, _⟩ := T.obj _ _ st2 b hb
    have hlt := Heap.lt_size e
    refine ⟨⟨?_, (f2 b hb).2⟩, by rw [e3, Heap.size_push]; exact Nat.lt_succ_of_lt hlt⟩
    rw [← hH3, upd_ne (by rw [← hD]; exact Nat.ne_of_lt hlt)]
    exact (f2 b hb).1
  have st3 : tn 0 s3.heap := T.keep _ _ _ st2 fun b _ o e => by rw [e3]; exact Heap.get?_push_of_some _ e
  rw [hH3] at I3 w0
  have I4 := block_start I3 ok hN f3
  have pg := hg s3 H3 s3.heap.objs.size (cellsFrom (s3.heap.objs.size + 1) scope.names (cloFrom X.env.cells scope.names [])) fp
  have pe := he s3 H3 s3.heap.objs.size (cellsFrom (s3.heap.objs.size + 1) scope.names (cloFrom X.env.cells scope.names [])) fp
  have pi1 := hi1 s3 H3 s3.heap.objs.size (cellsFrom (s3.heap.objs.size + 1) scope.names (cloFrom X.env.cells scope.names [])) fp
  have pg1 := hg1 s3 H3 s3.heap.objs.size (cellsFrom (s3.heap.objs.size + 1) scope.names (cloFrom X.env.cells scope.names [])) fp
  rw [hs3]
  show codeAny _ _ (.compStart (sc2 elt t0 i0 t1 i1 scope pos) 0 (.ref it) (.ref D) (compEnvC scope (cellsFrom (s3.heap.objs.size + 1) scope.names (cloFrom X.env.cells scope.names [])) s3.heap.objs.size X.env)) (compPost (model X.prog X.w) X.A X.xe none (EP X pins σ Q) (.ref D) s3.heap.objs.size) { s3 with heap := pushCells (s3.heap.push { cls := .type "dict", data := .dict #[] }) scope.names }
  obtain ⟨ce, hce⟩ : ∃ ce, compEnvC scope (cellsFrom (s3.heap.objs.size + 1) scope.names (cloFrom X.env.cells scope.names [])) s3.heap.objs.size X.env = ce := ⟨_, rfl⟩
  have cL : ce.locals = s3.heap.objs.size := by rw [← hce]; rfl
  rw [hce] at I4 pg pe pi1 pg1 ⊢
  obtain ⟨s4, hs4⟩ : ∃ s4 : Shared, ({ s3 with heap := pushCells (s3.heap.push { cls := .type "dict", data := .dict #[] }) scope.names } : Shared) = s4 := ⟨_, rfl⟩
  rw [hs4] at I4 ⊢
  have st4 : tn 0 s4.heap := T.keep _ _ _ st3 fun b _ o e => by rw [← hs4]; exact pushCells_keeps _ _ _ _ (Heap.get?_push_of_some _ e)
  obtain ⟨B, hB⟩ : ∃ B : Cx, X.blk s3 H3 scope ce fp = B := ⟨_, rfl⟩
  have own0 : ∀ {σ' : L2.St} {H' : Hp} {s' : Shared}, Inv B [] σ' H' s' → (∀ b ∈ fp, H' b = none) → ∀ b ∈ fp, FpOk B [] H' b := by
    rw [← hB]
    exact fun I' hn b hb => ⟨hn b hb, (I'.ok.exf b hb).1, I'.ok.exfs b hb, .inl hb, fun x c e => (I'.ok.exf b hb).2 x c e, fun p hp => absurd (show p ∈ ([] : List (Addr × Obj)) ++ [] from hp) (by simp)⟩
  have uB : B.A.units + 64 < cLine := by rw [← hB]; exact hu
  -- what a turn leaves, seen from its start
  have back : ∀ {J' : It} {tg : Expr} {fp' : List Addr} {it' : Addr} {tn' : Nat → Heap → Prop} {pins' : List (Addr × Obj)} {i : Nat} {s7 s' : Shared} {σ0 σ9 : L2.St} {H' : Hp}, Turn X.prog X.w X.K tg J' fp' it' tn' → tn' i s7.heap → Inv B (pins' ++ pinsAt fp' s7.heap) σ9 H' s' →
      σ0.length = σ9.length → (∀ (j : Nat) v, σ0[j]? = some (some v) → σ9[j]? = some (some v)) → Inv B pins' σ0 H' s' ∧ tn' i s'.heap ∧ ∀ b ∈ fp', H' b = none := by
    intro J' tg fp' it' tn' pins' i s7 s' σ0 σ9 H' T' t7 I' hl hk
    have pin' : ∀ b ∈ fp', ∀ o, s7.heap.get? b = some o → s'.heap.get? b = some o ∧ H' b = none := fun b hb o e =>
      let z := I'.pin (b, o) (List.mem_append_right _ (List.mem_append_right _ (mem_pinsAt hb e)))
      ⟨z.1, z.2.1⟩
    refine ⟨I'.unpinned.weak hl hk, T'.keep _ _ _ t7 fun b hb o e => (pin' b hb o e).1, fun b hb => ?_⟩
    obtain ⟨o, e, _⟩ := T'.obj _ _ t7 b hb
    exact (pin' b hb o e).2
  have loop : codeAny (model X.prog X.w) X.A (.compLoop (sc2 elt t0 i0 t1 i1 scope pos) 0 (.ref it) (.ref D) ce) (compPost (model X.prog X.w) X.A X.xe none (EP X pins σ Q) (.ref D) s3.heap.objs.size) s4 := by
    refine outer_loop (hs1 ce) (fun n s' => ∃ i H', Inv B [] (wipe σ (own.map (·.2))) H' s' ∧ tn i s'.heap ∧ (∀ b ∈ fp, H' b = none) ∧ W i n H') ?_ m0 ⟨0, H3, by rw [← hB]; exact I4, st4, fun b hb => (f3 b hb).1.1, w0⟩
    rintro n s5 ⟨i, H5, I5, st5, n5, w5⟩
    subst hB
    rcases turn i n H5 w5 with ⟨stop, qq⟩ | ⟨go, Nx, hNx, step⟩
    · refine thnF (T.done (X.blk s3 H3 scope ce fp) rfl rfl rfl hc i [] s5 _ H5 (fun _ _ => False) I5 (own0 I5 n5) st5 stop) fun r s6 ⟨hr, I6⟩ => ?_
      subst hr
      have I7 : Inv X pins σ H5 s6 := I3.call' (ch := fp) I6.os I6.base I6.hok I6.bare fun b hb => ⟨(f3 b hb).1.2.2.2.1, (f3 b hb).1.2.1, (f3 b hb).1.2.2.2.2.1, (f3 b hb).1.2.2.2.2.2⟩
      obtain ⟨m, hn, _⟩ := I6.loc
      have hn : s6.heap.Ns ce.locals m := hn
      have nC : H5 ce.locals = none := I6.free
      rw [cL] at hn nC
      obtain ⟨c0, c1, _, c3, c4, c5⟩ := I3.fpOk (Nat.le_refl _) nC
      exact ⟨m, hn, fun h'' sb => ⟨.ref D, H5, I7.turned (t' := s6.toks) (fun b o hb e => (sb.2 b hb).trans e) c0 c1 c3 c4 c5, rfl, qq⟩⟩
    · refine thnF (T.item (X.blk s3 H3 scope ce fp) rfl rfl rfl hc i [] s5 _ H5 (fun _ _ => False) I5 (own0 I5 n5) st5 go) fun r s6 ⟨u, hr, h6⟩ => ?_
      subst hr
      refine thn h6 fun _ s7 ⟨x, H7, I7, r7, y7, st7, n7⟩ => ?_
      refine thn (pg.run _ s7 _ H7 x u _ (I7.pinned (own0 I7 n7) (T.obj _ _ st7)) r7 (step x H7 y7)) fun _ s8 ⟨σ8, H8, I8, hw8, q8⟩ => ?_
      refine thn (pi1.run _ s8 σ8 H8 _ I8 q8) fun xv s10 hx => thn hx fun itv s11 h11 => ?_
      obtain ⟨it1, fp1, tn1, J1, H11, rfl, I11, T1, st11, f11, W1, ⟨m1, w1⟩, turn1⟩ := h11
      have own1 : ∀ {H' : Hp}, (∀ b ∈ fp1, H' b = none) → ∀ b ∈ fp1, FpOk (X.blk s3 H3 scope ce fp) ([] ++ pinsAt fp s7.heap) H' b := fun hn b hb => ⟨hn b hb, (f11 b hb).2⟩
      have hl9 : (wipe σ (own.map (·.2))).length = (wipe σ8 vs1).length := by rw [← hw8, wipe_length, wipe_length]
      have hk9 : ∀ (j : Nat) v, (wipe σ (own.map (·.2)))[j]? = some (some v) → (wipe σ8 vs1)[j]? = some (some v) := fun j v e => by
        rw [← hw8] at e
        obtain ⟨e1, e2⟩ := wipe_some e
        rw [wipe_out fun z => e2 (hv j z)]
        exact e1
      have loop1 : codeAny (model X.prog X.w) X.A (.compLoop (sc2 elt t0 i0 t1 i1 scope pos) 1 (.ref it1) (.ref D) ce)
          (fun r s' => match r with
            | .ok _ => ∃ m, m < n ∧ ∃ i H', Inv (X.blk s3 H3 scope ce fp) [] (wipe σ (own.map (·.2))) H' s' ∧ tn i s'.heap ∧ (∀ b ∈ fp, H' b = none) ∧ W i m H'
            | .error _ => False) s11 := by
        refine inner_loop (fun k s' => ∃ j H', Inv (X.blk s3 H3 scope ce fp) ([] ++ pinsAt fp s7.heap) (wipe σ8 vs1) H' s' ∧ tn1 j s'.heap ∧ (∀ b ∈ fp1, H' b = none) ∧ W1 j k H') ?_ m1 ⟨0, H11, I11.weak (wipe_length _ _) (fun j v e => (wipe_some e).1), st11, fun b hb => (f11 b hb).1, w1⟩
        rintro k s12 ⟨j, H12, I12, st12, n12, w12⟩
        rcases turn1 j k H12 w12 with ⟨stop1, nx1⟩ | ⟨go1, Nx1, hNx1, step1⟩
        · refine thnF (T1.done (X.blk s3 H3 scope ce fp) rfl rfl rfl hc j _ s12 (wipe σ8 vs1) H12 (fun _ _ => False) I12 (own1 n12) st12 stop1) fun r s13 ⟨hr, I13⟩ => ?_
          subst hr
          obtain ⟨m', hm, w'⟩ := hNx _ nx1
          obtain ⟨a1, a2, a3⟩ := back T st7 I13 hl9 hk9
          exact ⟨m', hm, i + 1, _, a1, a2, a3, w'⟩
        · refine thnF (T1.item (X.blk s3 H3 scope ce fp) rfl rfl rfl hc j _ s12 (wipe σ8 vs1) H12 (fun _ _ => False) I12 (own1 n12) st12 go1) fun r s13 ⟨u1, hr, h13⟩ => ?_
          subst hr
          refine thn h13 fun _ s14 ⟨x1, H14, I14, r14, y14, st14, n14⟩ => ?_
          refine thn (pg1.run _ s14 (wipe σ8 vs1) H14 x1 u1 _ (I14.pinned (own1 n14) (T1.obj _ _ st14)) r14 (step1 x1 H14 y14)) fun _ s15 ⟨σ15, H15, I15, hw15, q15⟩ => ?_
          refine thn (pe.run _ s15 σ15 H15 _ I15 q15) fun z s16 ⟨yv, H16, I16, r16, pa, kk, L, ey, hD16, hk16, hL16, hf16, nx⟩ => ?_
          subst ey
          obtain rfl : z = Value.ref pa := r16
          refine addP_ok (X := X.blk s3 H3 scope ce fp) uB I16 hD16 hk16 hL16 hf16 fun L' s17 I17 c1 c2 => ?_
          obtain ⟨m', hm, w'⟩ := hNx1 _ (nx L' c1 c2)
          obtain ⟨a1, a2, a3⟩ := back (σ0 := wipe σ8 vs1) T1 st14 I17 (by rw [← hw15, wipe_length]) (fun j v e => by rw [← hw15] at e; exact (wipe_some e).1)
          exact ⟨m', hm, j + 1, _, a1, a2, a3, w'⟩
      exact start_any (g := ⟨t1, i1, [], 0⟩) rfl rfl loop1 (T1.self X.A 0 _ _ _ st11 loop1)
  exact start_any (g := ⟨t0, i0, [], 0⟩) rfl rfl loop (T.self X.A 0 _ _ _ st4 loop)
end


/-! ### sorted(set) -/
section
open PySem.Spec PyProof.Rows PpSet
open PySem.W (EachIs AllAlike Sortable dataLe)
def dS (k : List Str) : PyData := .tuple (k.map PyData.str)
variable {P : Program} {w : World} {A : Around} {E : Value → Shared → Prop} {s : Shared}
theorem reads_strs {h : Heap} {k : List Str} {vs : List Value} (i : ItemsAre (strKind P w) k vs) : PySem.ReadsAll h vs (k.map PyData.str) [] := by
  induction i with
  | nil => exact .nil
  | cons h1 _ ih =>
    obtain ⟨t, rfl⟩ := Value.isStrOf_shape h1
    exact .cons (.str _ _) ih
theorem reads_isS {h : Heap} {k : List Str} {b : Addr} (x : IsS P w h k b) : PySem.Reads h (.ref b) (dS k) [] := by
  obtain ⟨o, items, n, h1, h2, h3, h4⟩ := x
  exact .tuple h1 h2 h3 (reads_strs h4)
theorem each_map2 {α : Type} {R : Value → PyData → Prop} (f : α → Value) (g : α → PyData) : ∀ {l : List α}, (∀ a ∈ l, R (f a) (g a)) → EachIs R (l.map f) (l.map g)
  | [], _ => .nil
  | a :: l, h => .cons (h a List.mem_cons_self) (each_map2 f g fun b hb => h b (List.mem_cons_of_mem _ hb))
theorem perm_refs : ∀ {L : List (Addr × List Str)} {vs : List Value}, vs.Perm (L.map fun q => Value.ref q.1) → ∃ L' : List (Addr × List Str), L'.Perm L ∧ vs = L'.map fun q => Value.ref q.1 := by
  intro L vs h
  have key : ∀ {a b : List Value}, a.Perm b → ∀ L : List (Addr × List Str), b = L.map (fun q => Value.ref q.1) → ∃ L' : List (Addr × List Str), L'.Perm L ∧ a = L'.map fun q => Value.ref q.1 := by
    intro a b h
    induction h with
    | nil =>
      intro L e
      have : L = [] := List.map_eq_nil_iff.mp e.symm
      exact ⟨[], by rw [this], rfl⟩
    | cons x _ ih =>
      intro L e
      cases L with
      | nil => cases e
      | cons q L =>
        rw [List.map_cons] at e
        obtain ⟨L', h1, h2⟩ := ih L (List.cons.inj e).2
        exact ⟨q :: L', h1.cons q, by rw [List.map_cons, ← h2, (List.cons.inj e).1]⟩
    | swap x y l =>
      intro L e
      match L, e with
      | [], e => cases e
      | [_], e => cases e
      | p :: q :: L, e =>
        rw [List.map_cons, List.map_cons] at e
        obtain ⟨e1, e2⟩ := List.cons.inj e
        obtain ⟨e3, e4⟩ := List.cons.inj e2
        exact ⟨q :: p :: L, List.Perm.swap p q L, by rw [List.map_cons, List.map_cons, e1, e3, e4]⟩
    | trans _ _ ih1 ih2 =>
      intro L e
      obtain ⟨L1, p1, e1⟩ := ih2 L e
      obtain ⟨L2, p2, e2⟩ := ih1 L1 e1
      exact ⟨L2, p2.trans p1, e2⟩
  exact key h L rfl
theorem alike_strs : ∀ a b : List Str, PySem.W.alikeAll (a.map PyData.str) (b.map PyData.str) = true
  | [], _ => by simp [PySem.W.alikeAll]
  | _ :: _, [] => by simp [PySem.W.alikeAll]
  | x :: xs, y :: ys => by
    show PySem.W.alikeAll (.str x :: xs.map .str) (.str y :: ys.map .str) = true
    rw [PySem.W.alikeAll, alike_strs xs ys]
    simp [PySem.W.alike]
theorem alike_dS (a b : List Str) : PySem.W.alike (dS a) (dS b) = true := by
  unfold dS
  rw [PySem.W.alike]
  exact alike_strs a b
theorem depth_strs : ∀ a : List Str, PyData.depthAll (a.map PyData.str) = 0
  | [] => by simp [PyData.depthAll]
  | x :: xs => by
    show PyData.depthAll (.str x :: xs.map .str) = 0
    rw [PyData.depthAll, depth_strs xs]
    simp [PyData.depth]
theorem depth_dS (a : List Str) : (dS a).depth ≤ 1 := by
  unfold dS
  rw [PyData.depth, depth_strs]
  exact Nat.le_refl _
theorem sorted_p {a : Addr} {L : List (Addr × List Str)} {es : Array (Int × Value)} {ep : Nat} {t : SetTable} {Q : Value → Shared → Prop} (R : SetP P w s.heap a L es ep t) (ht : ∀ q ∈ L, IsS P w s.heap q.2 q.1) (hne : ∀ q ∈ L, q.2 ≠ []) (hh : A.handled = none) (hu : A.units + 64 < cLine) {RR : Value → PyData → Prop} (hRR : ∀ q ∈ L, RR (.ref q.1) (dS q.2))
    (hQ : ∀ s' p (out : List Value) (c : Nat) (L' : List (Addr × List Str)), (∀ b o, s.heap.get? b = some o → s'.heap.get? b = some o) → s'.gens = s.gens → s'.os = s.os → s.heap.objs.size ≤ p → s'.heap.get? p = some (seqObj "list" out.toArray c) → L'.Perm L → out.length = L.length →
      EachIs RR out ((L'.map fun q => dS q.2).mergeSort (dataLe false id)) → Q (.ref p) s') :
    wpAny (model P w) A (call (.builtin "sorted") [.ref a]) Q E s := by
  obtain ⟨o, ho, hex, hd⟩ := R.at_
  have hsz := R.size
  have hfew := R.few
  refine Calls.call_function_entry kind_sorted plain_sorted entry_sorted (args_sorted1 _) ?_
  unfold Builtin.«sorted»
  refine wpAny_bind (m := checkCount "sorted" 1 1 _) (wpAny_pure ?_)
  refine wpAny_bind (collect_set (A := A.in1) hh ⟨o, ho, hex.1, hd⟩ R.fits (by unfold scanBound; omega) R.tbl.ris R.led fun s1 vs k1 hz g1 o1 pm => ?_)
  have hes : es.toList.map (·.2) = L.map fun q => Value.ref q.1 := by
    rw [R.rows]
    unfold rowS
    rw [List.map_map]; rfl
  rw [hes] at pm
  obtain ⟨L', pL, rfl⟩ := perm_refs pm
  have hvl : (L'.map fun q => Value.ref q.1).length = L.length := by rw [List.length_map, pL.length_eq]
  refine wpAny_bind (wpAny_newList ?_ (by rw [sizeLine_eq]; omega))
  have hoL : (s1.heap.push (seqObj "list" (L'.map fun q => Value.ref q.1).toArray 0)).get? s1.heap.objs.size = some (seqObj "list" (L'.map fun q => Value.ref q.1).toArray 0) := Heap.get?_push_size _ rfl
  have inL : ∀ q ∈ L', q ∈ L := fun q hq => pL.mem_iff.mp hq
  refine wpAny_bind (wpAny_holding (PySem.W.list_sort_data (s := { s1 with heap := s1.heap.push (seqObj "list" (L'.map fun q => Value.ref q.1).toArray 0) }) (bs := L'.map fun q => dS q.2) (enc := id) (R := RR) hoL (each_map2 _ _ fun q hq => hRR q (inL q hq))
    (each_map2 _ _ fun q hq => ⟨[], reads_isS (P := P) (w := w) (isS_up (ht q (inL q hq)) fun b u e => Heap.get?_push_of_some _ (k1 b u e)), fun z => nomatch z⟩) ?_ ?_ (by rw [List.length_map, pL.length_eq, sizeLine_eq]; omega) (fun b hb => ?_) fun out h1 h2 => ?_))
  · rw [List.map_id]
    intro d hd d' hd'
    obtain ⟨q, _, rfl⟩ := List.mem_map.mp hd
    obtain ⟨q', _, rfl⟩ := List.mem_map.mp hd'
    exact alike_dS _ _
  · rw [List.map_id]
    refine .inl fun d hd => ?_
    obtain ⟨q, hq, rfl⟩ := List.mem_map.mp hd
    have h0 := hne q (inL q hq)
    unfold dS
    cases hk : q.2 with
    | nil => exact absurd hk h0
    | cons x r => exact ⟨_, _, rfl⟩
  · obtain ⟨q, _, rfl⟩ := List.mem_map.mp hb
    have := depth_dS q.2
    show _ + 1 + (dS q.2).depth < _
    first
      | omega
      | (show A.units + _ + 1 + (dS q.2).depth < _; omega)
      | (simp; omega)
  · obtain ⟨c, hc⟩ := sortedHeap_at (vs := L'.map fun q => Value.ref q.1) (out := out.toArray) hoL
    refine wpAny_pure ⟨_, rfl, hQ _ s1.heap.objs.size out c L' (fun b u e => ?_) g1 o1 hz hc pL (by rw [h1, List.length_map, pL.length_eq]) h2⟩
    have q := k1 b u e
    have hlt := Heap.lt_size q
    show (sortedHeap (s1.heap.push (seqObj "list" (L'.map fun q => Value.ref q.1).toArray 0)) s1.heap.objs.size _ out.toArray).get? b = some u
    rw [sortedHeap_old (Nat.ne_of_lt hlt) (by rw [size_push']; exact Nat.lt_succ_of_lt hlt)]
    exact Heap.get?_push_of_some _ q
end


section
open PySem.Spec PyProof.Rows PpSet
open PySem.W (EachIs AllAlike Sortable dataLe)
def rSortP (K : PySem.W.Frag) (P : Program) (w : World) : List V → Hp → VK → Prop := fun xs H Q => ∃ (a : Addr) (L : List (Addr × List Str)) (M : Hp), xs = [V.ref a] ∧ H a = some (SetPO P w a L) ∧ Same M H ∧ (∀ q ∈ L, TS2 K M q) ∧ (∀ q ∈ L, q.2 ≠ []) ∧
  ∀ (p : Addr) (vs : List V) (L' : List (Addr × List Str)), H p = none → L'.Perm L → (L.map (·.2)).Nodup → DpAll K M vs ((L'.map fun q => dS q.2).mergeSort (dataLe false id)) → Q (.ref p) (upd H p (.lst vs))
theorem each_back2 {K : PySem.W.Frag} {H : Hp} : ∀ {us : List Value} {ds : List PyData}, EachIs (fun u d => ∃ x, RelV x u ∧ Dp K H x d) us ds → ∃ vs, Vals vs us ∧ DpAll K H vs ds
  | _, _, .nil => ⟨[], .nil, .nil⟩
  | _, _, .cons h t => by
    obtain ⟨x, r, d⟩ := h
    obtain ⟨vs, h1, h2⟩ := each_back2 t
    exact ⟨x :: vs, .cons r h1, .cons d h2⟩
theorem dp_strs {K : PySem.W.Frag} {H : Hp} : ∀ k : List Str, DpAll K H (k.map V.str) (k.map PyData.str)
  | [] => .nil
  | x :: k => .cons (.str _) (dp_strs k)
variable {X : Cx}
theorem cr_sortP (hc : X.calm = true) (hu : X.A.units + 64 < cLine) : CallR X (.builtin "sorted") (rSortP X.K X.prog X.w) := by
  intro pins s σ H vs us Q I r h
  obtain ⟨a, L, M, rfl, ha, sM, hk, hne, q⟩ := h
  obtain ⟨es, ep, t, R⟩ : ∃ es ep t, SetP X.prog X.w s.heap a L es ep t := (I.hok a _ ha).1
  rw [Vals.ref1 r]
  refine sorted_p R (fun q hq => inv_isS I (Same.spT sM (hk q hq))) hne (I.ok.hd hc) hu (RR := fun u d => ∃ x, RelV x u ∧ Dp X.K M x d) (fun q hq => ⟨.ref q.1, rfl, .tup (hk q hq) (dp_strs _)⟩) fun s' p out c L' k g o hp hg pm hl he => ?_
  obtain ⟨vs', k1, k2⟩ := each_back2 he
  have hfew := R.few
  have hlen : vs'.length ≤ sizeLine := by rw [k1.length, hl, sizeLine_eq]; omega
  have hn : H p = none := I.hok.fresh hp
  have J : Inv X pins σ (upd H p (.lst vs')) { s with heap := s'.heap, gens := s'.gens, drawn := s'.drawn, toks := s'.toks } :=
    I.call (ch := []) (Un.laid k hp hn) (I.hok.laid k hp ⟨hlen, out, c, k1, hg⟩) (by rw [g]; exact I.bare) (fun _ z => nomatch z)
  have e : s' = { s with heap := s'.heap, gens := s'.gens, drawn := s'.drawn, toks := s'.toks } := by
    cases s'
    cases s
    cases o
    rfl
  rw [e]
  exact ⟨.ref p, _, J, rfl, q p vs' L' hn pm R.nd k2⟩
end
theorem units65 {k : Nat} {A : Around} (hr : Room k A) : A.units + 65 < cLine := by
  have := hr.un
  omega


/-! ### sorted(xs) of data, any length -/
open PySem.W (EachIs AllAlike Sortable dataLe) in
def rSortD (K : PySem.W.Frag) : List V → Hp → VK → Prop := fun xs H Q => ∃ (l : Addr) (vs : List V) (ds : List PyData), xs = [.ref l] ∧ SqL K H l vs ∧ DpAll K H vs ds ∧ AllAlike ds ∧ Sortable ds ∧ (∀ d ∈ ds, d.depth ≤ 20) ∧
  ∀ (p : Addr) (vs' : List V), H p = none → DpAll K H vs' (ds.mergeSort (dataLe false id)) → vs'.length = vs.length → Q (.ref p) (upd H p (.lst vs'))
section
open PySem.W (EachIs AllAlike Sortable dataLe)
variable {X : Cx} {pins : List (Addr × Obj)} {σ : L2.St} {H : Hp} {s : Shared}
theorem each_of (I : Inv X pins σ H s) : ∀ {vs : List V} {us : List Value} {ds : List PyData}, Vals vs us → DpAll X.K H vs ds → EachIs (fun u d => ∃ x, RelV x u ∧ Dp X.K H x d) us ds
  | _, _, _, .nil, .nil => .nil
  | _, _, _, .cons r t, .cons d e => .cons ⟨_, r, d⟩ (each_of I t e)
theorem each_reads (I : Inv X pins σ H s) : ∀ {us : List Value} {ds : List PyData}, EachIs (fun u d => ∃ x, RelV x u ∧ Dp X.K H x d) us ds → EachIs (fun u d => ∃ as, PySem.Reads s.heap u (id d) as) us ds
  | _, _, .nil => .nil
  | _, _, .cons h t => .cons (by obtain ⟨x, r, d⟩ := h; exact Dp.reads I _ _ _ d r) (each_reads I t)
theorem each_back {K : PySem.W.Frag} : ∀ {us : List Value} {ds : List PyData}, EachIs (fun u d => ∃ x, RelV x u ∧ Dp K H x d) us ds → ∃ vs, Vals vs us ∧ DpAll K H vs ds
  | _, _, .nil => ⟨[], .nil, .nil⟩
  | _, _, .cons h t => by
    obtain ⟨x, r, d⟩ := h
    obtain ⟨vs, h1, h2⟩ := each_back t
    exact ⟨x :: vs, .cons r h1, .cons d h2⟩
theorem cr_sortedD (hu : X.A.units + 64 < cLine) : CallR X (.builtin "sorted") (rSortD X.K) := by
  intro pins s σ H vs us Q I r h
  obtain ⟨a, xs, ds, rfl, hs, hd, hal, hso, hdep, q⟩ := h
  obtain ⟨its, rv, hl, hz⟩ := I.list hs
  rw [Vals.ref1 r]
  have hlen : ds.length = xs.length := (DpAll.len hd).symm
  have e := each_of I rv hd
  refine PySem.W.sorted_data (R := fun u d => ∃ x, RelV x u ∧ Dp X.K H x d) (enc := id) (bs := ds) hl.isList e (each_reads I e) (by rw [List.map_id]; exact hal) (by rw [List.map_id]; exact hso) (by rw [hlen]; exact hz) (fun d hd => ?_) fun out h1 h2 => ?_
  · have := hdep d hd
    show _ + 2 + d.depth < _
    omega
  · obtain ⟨vs', k1, k2⟩ := each_back h2
    obtain ⟨ep, he'⟩ := PyProof.Rows.sortedAll_at s.heap its out.toArray
    have hl2 : vs'.length = xs.length := by rw [k1.length, h1, hlen]
    exact ⟨.ref _, upd H (s.heap.objs.size + 1) (.lst vs'), I.laid (t' := s.toks) (fun _ _ => PyProof.Rows.sortedAll_old) (Nat.le_succ _) ⟨by rw [hl2]; exact hz, out, ep, k1, he'⟩, rfl, q _ _ (I.hok.fresh (Nat.le_succ _)) k2 hl2⟩
end


/-! ### patterns_of -/
def isRow : Qu → Bool
  | .row _ _ => true
  | _ => false
def rowPs : Qu → List Pat
  | .row ps _ => ps
  | _ => []
def patR (q : Qu) : List Pat := (subsR q).flatMap rowPs
def kS (t : Pat) : List Str := [t.1, t.2]
theorem kS_inj {t u : Pat} (h : kS t = kS u) : t = u := by
  obtain ⟨h1, h2⟩ := List.cons.inj h
  exact Prod.ext h1 (List.cons.inj h2).1
theorem patR_rows (q : Qu) : ((subsR q).filter isRow).flatMap rowPs = patR q := by
  unfold patR
  generalize subsR q = l
  induction l with
  | nil => rfl
  | cons x r ih =>
    cases x with
    | row ps g =>
      rw [List.filter_cons, if_pos (show isRow (.row ps g) = true from rfl), List.flatMap_cons, List.flatMap_cons, ih]
    | all => rw [List.filter_cons, if_neg (by decide), List.flatMap_cons, ih]; rfl
    | neg q => rw [List.filter_cons, if_neg (show ¬ isRow (.neg q) = true from Bool.false_ne_true), List.flatMap_cons, ih]; rfl
    | bin o qs => rw [List.filter_cons, if_neg (show ¬ isRow (.bin o qs) = true from Bool.false_ne_true), List.flatMap_cons, ih]; rfl
/-- what the set has, of the patterns pr -/
structure Acc (K : PySem.W.Frag) (H : Hp) (L : List (Addr × List Str)) (pr : List Pat) : Prop where
  tup : ∀ q ∈ L, TS2 K H q
  sub : ∀ q ∈ L, ∃ t ∈ pr, q.2 = kS t
  all : ∀ t ∈ pr, kS t ∈ L.map (·.2)
  len : L.length ≤ pr.length
theorem Acc.nil (K : PySem.W.Frag) (H : Hp) : Acc K H [] [] := ⟨(fun _ h => nomatch h), (fun _ h => nomatch h), (fun _ h => nomatch h), Nat.le_refl _⟩
theorem Acc.add {K : PySem.W.Frag} {H : Hp} {L L' : List (Addr × List Str)} {pr : List Pat} (a : Acc K H L pr) {p : Addr} {t : Pat} (ht : TS2 K H (p, kS t)) (c1 : kS t ∈ L.map (·.2) → L' = L) (c2 : kS t ∉ L.map (·.2) → L'.Perm ((p, kS t) :: L)) : Acc K H L' (pr ++ [t]) := by
  by_cases c : kS t ∈ L.map (·.2)
  · rw [c1 c]
    refine ⟨a.tup, fun q hq => ?_, fun u hu => ?_, by rw [List.length_append]; exact Nat.le_succ_of_le a.len⟩
    · obtain ⟨u, h1, h2⟩ := a.sub q hq
      exact ⟨u, List.mem_append_left _ h1, h2⟩
    · rcases List.mem_append.mp hu with h | h
      · exact a.all u h
      · rw [List.mem_singleton.mp h]; exact c
  · have pm := c2 c
    refine ⟨fun q hq => ?_, fun q hq => ?_, fun u hu => ?_, by rw [pm.length_eq, List.length_append, List.length_cons, List.length_singleton]; exact Nat.succ_le_succ a.len⟩
    · rcases List.mem_cons.mp (pm.mem_iff.mp hq) with h | h
      · rw [h]; exact ht
      · exact a.tup q h
    · rcases List.mem_cons.mp (pm.mem_iff.mp hq) with h | h
      · rw [h]; exact ⟨t, List.mem_append_right _ (List.mem_singleton.mpr rfl), rfl⟩
      · obtain ⟨u, h1, h2⟩ := a.sub q h
        exact ⟨u, List.mem_append_left _ h1, h2⟩
    · rw [(pm.map (·.2)).mem_iff, List.map_cons]
      rcases List.mem_append.mp hu with h | h
      · exact List.mem_cons_of_mem _ (a.all u h)
      · rw [List.mem_singleton.mp h]; exact List.mem_cons_self
theorem acc_pick {pr : List Pat} : ∀ {L : List (Addr × List Str)}, (∀ q ∈ L, ∃ t ∈ pr, q.2 = kS t) → ∃ ds : List Pat, L.map (·.2) = ds.map kS ∧ ∀ t ∈ ds, t ∈ pr
  | [], _ => ⟨[], rfl, (fun _ h => nomatch h)⟩
  | q :: L, h => by
    obtain ⟨t, h1, h2⟩ := h q List.mem_cons_self
    obtain ⟨ds, h3, h4⟩ := acc_pick (L := L) fun x hx => h x (List.mem_cons_of_mem _ hx)
    refine ⟨t :: ds, by rw [List.map_cons, List.map_cons, h2, h3], fun u hu => ?_⟩
    rcases List.mem_cons.mp hu with rfl | hu
    · exact h1
    · exact h4 u hu
open PySem.W (dataLe) in
def yPats (K : PySem.W.Frag) : Sp := fun vs H Q _ => ∃ (v : V) (q : Qu) (M : Hp), vs = [v] ∧ Same M H ∧ Dp K M v (encU q) ∧ (subsR q).length ≤ 1000000 ∧ (patR q).length ≤ 299 ∧
  ∀ (p : Addr) (H' : Hp) (us : List V) (ds : List Pat), Same H H' → H' p = none → DpAll K M us ((ds.map encT).mergeSort (dataLe false id)) → ds.Nodup → (∀ t, t ∈ ds ↔ t ∈ patR q) → Q (.ref p) (upd H' p (.lst us))
section
variable {P : Program} {w : World} {K : PySem.W.Frag} {mg : Str → Option Value} {base : Heap} {A : Nat → Addr} {D : Nat → FuncData}
theorem ok_patterns_of (T : Txt K mg A D) : FnOk P w K mg base CX0 3 (A 0) (D 0) ["question"] (yPats K) := by
  refine T.F_patterns_of.ok sc_patterns_of (fun vs H Q E h => ?_) (fun cdv A' outer s H vs Q E hr h => ?_)
  · obtain ⟨v, q, M, rfl, _⟩ := h; rfl
  obtain ⟨v, q, M, rfl, sM, hd, hsz, hpz, fin⟩ := h
  have hnd := sc_patterns_of.nd
  have G_questions_in := ok_questions_in (P := P) (w := w) (base := base) T
  refine ⟨_, (pss_cons (ps_setLc (i := 4) (own := [("part", 1)]) rfl hnd rfl rfl (sw_true rfl rfl rfl (by decide +kernel)) (pi_list (pe_call G_questions_in (hr.mono (by first | decide | omega)) rfl T.m_questions_in T.F_questions_in.kp T.b_questions_in .nil pass0 (pa_cons (pv 0) pa_nil))) (blkOk_by (own := [("part", 1)]) (N := N_patterns_of) (sc := defScope s_patterns_of) (by decide +kernel)) (fun _ _ _ _ _ => (pg_name (i := 1) hnd rfl (Or.inl rfl))) (fun _ _ _ _ _ => (pts_one (pt_cmpR op_eq (pe_ix (r := rIxT K) ix_tup (pv 1) pe_int (fun _ _ => rfl)) pe_str (nomark _)))) (fun _ _ _ _ _ => (pv 1))) (pss_one (ps_ret (pe_callB (cr_sortP rfl hr.units) rfl T.z_sorted (by decide +kernel) (pa_cons (pe_sc2 (wi1 := iTup K _) (own := [("row", 2), ("pattern", 3)]) (vs1 := [3]) hr.units rfl hnd (pi_list (pv 4)) (blkOk_by (own := [("row", 2), ("pattern", 3)]) (N := N_patterns_of) (sc := defScope s_patterns_of) (by decide +kernel)) (by decide) (fun _ _ _ _ _ => (pg_name (i := 2) hnd rfl (Or.inl rfl))) (fun _ _ _ _ _ => (pi_tup (pe_ix (r := rIxT K) ix_tup (pv 2) pe_int (fun _ _ => rfl)))) (fun _ _ _ _ _ => (pg_name (i := 3) hnd rfl (Or.inl rfl))) (fun _ _ _ _ _ => (pv 3))) pa_nil))))), ?_⟩
  refine ⟨_, rfl, v, q, M, rfl, sM, hd, hsz, fun l H1 s1 hl0 U1 => ?_⟩
  obtain ⟨us, h1, h2⟩ := U1
  have sM1 := sM.trans s1
  have hul : us.length = (subsR q).length := by rw [DpAll.len h2, List.length_map]
  refine ⟨l, rfl, ⟨us, SqL.of h1⟩, fun D hD => ?_⟩
  refine lc_it (walk_list (xs := us)) (fun i H' => Same H1 H' ∧ UAM K M H' D (((subsR q).take i).filter isRow)) ⟨same_new hD, ⟨[], upd_same, .nil⟩⟩ (fun i H' _ h => SqL.of (h.1 _ _ h1)) ?_ ?_
  · rintro i x H2 H3 hi ⟨s2, U2⟩ ⟨rfl, hxi⟩
    have hil : i < (subsR q).length := by omega
    obtain ⟨x', hx', dx⟩ := DpAll.get h2 (i := i) (d := encU (subsR q)[i]) (by rw [List.getElem?_map, List.getElem?_eq_getElem hil]; rfl)
    obtain rfl : x = x' := Option.some.inj (hxi.symm.trans hx')
    have sM3 := sM1.trans s2
    have etk : (subsR q).take (i + 1) = (subsR q).take i ++ [(subsR q)[i]] := by rw [List.take_add_one, List.getElem?_eq_getElem hil]; rfl
    rw [etk, List.filter_append]
    refine ⟨rfl, ?_⟩
    generalize (subsR q)[i] = y at dx ⊢
    have no : isRow y = false → UAM K M H3 D (((subsR q).take i).filter isRow ++ [y].filter isRow) := fun e => by
      rw [List.filter_cons, e]
      show UAM K M H3 D (_ ++ [])
      rw [List.append_nil]; exact U2
    have hlen : (((subsR q).take i).filter isRow).length ≤ 1000000 := by
      have a1 := List.length_filter_le isRow ((subsR q).take i)
      rw [List.length_take] at a1
      omega
    cases y with
    | all =>
      obtain ⟨aq, xs, rfl, haq, _⟩ := dp_kind (show Dp K M x (.tuple [.str "all"]) from dx)
      replace haq := Same.spT sM3 haq
      exact ⟨_, rfl, aq, _, 0, _, rfl, rfl, haq, atI_nat (j := 0) rfl, rfl, _, rfl, strF (by decide) ⟨s2, no rfl⟩⟩
    | neg z =>
      obtain ⟨aq, xs, rfl, haq, _⟩ := dp_kind (show Dp K M x (.tuple [.str "not", encU z]) from dx)
      replace haq := Same.spT sM3 haq
      exact ⟨_, rfl, aq, _, 0, _, rfl, rfl, haq, atI_nat (j := 0) rfl, rfl, _, rfl, strF (by decide) ⟨s2, no rfl⟩⟩
    | bin o zs =>
      obtain ⟨aq, xs, rfl, haq, _⟩ := dp_kind (show Dp K M x (.tuple [.str (if o = true then "or" else "and"), .tuple (encUs zs)]) from dx)
      replace haq := Same.spT sM3 haq
      exact ⟨_, rfl, aq, _, 0, _, rfl, rfl, haq, atI_nat (j := 0) rfl, rfl, _, rfl, strF (by cases o <;> decide) ⟨s2, no rfl⟩⟩
    | row ps g =>
      obtain ⟨aq, xs, rfl, haq, _⟩ := dp_kind (show Dp K M x (.tuple [.str "row", encPs ps, .int (g : Int)]) from dx)
      replace haq := Same.spT sM3 haq
      obtain ⟨vr, r1, r2⟩ := U2
      have hvl : vr.length = (((subsR q).take i).filter isRow).length := by rw [DpAll.len r2, List.length_map]
      refine ⟨_, rfl, aq, _, 0, _, rfl, rfl, haq, atI_nat (j := 0) rfl, rfl, _, rfl, strT ⟨_, rfl, vr, r1, (by rw [hvl]; exact len_lt (by omega)), same_upd s2 hD, ?_⟩⟩
      refine ⟨_, upd_same, ?_⟩
      rw [List.map_append]
      exact DpAll.app r2 (.cons dx .nil)
  · rintro H2 ⟨s2, U2⟩
    have sM2 := sM1.trans s2
    rw [hul, List.take_length] at U2
    obtain ⟨vr, r1, r2⟩ := U2
    have hrows := patR_rows q
    generalize hrw : (subsR q).filter isRow = rows at r2 hrows
    have hvl : vr.length = rows.length := by rw [DpAll.len r2, List.length_map]
    have hall : ∀ y ∈ rows, isRow y = true := fun y hy => by
      rw [← hrw] at hy
      exact (List.mem_filter.mp hy).2
    have fl : ∀ i (hi : i < rows.length), ((rows.take i).flatMap rowPs).length + (rowPs rows[i]).length ≤ 299 := fun i hi => by
      have e1 : (rows.take (i + 1)).flatMap rowPs = (rows.take i).flatMap rowPs ++ rowPs rows[i] := by
        rw [List.take_add_one, List.getElem?_eq_getElem hi, List.flatMap_append]
        show _ ++ [rows[i]].flatMap rowPs = _
        rw [List.flatMap_singleton]
      have e2 : ((rows.take (i + 1)).flatMap rowPs ++ (rows.drop (i + 1)).flatMap rowPs).length = (patR q).length := by
        rw [← List.flatMap_append, List.take_append_drop, hrows]
      rw [e1, List.length_append, List.length_append] at e2
      omega
    refine ⟨_, rfl, D, rfl, ⟨vr, SqL.of r1⟩, fun S hS => ⟨fun i m H' => m = rows.length - i ∧ i ≤ rows.length ∧ Same H2 H' ∧ ∃ L, H' S = some (SetPO P w S L) ∧ Acc K M L ((rows.take i).flatMap rowPs),
      ⟨rows.length, rfl, Nat.zero_le _, same_new hS, [], upd_same, Acc.nil K M⟩, ?_⟩⟩
    rintro i m H3 ⟨rfl, hi, s3, L, hL, acc⟩
    have r13 := s3 _ _ r1
    by_cases hlt : i < rows.length
    · refine .inr ⟨⟨vr, vr[i], SqL.of r13, List.getElem?_eq_getElem (by omega)⟩, fun H' => Same H2 H' ∧ ∃ L, H' S = some (SetPO P w S L) ∧ Acc K M L ((rows.take (i + 1)).flatMap rowPs), fun H' ⟨a1, a2⟩ => ⟨rows.length - (i + 1), by omega, rfl, hlt, a1, a2⟩, fun x H4 hy => ?_⟩
      obtain ⟨rfl, hy⟩ := hy
      have hxi := hy vr (SqL.of r13)
      obtain ⟨x', hx', dx⟩ := DpAll.get r2 (i := i) (d := encU rows[i]) (by rw [List.getElem?_map, List.getElem?_eq_getElem hlt]; rfl)
      obtain rfl : x = x' := Option.some.inj (hxi.symm.trans hx')
      have hfl := fl i hlt
      have e1 : (rows.take (i + 1)).flatMap rowPs = (rows.take i).flatMap rowPs ++ rowPs rows[i] := by
        rw [List.take_add_one, List.getElem?_eq_getElem hlt, List.flatMap_append]
        show _ ++ [rows[i]].flatMap rowPs = _
        rw [List.flatMap_singleton]
      have hir := hall _ (List.getElem_mem hlt)
      rw [e1]
      generalize (rows.take i).flatMap rowPs = pr at acc hfl ⊢
      generalize rows[i] = y at dx hfl hir ⊢
      cases y with
      | all => cases hir
      | neg z => cases hir
      | bin o zs => cases hir
      | row ps g =>
        obtain ⟨aq, pa, pxs, rfl, haq, hpa, hpx⟩ := dp_encRow (show Dp K M x (encRow ps g) from dx)
        have hxl : pxs.length = ps.length := by rw [DpAll.len hpx, List.length_map]
        have hfl : pr.length + ps.length ≤ 299 := hfl
        show gName 2 _ _ _ _
        refine ⟨rfl, ?_⟩
        refine ⟨_, rfl, aq, _, 1, _, rfl, rfl, Same.spT (sM2.trans s3) haq, atI_nat (j := 1) rfl, pa, rfl, ⟨_, Same.spT (sM2.trans s3) hpa⟩, ?_⟩
        refine ⟨fun j k H' => k = ps.length - j ∧ j ≤ ps.length ∧ Same H2 H' ∧ ∃ L, H' S = some (SetPO P w S L) ∧ Acc K M L (pr ++ ps.take j), ⟨ps.length, rfl, Nat.zero_le _, s3, L, hL, by rw [List.take_zero, List.append_nil]; exact acc⟩, ?_⟩
        rintro j k H5 ⟨rfl, hj, s5, L5, hL5, acc5⟩
        have hpa5 := Same.spT (sM2.trans s5) hpa
        by_cases hjl : j < ps.length
        · refine .inr ⟨⟨pxs, pxs[j], hpa5, List.getElem?_eq_getElem (by omega)⟩, fun H' => Same H2 H' ∧ ∃ L, H' S = some (SetPO P w S L) ∧ Acc K M L (pr ++ ps.take (j + 1)), fun H' ⟨a1, a2⟩ => ⟨ps.length - (j + 1), by omega, rfl, hjl, a1, a2⟩, fun x H6 hy6 => ?_⟩
          obtain ⟨rfl, hy6⟩ := hy6
          have hxj := hy6 pxs hpa5
          obtain ⟨x', hx', dt⟩ := DpAll.get hpx (i := j) (d := encT ps[j]) (by rw [List.getElem?_map, List.getElem?_eq_getElem hjl]; rfl)
          obtain rfl : x = x' := Option.some.inj (hxj.symm.trans hx')
          obtain ⟨pp, rfl, hpp⟩ := dp_encT dt
          have etk : ps.take (j + 1) = ps.take j ++ [ps[j]] := by rw [List.take_add_one, List.getElem?_eq_getElem hjl]; rfl
          show gName 3 _ _ _ _
          refine ⟨rfl, ?_⟩
          have hl5 := acc5.len
          rw [List.length_append, List.length_take] at hl5
          refine ⟨_, rfl, pp, kS ps[j], L5, rfl, hL5, Same.spT (sM2.trans s5) hpp, fun q hq => Same.spT (sM2.trans s5) (acc5.tup q hq), by omega, fun L' c1 c2 => ?_⟩
          refine ⟨same_upd s5 hS, L', upd_same, ?_⟩
          rw [etk, ← List.append_assoc]
          exact acc5.add hpp c1 c2
        · have ej : j = ps.length := by omega
          subst ej
          rw [List.take_length] at acc5
          exact .inl ⟨⟨pxs, hpa5, by omega⟩, s5, L5, hL5, acc5⟩
    · have ei : i = rows.length := by omega
      subst ei
      rw [List.take_length, hrows] at acc
      refine .inl ⟨⟨vr, SqL.of r13, by omega⟩, ?_⟩
      refine ⟨S, L, M, rfl, hL, sM2.trans s3, fun q hq => acc.tup q hq, fun q hq => ?_, fun p vs L' hp pm nd hv => ?_⟩
      · obtain ⟨t, _, e⟩ := acc.sub q hq
        rw [e]
        exact List.cons_ne_nil _ _
      · obtain ⟨ds, d1, d2⟩ := acc_pick (L := L') fun q hq => acc.sub q (pm.mem_iff.mp hq)
        have em : (L'.map fun q => dS q.2) = ds.map encT := by
          rw [show (L'.map fun q => dS q.2) = (L'.map (·.2)).map dS by rw [List.map_map]; rfl, d1, List.map_map]; rfl
        rw [em] at hv
        refine fin p _ vs ds ((s1.trans s2).trans s3) hp hv ?_ fun t => ⟨d2 t, fun ht => ?_⟩
        · have n1 : (ds.map kS).Nodup := by rw [← d1]; exact (pm.map (·.2)).nodup_iff.mpr nd
          exact List.Pairwise.of_map kS (fun _ _ h e => h (congrArg kS e)) n1
        · have h1 := acc.all t ht
          rw [← (pm.map (·.2)).mem_iff, d1] at h1
          obtain ⟨u, hu, e⟩ := List.mem_map.mp h1
          rw [← kS_inj e]; exact hu
end

end PP
/-! ### patterns_of, by its older promise -/
namespace Q
noncomputable section
open PySem L2 Y
def pOpt {α β : Type} (f : α → Option β) : List α → Option (List β)
  | [] => some []
  | a :: l => match f a, pOpt f l with
    | some b, some r => some (b :: r)
    | _, _ => none
theorem pOpt_cons {α β : Type} {f : α → Option β} {a : α} {l : List α} {r : List β} (h : pOpt f (a :: l) = some r) : ∃ b r', f a = some b ∧ pOpt f l = some r' ∧ r = b :: r' := by
  unfold pOpt at h
  split at h
  · rename_i b r' h1 h2
    exact ⟨b, r', h1, h2, (Option.some.inj h).symm⟩
  · cases h
theorem pOpt_map {α β : Type} {f : α → Option β} {g : β → α} (hg : ∀ a b, f a = some b → g b = a) : ∀ {l : List α} {r : List β}, pOpt f l = some r → r.map g = l
  | [], _, h => by cases h; rfl
  | a :: l, r, h => by
    obtain ⟨b, r', h1, h2, rfl⟩ := pOpt_cons h
    rw [List.map_cons, hg a b h1, pOpt_map hg h2]
theorem pOpt_of {α β : Type} {f : α → Option β} {g : β → α} : ∀ {r : List β}, (∀ b ∈ r, f (g b) = some b) → pOpt f (r.map g) = some r
  | [], _ => rfl
  | b :: r, h => by
    rw [List.map_cons]
    unfold pOpt
    rw [h b List.mem_cons_self, pOpt_of fun c hc => h c (List.mem_cons_of_mem _ hc)]
def patP : PyData → Option PP.Pat
  | .tuple [.str k, .str x] => some (k, x)
  | _ => none
theorem patP_ok (a : PyData) (b : PP.Pat) (h : patP a = some b) : PP.encT b = a := by
  unfold patP at h
  split at h
  · cases h; rfl
  · cases h
def quD (f : PyData → Option PP.Qu) : PyData → Option PP.Qu
  | .tuple [.str k] => if k = "all" then some .all else none
  | .tuple [.str k, .tuple ps, .int g] => if k = "row" ∧ 0 ≤ g then (pOpt patP ps).map fun ps => .row ps g.toNat else none
  | .tuple [.str k, e] => if k = "not" then (f e).map .neg else match e with
    | .tuple qs => if k = "or" then (pOpt f qs).map (.bin true) else if k = "and" then (pOpt f qs).map (.bin false) else none
    | _ => none
  | _ => none
def quOf : Nat → PyData → Option PP.Qu
  | 0, _ => none
  | n + 1, d => quD (quOf n) d
theorem quOf_ok : ∀ n (d : PyData) (q : PP.Qu), quOf n d = some q → PP.encU q = d
  | 0, _, q, h => by cases h
  | n + 1, d, q, h => by
    replace h : quD (quOf n) d = some q := h
    unfold quD at h
    split at h
    · split at h
      · rename_i hk
        cases h
        rw [hk]; rfl
      · cases h
    · rename_i k ps g
      split at h
      · rename_i hk
        obtain ⟨ps', h1, h2⟩ := Option.map_eq_some_iff.mp h
        obtain ⟨hk, hg⟩ := hk
        subst hk
        have e1 : ps'.map PP.encT = ps := pOpt_map (fun a b z => patP_ok a b z) h1
        subst h2
        show PyData.tuple [.str "row", .tuple (ps'.map PP.encT), .int ((g.toNat : Nat) : Int)] = _
        rw [e1, Int.toNat_of_nonneg hg]
      · cases h
    · rename_i k e
      split at h
      · rename_i hk
        obtain ⟨q', h1, h2⟩ := Option.map_eq_some_iff.mp h
        subst h2
        have e1 := quOf_ok n e q' h1
        subst hk
        show PyData.tuple [.str "not", PP.encU q'] = _
        rw [e1]
      · split at h
        · rename_i qs _
          split at h
          · rename_i hk
            obtain ⟨q', h1, h2⟩ := Option.map_eq_some_iff.mp h
            subst h2
            subst hk
            show PyData.tuple [.str (if true = true then "or" else "and"), .tuple (PP.encUs q')] = _
            rw [PP.encUs_map, pOpt_map (fun a b z => quOf_ok n a b z) h1]; rfl
          · split at h
            · rename_i hk
              obtain ⟨q', h1, h2⟩ := Option.map_eq_some_iff.mp h
              subst h2
              subst hk
              show PyData.tuple [.str (if false = true then "or" else "and"), .tuple (PP.encUs q')] = _
              rw [PP.encUs_map, pOpt_map (fun a b z => quOf_ok n a b z) h1]; rfl
            · cases h
        · cases h
    · cases h
/-- each once -/
def dedP : List PP.Pat → List PP.Pat → List PP.Pat
  | L, [] => L
  | L, t :: r => if t ∈ L then dedP L r else dedP (L ++ [t]) r
theorem dedP_mem {x : PP.Pat} : ∀ {r L : List PP.Pat}, x ∈ dedP L r ↔ x ∈ L ∨ x ∈ r
  | [], L => ⟨.inl, fun h => h.elim id fun z => nomatch z⟩
  | t :: r, L => by
    unfold dedP
    split
    · rename_i h
      rw [dedP_mem, List.mem_cons]
      constructor
      · rintro (z | z)
        · exact .inl z
        · exact .inr (.inr z)
      · rintro (z | rfl | z)
        · exact .inl z
        · exact .inl h
        · exact .inr z
    · rw [dedP_mem, List.mem_append, List.mem_singleton, List.mem_cons, or_assoc]
theorem dedP_nodup : ∀ {r L : List PP.Pat}, L.Nodup → (dedP L r).Nodup
  | [], L, h => h
  | t :: r, L, h => by
    unfold dedP
    split
    · exact dedP_nodup h
    · rename_i g
      exact dedP_nodup (List.nodup_append.mpr ⟨h, List.pairwise_singleton _ _, fun a ha b hb e => g (by rw [← List.mem_singleton.mp hb, ← e]; exact ha)⟩)
/-- the patterns of a question, sorted, each once -/
def patsL (q : PP.Qu) : List PyData := ((dedP [] (PP.patR q)).map PP.encT).mergeSort (PySem.W.dataLe false id)
theorem toks_pat {a b : PP.Pat} (h : PySem.W.keyToks (PP.encT a) = PySem.W.keyToks (PP.encT b)) : a = b := by
  obtain ⟨a1, a2⟩ := a
  obtain ⟨b1, b2⟩ := b
  unfold PP.encT at h
  simp only [PySem.W.keyToks, PySem.W.keyToksAll, List.cons_append, List.nil_append, List.cons.injEq, Sum.inr.injEq, true_and, and_true] at h
  obtain ⟨h1, h2⟩ := h
  have f : ∀ {x y : Str}, x.cps.toList = y.cps.toList → x = y := fun {x y} z => by
    cases x with | mk x => cases y with | mk y =>
    have : x = y := Array.ext' z
    rw [this]
  rw [f h1, f h2]
theorem pats_uniq {q : PP.Qu} {ds : List PP.Pat} (nd : ds.Nodup) (hm : ∀ t, t ∈ ds ↔ t ∈ PP.patR q) : (ds.map PP.encT).mergeSort (PySem.W.dataLe false id) = patsL q := by
  have tot : PySem.W.TotalLe (PySem.W.dataLe false (id : PyData → PyData)) := PySem.W.sortLe_total (PyProof.Rows.listOrd PyProof.Rows.itemOrd) false fun a : PyData => PySem.W.keyToks a
  have pm : ds.Perm (dedP [] (PP.patR q)) := (List.perm_ext_iff_of_nodup nd (dedP_nodup .nil)).mpr fun t => by
    rw [hm, dedP_mem]
    exact ⟨.inr, fun z => z.elim (fun z => nomatch z) id⟩
  unfold patsL
  refine List.Perm.eq_of_pairwise (le := fun a b => PySem.W.dataLe false (id : PyData → PyData) a b = true) (fun a b ha hb h1 h2 => ?_) (PySem.W.sort_pairwise tot _) (PySem.W.sort_pairwise tot _) ((List.mergeSort_perm _ _).trans ((pm.map _).trans (List.mergeSort_perm _ _).symm))
  have ha := (List.mergeSort_perm _ _).mem_iff.mp ha
  have hb := (List.mergeSort_perm _ _).mem_iff.mp hb
  obtain ⟨x, _, rfl⟩ := List.mem_map.mp ha
  obtain ⟨y, _, rfl⟩ := List.mem_map.mp hb
  have e1 : (!PyProof.Rows.lexLt PyProof.Rows.itemOrd (PySem.W.keyToks (PP.encT y)) (PySem.W.keyToks (PP.encT x))) = true := h1
  have e2 : (!PyProof.Rows.lexLt PyProof.Rows.itemOrd (PySem.W.keyToks (PP.encT x)) (PySem.W.keyToks (PP.encT y))) = true := h2
  rw [Bool.not_eq_true'] at e1 e2
  rw [toks_pat (PyProof.Rows.lex_total _ _ e2 e1)]
def xPats : Env → Option (Tr × Env)
  | [a] => match a.rs? with
    | some d => match quOf 8 d with
      | some q => if (decide ((PP.subsR q).length ≤ 1000000) && decide ((PP.patR q).length ≤ 299)) = true then some (.lst (patsL q), [.un]) else none
      | none => none
    | none => none
  | _ => none
section
variable {K : PySem.W.Frag} {CA : Str → Addr} {Tb : List Tbl2} {H0 M0 H M H' M' : Hp} {pin : Nat → V × List Addr} {env : Env} {fps : List (List Addr)} {σ : L2.St}
mutual
theorem dq_immP : ∀ {v : V} {d : PyData}, Dq K M v d → PP.Imm d → Dp K M v d
  | _, _, .non, _ => .non
  | _, _, .bl b, _ => .bl b
  | _, _, .int i, _ => .int i
  | _, _, .str x, _ => .str x
  | _, _, .lst h a, i => nomatch i
  | _, _, .tup h a, i => .tup h (dq_immsP a (by cases i; assumption))
  | _, _, .dct h a, i => nomatch i
theorem dq_immsP : ∀ {vs : List V} {ds : List PyData}, DqAll K M vs ds → (∀ d ∈ ds, PP.Imm d) → DpAll K M vs ds
  | _, _, .nil, _ => .nil
  | _, _, .cons a b, i => .cons (dq_immP a (i _ List.mem_cons_self)) (dq_immsP b fun d hd => i d (List.mem_cons_of_mem _ hd))
end
mutual
theorem imm_dqP : ∀ {v : V} {d : PyData}, Dp K M v d → PP.Imm d → Dq K M v d
  | _, _, .non, _ => .non
  | _, _, .bl b, _ => .bl b
  | _, _, .int i, _ => .int i
  | _, _, .str x, _ => .str x
  | _, _, .lst h a, i => nomatch i
  | _, _, .tup h a, i => .tup h (imm_dqsP a (by cases i; assumption))
theorem imm_dqsP : ∀ {vs : List V} {ds : List PyData}, DpAll K M vs ds → (∀ d ∈ ds, PP.Imm d) → DqAll K M vs ds
  | _, _, .nil, _ => .nil
  | _, _, .cons a b, i => .cons (imm_dqP a (i _ List.mem_cons_self)) (imm_dqsP b fun d hd => i d (List.mem_cons_of_mem _ hd))
end
theorem rs_dqP (k : Ok K CA Tb H0 M0 pin env fps σ H M) {i : Nat} {s : Sv} {d : PyData} (h : env[i]? = some s) (hd : s.rs? = some d) (hn : notL d = true) (hi : PP.Imm d) : ∃ v M' fps', σ[i]? = some (some v) ∧ Ok K CA Tb H0 M0 pin env fps' σ H M' ∧ Same M M' ∧ Dp K M' v d := by
  have e : xVarR i env = some (d, env) := by
    unfold xVarR
    rw [h]
    dsimp only
    rw [rs_rd hd]; rfl
  obtain ⟨v, h1, M', f', k', s', r⟩ := sim_varR (K := K) (CA := CA) (Tb := Tb) _ _ _ e H0 M0 pin fps σ H M (fun v H' => ∃ M' fps', Ok K CA Tb H0 M0 pin env fps' σ H' M' ∧ Same M M' ∧ Rv K Tb M' H0 v d) k fun v H' M' fps' k' s' r => ⟨M', fps', k', s', r⟩
  exact ⟨v, M', f', h1, k', s', dq_immP (Rv.get r hn) hi⟩
theorem pats_of {vs : List V} {Q : VK} {E : XK} (h : PX K CA Tb xPats vs H Q E) : PP.yPats K vs H Q E := by
  obtain ⟨H0, pin, M, as, envf, r, fps, h1, h2, k, q⟩ := h
  unfold xPats at h1
  split at h1
  case h_2 => cases h1
  rename_i sa
  split at h1
  case h_2 => cases h1
  rename_i d ea
  split at h1
  case h_2 => cases h1
  rename_i qq hq
  split at h1
  case isFalse => cases h1
  rename_i hs
  cases h1
  rw [Bool.and_eq_true, decide_eq_true_iff, decide_eq_true_iff] at hs
  have eq1 := quOf_ok 8 d qq hq
  have iq : PP.Imm d := by rw [← eq1]; exact PP.imm_encU qq
  have nl : notL d = true := by cases iq <;> rfl
  obtain ⟨v, M1, fps1, g1, k1, s1, dv⟩ := rs_dqP k (i := 0) rfl ea nl iq
  have hl := k.sls.le
  rw [List.length_map] at hl
  match vs, hl with
  | [x], _ =>
    cases g1
    have cl : clean 1 [sa] = [.un] := by
      cases sa with
      | arg t => cases ea
      | _ => rfl
    refine ⟨v, qq, M1, rfl, k1.sub, by rw [eq1]; exact dv, hs.1, hs.2, fun p H' us ds sH hp hv nd hm => ?_⟩
    rw [pats_uniq nd hm] at hv
    have kx : Ok K CA Tb H0 M pin [sa] fps1 ([v].map some) H' M1 := k1.extE ⟨sH, Same.refl M1, fun a u e => sH a u (k1.sub a u e), fun _ _ e => .inl e⟩
    have dx : DqAll K M1 us (patsL qq) := imm_dqsP hv fun d hd => by
      unfold patsL at hd
      rw [(List.mergeSort_perm _ _).mem_iff] at hd
      obtain ⟨t, _, rfl⟩ := List.mem_map.mp hd
      exact PP.imm_encT t
    obtain ⟨a1, a2, a3⟩ := newL kx hp dx
    have kk := pin_of (vs := [v]) k a1 (fun i v h _ => h2 i v h)
    rw [show ([v] : List V).length = 1 from rfl, cl] at kk
    have hl2 : ([sa] : Env).length = fps1.length := by rw [kx.sls.le, kx.sls.lf]
    exact q _ _ M1 _ [p] kk a2 ⟨a3.1, fun z hz => ⟨(a3.2 z hz).1, (a3.2 z hz).2.1, fun zz => (a3.2 z hz).2.2 ((cleanF_sub _ _ _ hl2).subset zz)⟩⟩
end
end
end Q
namespace Q
noncomputable section
open PySem L2 Y
def x_patterns_of : Env → Option (Tr × Env) := xPats
theorem ok_patterns_of {P : Program} {w : World} {K : PySem.W.Frag} {mg : Str → Option Value} {base : Heap} {A : Nat → Addr} {D : Nat → FuncData} {Tb : List Tbl2} {CA : Str → Addr} (T : Txt K mg A D) : FnOk P w K mg base CX0 3 (A 0) (D 0) ["question"] (PX K CA Tb x_patterns_of) := (PP.ok_patterns_of T).imp fun _ _ _ _ h => pats_of h
def b_difference : XS := (xRet (xTup (xCons (xC (.str "or")) (xCons (xTup (xCons (xTup (xCons (xC (.str "and")) (xCons (xTup (xCons (xVar 0) (xCons (xTup (xCons (xC (.str "not")) (xCons (xVar 1) xNil))) xNil))) xNil))) (xCons (xTup (xCons (xC (.str "and")) (xCons (xTup (xCons (xTup (xCons (xC (.str "not")) (xCons (xVar 0) xNil))) (xCons (xVar 1) xNil))) xNil))) xNil))) xNil))))
def x_difference : Env → Option (Tr × Env) := callX 2 0 b_difference
theorem ok_difference {P : Program} {w : World} {K : PySem.W.Frag} {mg : Str → Option Value} {base : Heap} {A : Nat → Addr} {D : Nat → FuncData} {Tb : List Tbl2} {CA : Str → Addr} (T : Txt K mg A D) : FnOk P w K mg base CX0 1 (A 5) (D 5) ["one", "other"] (PX K CA Tb x_difference) := by
  refine T.F_difference.ok (k := 0) sc_difference (PX.len rfl) (fun cdv A' outer s H vs Q E hr h => ?_)
  have hnd := sc_difference.nd
  exact ⟨_, (pss_one (ps_ret (pe_tup (pa_cons pe_str (pa_cons (pe_tup (pa_cons (pe_tup (pa_cons pe_str (pa_cons (pe_tup (pa_cons (pv 0) (pa_cons (pe_tup (pa_cons pe_str (pa_cons (pv 1) pa_nil))) pa_nil))) pa_nil))) (pa_cons (pe_tup (pa_cons pe_str (pa_cons (pe_tup (pa_cons (pe_tup (pa_cons pe_str (pa_cons (pv 0) pa_nil))) (pa_cons (pv 1) pa_nil))) pa_nil))) pa_nil))) pa_nil))))), runX (K := K) (CA := CA) (Tb := Tb) (n := 2) (m := 0) (body := b_difference) rfl rfl (sim_ret (sim_tup (sim_cons sim_str (sim_cons (sim_tup (sim_cons (sim_tup (sim_cons sim_str (sim_cons (sim_tup (sim_cons sim_var (sim_cons (sim_tup (sim_cons sim_str (sim_cons sim_var sim_nil))) sim_nil))) sim_nil))) (sim_cons (sim_tup (sim_cons sim_str (sim_cons (sim_tup (sim_cons (sim_tup (sim_cons sim_str (sim_cons sim_var sim_nil))) (sim_cons sim_var sim_nil))) sim_nil))) sim_nil))) sim_nil)))) h⟩
def b_free_word : XS := (xSeq (xFor (x1 (xC (.str "0123456789abcdefghijklmnopqrstuvwxyz")) signsD) (gSet 3) (xSeq (xSet 4 (x2 (xVarR 0) (xVarR 3) fAddS)) (xIte (xNotT (xB (xGen [none, some 4] true (x1 (xVarR 1) listD) (gSet 0) xYes (x2 (xVarR 0) (xVarR 1) (fSt Txt.startswith))))) (xRetN (xLst (xCons (xVar 4) xNil))) xNext))) (xRetN (xLst xNil)))
def x_free_word : Env → Option (Tr × Env) := callX 2 3 b_free_word
theorem ok_free_word {P : Program} {w : World} {K : PySem.W.Frag} {mg : Str → Option Value} {base : Heap} {A : Nat → Addr} {D : Nat → FuncData} {Tb : List Tbl2} {CA : Str → Addr} (T : Txt K mg A D) {P_free_word : Addr} (TF_free_word : TbF base mg (D 6) P_free_word) (hP_free_word : (P_free_word, none) ∈ Tb) : FnOk P w K mg base CX0 6 (A 6) (D 6) ["word", "words"] (PX K CA Tb x_free_word) := by
  obtain ⟨c, hcode, TB0⟩ := TF_free_word
  have TB := tabB_of TB0
  have hP := hP_free_word
  refine fun_okC (k := 5) T.F_free_word hcode sc_free_word (PX.len rfl) (fun A' outer s H vs Q E hr h => ?_)
  have hnd := sc_free_word.nd
  obtain ⟨_, hSMALL⟩ := T.c_SMALL
  exact ⟨_, (pss_cons (ps_for PassesOwn.never rfl (pi_str (pe_glob (v := V.str _) rfl hSMALL ⟨_, rfl⟩)) (pg_name (i := 3) hnd rfl (Or.inl rfl)) (pss_cons (ps_set (i := 4) hnd rfl (Or.inr rfl) (pe_op op_add_str (pv 0) (pv 3))) (pss_one (ps_if (pt_not (pt_val (pe_anyX (N := ["told", "longer"]) (js := [none, some 4]) hr rfl rfl T.z_any TB rfl (gxS_by (n := s.heap.objs.size + 1) (d := defScope s_free_word) rfl (by decide +kernel)) (capOk_by (d := defScope s_free_word) (dN := N_free_word) rfl rfl rfl (by decide +kernel)) (pi_list (pv 1)) (fun _ _ _ _ _ => (pg_name (i := 0) (show List.Nodup (["told", "longer"] : List Str) by decide) rfl (Or.inl rfl))) (fun _ _ _ _ _ => pts_nil) (fun _ _ _ _ _ => (pe_m1 PySem.F.slot_str_startswith PySem.F.type_str_startswith mt_startswith (pv 0) (pv 1))) (by intro _; rfl)))) (pss_one (ps_ret (pe_lst (pa_cons (pv 4) pa_nil)))) pss_nil)))) (pss_one (ps_ret (pe_lst pa_nil)))), runX (K := K) (CA := CA) (Tb := Tb) (n := 2) (m := 3) (body := b_free_word) rfl rfl (sim_seq (sim_for (sim_wS (simR_of sim_str)) sim_gName (sim_seq (sim_set (sim_op sim_varR sim_varR simO_addS)) (sim_ifS (sim_notT (sim_b (sim_gen hP (sim_wL sim_varR) sim_gName sim_yes (sim_st sim_varR sim_varR)))) (sim_retN (sim_lst (sim_cons sim_var sim_nil))) sim_next))) (sim_retN (sim_lst sim_nil))) h⟩
def b_candidates : XS := (xSeq (xSet 4 (xDn (xLc (x1 (xDn (xCall x_patterns_of (agCons (gD (xDn (xCall x_difference (agCons (gD (xVar 0)) (agCons (gD (xVar 1)) agNil))))) agNil))) listD) (gTupX 2 (gConsX (gSet 2) (gConsX (gSet 3) gNilX))) xYes (xVar 3) [2, 3]))) (xSeq (xSetN 5 (x1 (xCons (xVarR 4) xNil) fun ds => (cList ds).map .lst)) (xSeq (xFor (x1 (xDn (x2 (xDn (xLst (xCons (xC (.str "")) xNil))) (xVarR 4) fun d e => (fCat d e).map .lst)) listD) (gSet 3) (xIte (xB (x2 (x1 (xCons (xVarR 3) xNil) cLenS) (xC (.int 12)) fLt)) (xExt 5 [] (xDn (xCall x_free_word (agCons (gD (xVar 3)) (agCons (gD (xVar 4)) agNil))))) xNext)) (xRetN (xLend 5 (x1 (xCons (xVarR 5) xNil) fun ds => (cSortSet ds).map .lst))))))
def x_candidates : Env → Option (Tr × Env) := callX 2 4 b_candidates
theorem ok_candidates {P : Program} {w : World} {K : PySem.W.Frag} {mg : Str → Option Value} {base : Heap} {A : Nat → Addr} {D : Nat → FuncData} {Tb : List Tbl2} {CA : Str → Addr} (T : Txt K mg A D) {P_free_word : Addr} (TF_free_word : TbF base mg (D 6) P_free_word) (hP_free_word : (P_free_word, none) ∈ Tb) : FnOk P w K mg base CX0 7 (A 4) (D 4) ["one", "other"] (PX K CA Tb x_candidates) := by
  refine T.F_candidates.ok (k := 6) sc_candidates (PX.len rfl) (fun cdv A' outer s H vs Q E hr h => ?_)
  have hnd := sc_candidates.nd
  obtain ⟨_, hLONGEST⟩ := T.c_LONGEST
  have G_patterns_of := ok_patterns_of (P := P) (w := w) (base := base) (Tb := Tb) (CA := CA) T
  have G_difference := ok_difference (P := P) (w := w) (base := base) (Tb := Tb) (CA := CA) T
  have G_free_word := ok_free_word (P := P) (w := w) (base := base) (Tb := Tb) (CA := CA) T TF_free_word hP_free_word
  exact ⟨_, (pss_cons (ps_setLc (i := 4) (own := [("_", 2), ("word", 3)]) rfl hnd rfl rfl (sw_true rfl rfl rfl (by decide +kernel)) (pi_list (pe_call G_patterns_of (hr.mono (by first | decide | omega)) rfl T.m_patterns_of T.F_patterns_of.kp T.b_patterns_of .nil pass0 (pa_cons (pe_call G_difference (hr.mono (by first | decide | omega)) rfl T.m_difference T.F_difference.kp T.b_difference .nil pass0 (pa_cons (pv 0) (pa_cons (pv 1) pa_nil))) pa_nil))) (blkOk_by (own := [("_", 2), ("word", 3)]) (N := N_candidates) (sc := defScope s_candidates) (by decide +kernel)) (fun _ _ _ _ _ => (pg_tup rfl (pgs_cons (pg_name (i := 2) hnd rfl (Or.inl rfl)) (pgs_cons (pg_name (i := 3) hnd rfl (Or.inl rfl)) pgs_nil)))) (fun _ _ _ _ _ => pts_nil) (fun _ _ _ _ _ => (pv 3))) (pss_cons (ps_set (i := 5) hnd rfl (Or.inl rfl) (pe_callTy call_list_of rfl T.z_list (by decide +kernel) (pa_cons (pv 4) pa_nil))) (pss_cons (ps_for PassesOwn.never rfl (pi_list (pe_op op_cat (pe_lst (pa_cons pe_str pa_nil)) (pv 4))) (pg_name (i := 3) hnd rfl (Or.inl rfl)) (pss_one (ps_if (pt_cmpR op_lt (pe_callB call_len_str rfl T.z_len PySem.boot_len (pa_cons (pv 3) pa_nil)) (pe_glob (v := V.int _) rfl hLONGEST ⟨_, rfl⟩) (nomark _)) (pss_one (ps_expr (pe_bm PySem.F.plainAttrs_list PySem.F.slot_list_extend PySem.F.type_list_extend mt_extend (pv 5) (pa_cons (pe_call G_free_word (hr.mono (by first | decide | omega)) rfl T.m_free_word T.F_free_word.kp T.b_free_word .nil pass0 (pa_cons (pv 3) (pa_cons (pv 4) pa_nil))) pa_nil)))) pss_nil))) (pss_one (ps_ret (pe_callB (cr_sortS1 rfl hr.units) rfl T.z_sorted (by decide +kernel) (pa_cons (pe_callTy (cr_setS rfl) rfl T.z_set (by decide +kernel) (pa_cons (pv 5) pa_nil)) pa_nil))))))), runX (K := K) (CA := CA) (Tb := Tb) (n := 2) (m := 4) (body := b_candidates) rfl rfl (sim_seq (sim_set (simD_of (sim_lc (sim_wL (simR_of (simD_of (sim_call (sim_agCons (sim_gD (simD_of (sim_call (sim_agCons (sim_gD sim_var) (sim_agCons (sim_gD sim_var) sim_agNil))))) sim_agNil))))) (sim_gTup (sim_gConsX sim_gName (sim_gConsX sim_gName sim_gNilX))) sim_yes sim_var (by decide)))) (sim_seq (sim_setN (sim_cbN (sim_consR sim_varR sim_nilR) simC_list)) (sim_seq (sim_for (sim_wL (simR_of (simD_of (sim_opN (simR_of (simD_of (sim_lst (sim_cons sim_str sim_nil)))) sim_varR simO_cat)))) sim_gName (sim_ifS (sim_test (sim_op (simR_of (sim_cb (sim_consR sim_varR sim_nilR) simC_lenS)) (simR_of sim_int) simO_b0)) (sim_ext sim_pvar (simD_of (sim_call (sim_agCons (sim_gD sim_var) (sim_agCons (sim_gD sim_var) sim_agNil))))) sim_next)) (sim_retN (sim_lendN (i := 5) (sim_sortSet (sim_consR sim_varR sim_nilR))))))) h⟩
def b__law_patterns (xr : Env → Option (Tr × Env)) : XS := (xSeq (xIte (xB (x2 (x2 (xVarR 0) (xC (.int 0)) fIxT) (xC (.str "row")) fEq)) (xRetN (x1 (xCons (x2 (xVarR 0) (xC (.int 1)) fIxT) xNil) fun ds => (cList ds).map .lst)) xNext) (xSeq (xIte (xB (x2 (x2 (xVarR 0) (xC (.int 0)) fIxT) (xC (.str "not")) fEq)) (xRetN (xCall xr (agCons (gD (x2 (xVarR 0) (xC (.int 1)) fIxT)) agNil))) xNext) (xSeq (xSetN 1 (xLst xNil)) (xSeq (xIte (xB (x2 (x2 (xVarR 0) (xC (.int 0)) fIxT) (xDn (xLst (xCons (xC (.str "and")) (xCons (xC (.str "or")) xNil)))) (fInD false))) (xFor (x1 (x2 (xVarR 0) (xC (.int 1)) fIxT) tupD) (gSet 2) (xSetN 1 (xLend 1 (x2 (xVarR 1) (xDn (xCall xr (agCons (gD (xVar 2)) agNil))) fun d e => (fCat d e).map .lst)))) xNext) (xRetN (xMove 1))))))
def xr__law_patterns : Nat → Env → Option (Tr × Env)
  | 0 => fun _ => none
  | k + 1 => callX 1 2 (b__law_patterns (xr__law_patterns k))
def x__law_patterns : Env → Option (Tr × Env) := xr__law_patterns 8
theorem okr__law_patterns {P : Program} {w : World} {K : PySem.W.Frag} {mg : Str → Option Value} {base : Heap} {A : Nat → Addr} {D : Nat → FuncData} {Tb : List Tbl2} {CA : Str → Addr} (T : Txt K mg A D) : ∀ k, FnOk P w K mg base CX0 (1 + k) (A 15) (D 15) ["question"] (PX K CA Tb (xr__law_patterns k))
  | 0 => by
    have no : ∀ vs H Q E, ¬ PX K CA Tb (xr__law_patterns 0) vs H Q E := fun vs H Q E h => by
      obtain ⟨_, _, _, _, _, _, _, h1, _⟩ := h
      cases h1
    exact ⟨fun vs H Q E h => absurd h (no vs H Q E), fun A outer s H args us vs Q E _ _ _ _ h => absurd h (no vs H Q E)⟩
  | k + 1 => by
    have G__law_patterns := okr__law_patterns (P := P) (w := w) (base := base) (Tb := Tb) (CA := CA) T k
    refine T.F__law_patterns.ok (k := 1 + k) sc__law_patterns (PX.len rfl) (fun cdv A' outer s H vs Q E hr h => ?_)
    have hnd := sc__law_patterns.nd
    exact ⟨_, (pss_cons (ps_if (pt_cmpR op_eq (pe_ix (r := rIxT K) ix_tup (pv 0) pe_int (fun _ _ => rfl)) pe_str (nomark _)) (pss_one (ps_ret (pe_callTy call_list_of rfl T.z_list (by decide +kernel) (pa_cons (pe_ix (r := rIxT K) ix_tup (pv 0) pe_int (fun _ _ => rfl)) pa_nil)))) pss_nil) (pss_cons (ps_if (pt_cmpR op_eq (pe_ix (r := rIxT K) ix_tup (pv 0) pe_int (fun _ _ => rfl)) pe_str (nomark _)) (pss_one (ps_ret (pe_call G__law_patterns (hr.mono (by first | decide | omega)) rfl T.m__law_patterns T.F__law_patterns.kp T.b__law_patterns .nil pass0 (pa_cons (pe_ix (r := rIxT K) ix_tup (pv 0) pe_int (fun _ _ => rfl)) pa_nil)))) pss_nil) (pss_cons (ps_set (i := 1) hnd rfl (Or.inl rfl) (pe_lst pa_nil)) (pss_cons (ps_if (pt_cmpR (op_inD (units65 hr)) (pe_ix (r := rIxT K) ix_tup (pv 0) pe_int (fun _ _ => rfl)) (pe_lst (pa_cons pe_str (pa_cons pe_str pa_nil))) (by rfl)) (pss_one (ps_for PassesOwn.never rfl (pi_tup (pe_ix (r := rIxT K) ix_tup (pv 0) pe_int (fun _ _ => rfl))) (pg_name (i := 2) hnd rfl (Or.inl rfl)) (pss_one (ps_set (i := 1) hnd rfl (Or.inl rfl) (pe_op op_cat (pv 1) (pe_call G__law_patterns (hr.mono (by first | decide | omega)) rfl T.m__law_patterns T.F__law_patterns.kp T.b__law_patterns .nil pass0 (pa_cons (pv 2) pa_nil))))))) pss_nil) (pss_one (ps_ret (pv 1))))))), runX (K := K) (CA := CA) (Tb := Tb) (n := 1) (m := 2) (body := b__law_patterns (xr__law_patterns k)) rfl rfl (sim_seq (sim_ifS (sim_test (sim_op (simR_of (sim_op sim_varR (simR_of sim_int) simO_ixT)) (simR_of sim_str) simO_eq)) (sim_retN (sim_cbN (sim_consR (simR_of (sim_op sim_varR (simR_of sim_int) simO_ixT)) sim_nilR) simC_list)) sim_next) (sim_seq (sim_ifS (sim_test (sim_op (simR_of (sim_op sim_varR (simR_of sim_int) simO_ixT)) (simR_of sim_str) simO_eq)) (sim_retN (sim_call (sim_agCons (sim_gD (sim_op sim_varR (simR_of sim_int) simO_ixT)) sim_agNil))) sim_next) (sim_seq (sim_setN (sim_lst sim_nil)) (sim_seq (sim_ifS (sim_test (sim_op (simR_of (sim_op sim_varR (simR_of sim_int) simO_ixT)) (simR_of (simD_of (sim_lst (sim_cons sim_str (sim_cons sim_str sim_nil))))) simO_inD)) (sim_for (sim_wT (simR_of (sim_op sim_varR (simR_of sim_int) simO_ixT))) sim_gName (sim_setN (sim_lendN (i := 1) (sim_opN sim_varR (simR_of (simD_of (sim_call (sim_agCons (sim_gD sim_var) sim_agNil)))) simO_cat)))) sim_next) (sim_retN sim_move))))) h⟩
theorem ok__law_patterns {P : Program} {w : World} {K : PySem.W.Frag} {mg : Str → Option Value} {base : Heap} {A : Nat → Addr} {D : Nat → FuncData} {Tb : List Tbl2} {CA : Str → Addr} (T : Txt K mg A D) : FnOk P w K mg base CX0 9 (A 15) (D 15) ["question"] (PX K CA Tb x__law_patterns) := okr__law_patterns T 8
def b__law_is_new : XS := (xSeq (xFor (x1 (xVarR 1) listD) (gSet 2) (xIte (xB (x2 (x3 (x2 (xVarR 2) (xC (.int 1)) fIxT) xNoP (xAtP (x1 (xCons (xVarR 0) xNil) cLenS)) slS) (xVarR 0) fEq)) (xRet (xC (.bool false))) xNext)) (xRet (xC (.bool true))))
def x__law_is_new : Env → Option (Tr × Env) := callX 2 1 b__law_is_new
theorem ok__law_is_new {P : Program} {w : World} {K : PySem.W.Frag} {mg : Str → Option Value} {base : Heap} {A : Nat → Addr} {D : Nat → FuncData} {Tb : List Tbl2} {CA : Str → Addr} (T : Txt K mg A D) : FnOk P w K mg base CX0 1 (A 16) (D 16) ["word", "patterns"] (PX K CA Tb x__law_is_new) := by
  refine T.F__law_is_new.ok (k := 0) sc__law_is_new (PX.len rfl) (fun cdv A' outer s H vs Q E hr h => ?_)
  have hnd := sc__law_is_new.nd
  exact ⟨_, (pss_cons (ps_for PassesOwn.never rfl (pi_list (pv 1)) (pg_name (i := 2) hnd rfl (Or.inl rfl)) (pss_one (ps_if (pt_cmpR op_eq (pe_slice sl_str (pe_ix (r := rIxT K) ix_tup (pv 2) pe_int (fun _ _ => rfl)) po_none (po_some (pe_callB call_len_str rfl T.z_len PySem.boot_len (pa_cons (pv 0) pa_nil)))) (pv 0) (nomark _)) (pss_one (ps_ret pe_bl)) pss_nil))) (pss_one (ps_ret pe_bl))), runX (K := K) (CA := CA) (Tb := Tb) (n := 2) (m := 1) (body := b__law_is_new) rfl rfl (sim_seq (sim_for (sim_wL sim_varR) sim_gName (sim_ifS (sim_test (sim_op (simR_of (sim_slS (simR_of (sim_op sim_varR (simR_of sim_int) simO_ixT)) sim_noP (sim_atP (simR_of (sim_cb (sim_consR sim_varR sim_nilR) simC_lenS))))) sim_varR simO_eq)) (sim_ret sim_bl) sim_next)) (sim_ret sim_bl)) h⟩
def b__law_fits : XS := (xSeq (xIte (xB (x2 (x2 (xVarR 1) (xC (.int 0)) fIxT) (xC (.str "start")) fEq)) (xRet (x2 (x3 (xVarR 0) xNoP (xAtP (x1 (xCons (x2 (xVarR 1) (xC (.int 1)) fIxT) xNil) cLenS)) slS) (x2 (xVarR 1) (xC (.int 1)) fIxT) fEq)) xNext) (xRet (x2 (xVarR 0) (x2 (xVarR 1) (xC (.int 1)) fIxT) fEq)))
def x__law_fits : Env → Option (Tr × Env) := callX 2 0 b__law_fits
theorem ok__law_fits {P : Program} {w : World} {K : PySem.W.Frag} {mg : Str → Option Value} {base : Heap} {A : Nat → Addr} {D : Nat → FuncData} {Tb : List Tbl2} {CA : Str → Addr} (T : Txt K mg A D) : FnOk P w K mg base CX0 1 (A 14) (D 14) ["word", "pattern"] (PX K CA Tb x__law_fits) := by
  refine T.F__law_fits.ok (k := 0) sc__law_fits (PX.len rfl) (fun cdv A' outer s H vs Q E hr h => ?_)
  have hnd := sc__law_fits.nd
  exact ⟨_, (pss_cons (ps_if (pt_cmpR op_eq (pe_ix (r := rIxT K) ix_tup (pv 1) pe_int (fun _ _ => rfl)) pe_str (nomark _)) (pss_one (ps_ret (pe_cmpR op_eq (pe_slice sl_str (pv 0) po_none (po_some (pe_callB call_len_str rfl T.z_len PySem.boot_len (pa_cons (pe_ix (r := rIxT K) ix_tup (pv 1) pe_int (fun _ _ => rfl)) pa_nil)))) (pe_ix (r := rIxT K) ix_tup (pv 1) pe_int (fun _ _ => rfl)) (nomark _)))) pss_nil) (pss_one (ps_ret (pe_cmpR op_eq (pv 0) (pe_ix (r := rIxT K) ix_tup (pv 1) pe_int (fun _ _ => rfl)) (nomark _))))), runX (K := K) (CA := CA) (Tb := Tb) (n := 2) (m := 0) (body := b__law_fits) rfl rfl (sim_seq (sim_ifS (sim_test (sim_op (simR_of (sim_op sim_varR (simR_of sim_int) simO_ixT)) (simR_of sim_str) simO_eq)) (sim_ret (sim_op (simR_of (sim_slS sim_varR sim_noP (sim_atP (simR_of (sim_cb (sim_consR (simR_of (sim_op sim_varR (simR_of sim_int) simO_ixT)) sim_nilR) simC_lenS))))) (simR_of (sim_op sim_varR (simR_of sim_int) simO_ixT)) simO_eq)) sim_next) (sim_ret (sim_op sim_varR (simR_of (sim_op sim_varR (simR_of sim_int) simO_ixT)) simO_eq))) h⟩
def b__law_candidates : XS := (xSeq (xSet 3 (xC (.str "0123456789abcdefghijklmnopqrstuvwxyz"))) (xSeq (xSet 4 (xDn (x2 (xDn (xCall x__law_patterns (agCons (gD (xVar 0)) agNil))) (xDn (xCall x__law_patterns (agCons (gD (xVar 1)) agNil))) fun d e => (fCat d e).map .lst))) (xSeq (xSetN 5 (xLc (x1 (xVarR 4) listD) (gSet 2) xYes (x2 (xVarR 2) (xC (.int 1)) fIxT) [2])) (xSeq (xFor (x1 (xVarR 4) listD) (gSet 2) (xIte (xB (x2 (x1 (xCons (x2 (xVarR 2) (xC (.int 1)) fIxT) xNil) cLenS) (xC (.int 12)) fLt)) (xFor (x1 (xVarR 3) signsD) (gSet 6) (xIte (xB (xDn (xCall x__law_is_new (agCons (gD (x2 (x2 (xVarR 2) (xC (.int 1)) fIxT) (xVarR 6) fAddS)) (agCons (gD (xVar 4)) agNil))))) (xSeq (xApp 5 [] (x2 (x2 (xVarR 2) (xC (.int 1)) fIxT) (xVarR 6) fAddS)) xBrk) xNext)) xNext)) (xSeq (xFor (x1 (xVarR 3) signsD) (gSet 6) (xSeq (xSet 7 (xDn (xLc (x1 (xVarR 4) listD) (gSet 2) (xB (xDn (xCall x__law_fits (agCons (gD (xVar 6)) (agCons (gD (xVar 2)) agNil))))) (xVar 2) [2]))) (xIte (xAndT (xB (x2 (x1 (xCons (xVarR 7) xNil) cLen) (xC (.int 0)) fEq)) (xB (xDn (xCall x__law_is_new (agCons (gD (xVar 6)) (agCons (gD (xVar 4)) agNil)))))) (xSeq (xApp 5 [] (xVar 6)) xBrk) xNext))) (xSeq (xSetN 8 (xLst xNil)) (xSeq (xLendS 5 (xFor (x1 (xDn (x1 (xCons (xVarR 5) xNil) fun ds => (cSortT ds).map .lst)) listD) (gSet 9) (xIte (xLend 8 (xB (x2 (xVarR 9) (xVarR 8) (fInD true)))) (xApp 8 [] (xVar 9)) xNext))) (xRetN (xMove 8)))))))))
def x__law_candidates : Env → Option (Tr × Env) := callX 2 8 b__law_candidates
theorem ok__law_candidates {P : Program} {w : World} {K : PySem.W.Frag} {mg : Str → Option Value} {base : Heap} {A : Nat → Addr} {D : Nat → FuncData} {Tb : List Tbl2} {CA : Str → Addr} (T : Txt K mg A D) : FnOk P w K mg base CX0 10 (A 17) (D 17) ["one", "other"] (PX K CA Tb x__law_candidates) := by
  refine T.F__law_candidates.ok (k := 9) sc__law_candidates (PX.len rfl) (fun cdv A' outer s H vs Q E hr h => ?_)
  have hnd := sc__law_candidates.nd
  have G__law_patterns := ok__law_patterns (P := P) (w := w) (base := base) (Tb := Tb) (CA := CA) T
  have G__law_is_new := ok__law_is_new (P := P) (w := w) (base := base) (Tb := Tb) (CA := CA) T
  have G__law_fits := ok__law_fits (P := P) (w := w) (base := base) (Tb := Tb) (CA := CA) T
  exact ⟨_, (pss_cons (ps_set (i := 3) hnd rfl (Or.inl rfl) pe_str) (pss_cons (ps_set (i := 4) hnd rfl (Or.inl rfl) (pe_op op_cat (pe_call G__law_patterns (hr.mono (by first | decide | omega)) rfl T.m__law_patterns T.F__law_patterns.kp T.b__law_patterns .nil pass0 (pa_cons (pv 0) pa_nil)) (pe_call G__law_patterns (hr.mono (by first | decide | omega)) rfl T.m__law_patterns T.F__law_patterns.kp T.b__law_patterns .nil pass0 (pa_cons (pv 1) pa_nil)))) (pss_cons (ps_setLc (i := 5) (own := [("pattern", 2)]) rfl hnd rfl rfl (sw_true rfl rfl rfl (by decide +kernel)) (pi_list (pv 4)) (blkOk_by (own := [("pattern", 2)]) (N := N__law_candidates) (sc := defScope s__law_candidates) (by decide +kernel)) (fun _ _ _ _ _ => (pg_name (i := 2) hnd rfl (Or.inl rfl))) (fun _ _ _ _ _ => pts_nil) (fun _ _ _ _ _ => (pe_ix (r := rIxT K) ix_tup (pv 2) pe_int (fun _ _ => rfl)))) (pss_cons (ps_for PassesOwn.never rfl (pi_list (pv 4)) (pg_name (i := 2) hnd rfl (Or.inl rfl)) (pss_one (ps_if (pt_cmpR op_lt (pe_callB call_len_str rfl T.z_len PySem.boot_len (pa_cons (pe_ix (r := rIxT K) ix_tup (pv 2) pe_int (fun _ _ => rfl)) pa_nil)) pe_int (nomark _)) (pss_one (ps_for PassesOwn.never rfl (pi_str (pv 3)) (pg_name (i := 6) hnd rfl (Or.inr rfl)) (pss_one (ps_if (pt_val (pe_call G__law_is_new (hr.mono (by first | decide | omega)) rfl T.m__law_is_new T.F__law_is_new.kp T.b__law_is_new .nil pass0 (pa_cons (pe_op op_add_str (pe_ix (r := rIxT K) ix_tup (pv 2) pe_int (fun _ _ => rfl)) (pv 6)) (pa_cons (pv 4) pa_nil)))) (pss_cons (ps_expr (pe_bm PySem.F.plainAttrs_list PySem.F.slot_list_append PySem.F.type_list_append mt_append (pv 5) (pa_cons (pe_op op_add_str (pe_ix (r := rIxT K) ix_tup (pv 2) pe_int (fun _ _ => rfl)) (pv 6)) pa_nil))) (pss_one ps_break)) pss_nil)))) pss_nil))) (pss_cons (ps_for PassesOwn.never rfl (pi_str (pv 3)) (pg_name (i := 6) hnd rfl (Or.inr rfl)) (pss_cons (ps_setLc (i := 7) (own := [("pattern", 2)]) rfl hnd rfl rfl (sw_true rfl rfl rfl (by decide +kernel)) (pi_list (pv 4)) (blkOk_by (own := [("pattern", 2)]) (N := N__law_candidates) (sc := defScope s__law_candidates) (by decide +kernel)) (fun _ _ _ _ _ => (pg_name (i := 2) hnd rfl (Or.inl rfl))) (fun _ _ _ _ _ => (pts_one (pt_val (pe_call G__law_fits (hr.mono (by first | decide | omega)) rfl T.m__law_fits T.F__law_fits.kp T.b__law_fits .nil pass0 (pa_cons (pv 6) (pa_cons (pv 2) pa_nil)))))) (fun _ _ _ _ _ => (pv 2))) (pss_one (ps_if (PW.pt (pw_and (pt_cmpR op_eq (pe_callB call_len_seq rfl T.z_len PySem.boot_len (pa_cons (pv 7) pa_nil)) pe_int (nomark _)) (pw_and1 (pt_val (pe_call G__law_is_new (hr.mono (by first | decide | omega)) rfl T.m__law_is_new T.F__law_is_new.kp T.b__law_is_new .nil pass0 (pa_cons (pv 6) (pa_cons (pv 4) pa_nil))))))) (pss_cons (ps_expr (pe_bm PySem.F.plainAttrs_list PySem.F.slot_list_append PySem.F.type_list_append mt_append (pv 5) (pa_cons (pv 6) pa_nil))) (pss_one ps_break)) pss_nil)))) (pss_cons (ps_set (i := 8) hnd rfl (Or.inl rfl) (pe_lst pa_nil)) (pss_cons (ps_for PassesOwn.never rfl (pi_list (pe_callB (cr_sortQ hr.units) rfl T.z_sorted (by decide +kernel) (pa_cons (pv 5) pa_nil))) (pg_name (i := 9) hnd rfl (Or.inl rfl)) (pss_one (ps_if (pt_cmpR (op_notInD (units65 hr)) (pv 9) (pv 8) (by rfl)) (pss_one (ps_expr (pe_bm PySem.F.plainAttrs_list PySem.F.slot_list_append PySem.F.type_list_append mt_append (pv 8) (pa_cons (pv 9) pa_nil)))) pss_nil))) (pss_one (ps_ret (pv 8)))))))))), runX (K := K) (CA := CA) (Tb := Tb) (n := 2) (m := 8) (body := b__law_candidates) rfl rfl (sim_seq (sim_set sim_str) (sim_seq (sim_set (simD_of (sim_opN (simR_of (simD_of (sim_call (sim_agCons (sim_gD sim_var) sim_agNil)))) (simR_of (simD_of (sim_call (sim_agCons (sim_gD sim_var) sim_agNil)))) simO_cat))) (sim_seq (sim_setN (sim_lc (sim_wL sim_varR) sim_gName sim_yes (sim_op sim_varR (simR_of sim_int) simO_ixT) (by decide))) (sim_seq (sim_for (sim_wL sim_varR) sim_gName (sim_ifS (sim_test (sim_op (simR_of (sim_cb (sim_consR (simR_of (sim_op sim_varR (simR_of sim_int) simO_ixT)) sim_nilR) simC_lenS)) (simR_of sim_int) simO_b0)) (sim_for (sim_wS sim_varR) sim_gName (sim_ifS (sim_b (simD_of (sim_call (sim_agCons (sim_gD (sim_op (simR_of (sim_op sim_varR (simR_of sim_int) simO_ixT)) sim_varR simO_addS)) (sim_agCons (sim_gD sim_var) sim_agNil))))) (sim_seq (sim_app sim_pvar (sim_op (simR_of (sim_op sim_varR (simR_of sim_int) simO_ixT)) sim_varR simO_addS)) sim_brk) sim_next)) sim_next)) (sim_seq (sim_for (sim_wS sim_varR) sim_gName (sim_seq (sim_set (simD_of (sim_lc (sim_wL sim_varR) sim_gName (sim_b (simD_of (sim_call (sim_agCons (sim_gD sim_var) (sim_agCons (sim_gD sim_var) sim_agNil))))) sim_var (by decide)))) (sim_ifS (sim_andT (sim_test (sim_op (simR_of (sim_cb (sim_consR sim_varR sim_nilR) simC_len)) (simR_of sim_int) simO_eq)) (sim_b (simD_of (sim_call (sim_agCons (sim_gD sim_var) (sim_agCons (sim_gD sim_var) sim_agNil)))))) (sim_seq (sim_app sim_pvar sim_var) sim_brk) sim_next))) (sim_seq (sim_setN (sim_lst sim_nil)) (sim_seq (sim_lendS (i := 5) (sim_for (sim_wL (simR_of (simD_of (sim_cbN (sim_consR sim_varR sim_nilR) simC_sortT)))) sim_gName (sim_ifS (sim_lendT (i := 8) (sim_test (sim_op sim_varR sim_varR simO_notInD))) (sim_app sim_pvar sim_var) sim_next))) (sim_retN sim_move)))))))) h⟩
end
end Q
/-! ### questions_in, by its older promise -/
namespace Q
noncomputable section
open PySem L2 Y
def xQuests : Env → Option (Tr × Env)
  | [a] => match a.rs? with
    | some d => match quOf 8 d with
      | some q => if decide ((PP.subsR q).length ≤ 1000000) = true then some (.lst ((PP.subsR q).map PP.encU), [.un]) else none
      | none => none
    | none => none
  | _ => none
section
variable {K : PySem.W.Frag} {CA : Str → Addr} {Tb : List Tbl2} {H0 M0 H M H' M' : Hp} {pin : Nat → V × List Addr} {env : Env} {fps : List (List Addr)} {σ : L2.St}
theorem quests_of {vs : List V} {Q : VK} {E : XK} (h : PX K CA Tb xQuests vs H Q E) : PP.ySubs K vs H Q E := by
  obtain ⟨H0, pin, M, as, envf, r, fps, h1, h2, k, q⟩ := h
  unfold xQuests at h1
  split at h1
  case h_2 => cases h1
  rename_i sa
  split at h1
  case h_2 => cases h1
  rename_i d ea
  split at h1
  case h_2 => cases h1
  rename_i qq hq
  split at h1
  case isFalse => cases h1
  rename_i hs
  cases h1
  rw [decide_eq_true_iff] at hs
  have eq1 := quOf_ok 8 d qq hq
  have iq : PP.Imm d := by rw [← eq1]; exact PP.imm_encU qq
  have nl : notL d = true := by cases iq <;> rfl
  obtain ⟨v, M1, fps1, g1, k1, s1, dv⟩ := rs_dqP k (i := 0) rfl ea nl iq
  have hl := k.sls.le
  rw [List.length_map] at hl
  match vs, hl with
  | [x], _ =>
    cases g1
    have cl : clean 1 [sa] = [.un] := by
      cases sa with
      | arg t => cases ea
      | _ => rfl
    refine ⟨v, qq, M1, rfl, k1.sub, by rw [eq1]; exact dv, hs, fun p H' sH hp hv => ?_⟩
    obtain ⟨us, hus, hds⟩ := hv
    have kx : Ok K CA Tb H0 M pin [sa] fps1 ([v].map some) H' M1 := k1.extE ⟨sH, Same.refl M1, fun a u e => sH a u (k1.sub a u e), fun _ _ e => .inl e⟩
    have dx : DqAll K M1 us ((PP.subsR qq).map PP.encU) := imm_dqsP hds fun d hd => by
      obtain ⟨t, _, rfl⟩ := List.mem_map.mp hd
      exact PP.imm_encU t
    have a2 : TrOk K CA M1 H' (.lst ((PP.subsR qq).map PP.encU)) (.ref p) [p] := .lst hus dx
    have a3 : Fresh H0 M1 fps1 [p] := k1.fresh1 hp (none_of k1.sub hp)
    have kk := pin_of (vs := [v]) k kx (fun i v h _ => h2 i v h)
    rw [show ([v] : List V).length = 1 from rfl, cl] at kk
    have hl2 : ([sa] : Env).length = fps1.length := by rw [kx.sls.le, kx.sls.lf]
    exact q _ _ M1 _ [p] kk a2 ⟨a3.1, fun z hz => ⟨(a3.2 z hz).1, (a3.2 z hz).2.1, fun zz => (a3.2 z hz).2.2 ((cleanF_sub _ _ _ hl2).subset zz)⟩⟩
end
end
end Q
namespace Q
noncomputable section
open PySem L2 Y
def x_questions_in : Env → Option (Tr × Env) := xQuests
theorem ok_questions_in {P : Program} {w : World} {K : PySem.W.Frag} {mg : Str → Option Value} {base : Heap} {A : Nat → Addr} {D : Nat → FuncData} {Tb : List Tbl2} {CA : Str → Addr} (T : Txt K mg A D) : FnOk P w K mg base CX0 2 (A 1) (D 1) ["question"] (PX K CA Tb x_questions_in) := (PP.ok_questions_in T).imp fun _ _ _ _ h => quests_of h
def b_is_simple : XS := (xRet (xGen [none] false (x1 (xDn (xCall x_questions_in (agCons (gD (xVar 0)) agNil))) listD) (gSet 0) (xB (x2 (x2 (xVarR 0) (xC (.int 0)) fIxT) (xC (.str "row")) fEq)) (x2 (x1 (xCons (x2 (xVarR 0) (xC (.int 1)) fIxT) xNil) cLen) (xC (.int 1)) fEq)))
def x_is_simple : Env → Option (Tr × Env) := callX 1 1 b_is_simple
theorem ok_is_simple {P : Program} {w : World} {K : PySem.W.Frag} {mg : Str → Option Value} {base : Heap} {A : Nat → Addr} {D : Nat → FuncData} {Tb : List Tbl2} {CA : Str → Addr} (T : Txt K mg A D) {P_is_simple : Addr} (TF_is_simple : TbF base mg (D 3) P_is_simple) (hP_is_simple : (P_is_simple, none) ∈ Tb) : FnOk P w K mg base CX0 8 (A 3) (D 3) ["question"] (PX K CA Tb x_is_simple) := by
  obtain ⟨c, hcode, TB0⟩ := TF_is_simple
  have TB := tabB_of TB0
  have hP := hP_is_simple
  refine fun_okC (k := 7) T.F_is_simple hcode sc_is_simple (PX.len rfl) (fun A' outer s H vs Q E hr h => ?_)
  have hnd := sc_is_simple.nd
  have G_questions_in := ok_questions_in (P := P) (w := w) (base := base) (Tb := Tb) (CA := CA) T
  exact ⟨_, (pss_one (ps_ret (pe_allX (N := ["part"]) (js := [none]) hr rfl rfl T.z_all TB rfl (gxS_by (n := s.heap.objs.size + 1) (d := defScope s_is_simple) rfl (by decide +kernel)) (capOk_by (d := defScope s_is_simple) (dN := N_is_simple) rfl rfl rfl (by decide +kernel)) (pi_list (pe_call G_questions_in (hr.mono (by first | decide | omega)) rfl T.m_questions_in T.F_questions_in.kp T.b_questions_in .nil pass0 (pa_cons (pv 0) pa_nil))) (fun _ _ _ _ _ => (pg_name (i := 0) (show List.Nodup (["part"] : List Str) by decide) rfl (Or.inl rfl))) (fun _ _ _ _ _ => (pts_one (pt_cmpR op_eq (pe_ix (r := rIxT K) ix_tup (pv 0) pe_int (fun _ _ => rfl)) pe_str (nomark _)))) (fun _ _ _ _ _ => (pe_cmpR op_eq (pe_callB call_len_seq rfl T.z_len PySem.boot_len (pa_cons (pe_ix (r := rIxT K) ix_tup (pv 0) pe_int (fun _ _ => rfl)) pa_nil)) pe_int (nomark _))) (by intro _; rfl) (by decide +kernel)))), runX (K := K) (CA := CA) (Tb := Tb) (n := 1) (m := 1) (body := b_is_simple) rfl rfl (sim_ret (sim_gen hP (sim_wL (simR_of (simD_of (sim_call (sim_agCons (sim_gD sim_var) sim_agNil))))) sim_gName (sim_test (sim_op (simR_of (sim_op sim_varR (simR_of sim_int) simO_ixT)) (simR_of sim_str) simO_eq)) (sim_op (simR_of (sim_cb (sim_consR (simR_of (sim_op sim_varR (simR_of sim_int) simO_ixT)) sim_nilR) simC_len)) (simR_of sim_int) simO_eq))) h⟩
def b__law_simple (xr : Env → Option (Tr × Env)) : XS := (xSeq (xIte (xB (x2 (x2 (xVarR 0) (xC (.int 0)) fIxT) (xC (.str "row")) fEq)) (xRet (x2 (x1 (xCons (x2 (xVarR 0) (xC (.int 1)) fIxT) xNil) cLen) (xC (.int 1)) fEq)) xNext) (xSeq (xIte (xB (x2 (x2 (xVarR 0) (xC (.int 0)) fIxT) (xC (.str "not")) fEq)) (xRetN (xCall xr (agCons (gD (x2 (xVarR 0) (xC (.int 1)) fIxT)) agNil))) xNext) (xSeq (xIte (xB (x2 (x2 (xVarR 0) (xC (.int 0)) fIxT) (xC (.str "all")) fEq)) (xRet (xC (.bool true))) xNext) (xRet (x2 (x1 (xCons (xDn (xLc (x1 (x2 (xVarR 0) (xC (.int 1)) fIxT) tupD) (gSet 1) (xNotT (xB (xDn (xCall xr (agCons (gD (xVar 1)) agNil))))) (xVar 1) [1])) xNil) cLen) (xC (.int 0)) fEq)))))
def xr__law_simple : Nat → Env → Option (Tr × Env)
  | 0 => fun _ => none
  | k + 1 => callX 1 1 (b__law_simple (xr__law_simple k))
def x__law_simple : Env → Option (Tr × Env) := xr__law_simple 8
theorem okr__law_simple {P : Program} {w : World} {K : PySem.W.Frag} {mg : Str → Option Value} {base : Heap} {A : Nat → Addr} {D : Nat → FuncData} {Tb : List Tbl2} {CA : Str → Addr} (T : Txt K mg A D) : ∀ k, FnOk P w K mg base CX0 (1 + k) (A 18) (D 18) ["question"] (PX K CA Tb (xr__law_simple k))
  | 0 => by
    have no : ∀ vs H Q E, ¬ PX K CA Tb (xr__law_simple 0) vs H Q E := fun vs H Q E h => by
      obtain ⟨_, _, _, _, _, _, _, h1, _⟩ := h
      cases h1
    exact ⟨fun vs H Q E h => absurd h (no vs H Q E), fun A outer s H args us vs Q E _ _ _ _ h => absurd h (no vs H Q E)⟩
  | k + 1 => by
    have G__law_simple := okr__law_simple (P := P) (w := w) (base := base) (Tb := Tb) (CA := CA) T k
    refine T.F__law_simple.ok (k := 1 + k) sc__law_simple (PX.len rfl) (fun cdv A' outer s H vs Q E hr h => ?_)
    have hnd := sc__law_simple.nd
    exact ⟨_, (pss_cons (ps_if (pt_cmpR op_eq (pe_ix (r := rIxT K) ix_tup (pv 0) pe_int (fun _ _ => rfl)) pe_str (nomark _)) (pss_one (ps_ret (pe_cmpR op_eq (pe_callB call_len_seq rfl T.z_len PySem.boot_len (pa_cons (pe_ix (r := rIxT K) ix_tup (pv 0) pe_int (fun _ _ => rfl)) pa_nil)) pe_int (nomark _)))) pss_nil) (pss_cons (ps_if (pt_cmpR op_eq (pe_ix (r := rIxT K) ix_tup (pv 0) pe_int (fun _ _ => rfl)) pe_str (nomark _)) (pss_one (ps_ret (pe_call G__law_simple (hr.mono (by first | decide | omega)) rfl T.m__law_simple T.F__law_simple.kp T.b__law_simple .nil pass0 (pa_cons (pe_ix (r := rIxT K) ix_tup (pv 0) pe_int (fun _ _ => rfl)) pa_nil)))) pss_nil) (pss_cons (ps_if (pt_cmpR op_eq (pe_ix (r := rIxT K) ix_tup (pv 0) pe_int (fun _ _ => rfl)) pe_str (nomark _)) (pss_one (ps_ret pe_bl)) pss_nil) (pss_one (ps_ret (pe_cmpR op_eq (pe_callB call_len_seq rfl T.z_len PySem.boot_len (pa_cons (pe_lc (own := [("part", 1)]) rfl hnd (pi_tup (pe_ix (r := rIxT K) ix_tup (pv 0) pe_int (fun _ _ => rfl))) (blkOk_by (own := [("part", 1)]) (N := N__law_simple) (sc := defScope s__law_simple) (by decide +kernel)) (fun _ _ _ _ _ => (pg_name (i := 1) hnd rfl (Or.inl rfl))) (fun _ _ _ _ _ => (pts_one (pt_not (pt_val (pe_call G__law_simple (hr.mono (by first | decide | omega)) rfl T.m__law_simple T.F__law_simple.kp T.b__law_simple .nil pass0 (pa_cons (pv 1) pa_nil)))))) (fun _ _ _ _ _ => (pv 1))) pa_nil)) pe_int (nomark _))))))), runX (K := K) (CA := CA) (Tb := Tb) (n := 1) (m := 1) (body := b__law_simple (xr__law_simple k)) rfl rfl (sim_seq (sim_ifS (sim_test (sim_op (simR_of (sim_op sim_varR (simR_of sim_int) simO_ixT)) (simR_of sim_str) simO_eq)) (sim_ret (sim_op (simR_of (sim_cb (sim_consR (simR_of (sim_op sim_varR (simR_of sim_int) simO_ixT)) sim_nilR) simC_len)) (simR_of sim_int) simO_eq)) sim_next) (sim_seq (sim_ifS (sim_test (sim_op (simR_of (sim_op sim_varR (simR_of sim_int) simO_ixT)) (simR_of sim_str) simO_eq)) (sim_retN (sim_call (sim_agCons (sim_gD (sim_op sim_varR (simR_of sim_int) simO_ixT)) sim_agNil))) sim_next) (sim_seq (sim_ifS (sim_test (sim_op (simR_of (sim_op sim_varR (simR_of sim_int) simO_ixT)) (simR_of sim_str) simO_eq)) (sim_ret sim_bl) sim_next) (sim_ret (sim_op (simR_of (sim_cb (sim_consR (simR_of (simD_of (sim_lc (sim_wT (simR_of (sim_op sim_varR (simR_of sim_int) simO_ixT))) sim_gName (sim_notT (sim_b (simD_of (sim_call (sim_agCons (sim_gD sim_var) sim_agNil))))) sim_var (by decide)))) sim_nilR) simC_len)) (simR_of sim_int) simO_eq))))) h⟩
theorem ok__law_simple {P : Program} {w : World} {K : PySem.W.Frag} {mg : Str → Option Value} {base : Heap} {A : Nat → Addr} {D : Nat → FuncData} {Tb : List Tbl2} {CA : Str → Addr} (T : Txt K mg A D) : FnOk P w K mg base CX0 9 (A 18) (D 18) ["question"] (PX K CA Tb x__law_simple) := okr__law_simple T 8
def b_law : XS := (xSeq (xSetN 1 (xLst (xCons (xDn (xCall x__law_digits (agCons (gL 0 []) (agCons (gD (xC (.int 0))) (agCons (gD (xC (.int 63))) agNil))))) (xCons (xC (.int 0)) xNil)))) (xSeq (xSet 2 (xDn (xCallM 1 x__law_question (agCons (gD (x2 (xC (.int 1)) (xDn (xCallM 1 x__law_draw (agCons (gD (xC (.int 2))) agNil))) fAdd)) (agCons (gD (xC (.bool true))) agNil))))) (xSeq (xSet 3 (xDn (xCallM 1 x__law_question (agCons (gD (xDn (xCallM 1 x__law_draw (agCons (gD (xC (.int 3))) agNil)))) (agCons (gD (xC (.bool true))) agNil))))) (xSeq (xSet 4 (xDn (xCallM 1 x__law_question (agCons (gD (x2 (xC (.int 1)) (xDn (xCallM 1 x__law_draw (agCons (gD (xC (.int 3))) agNil))) fAdd)) (agCons (gD (xC (.bool false))) agNil))))) (xSeq (xIte (xOrT (xNotT (xB (xDn (xCall x__law_same (agCons (gD (xDn (xCall x_is_simple (agCons (gD (xVar 4)) agNil)))) (agCons (gD (xDn (xCall x__law_simple (agCons (gD (xVar 4)) agNil)))) agNil)))))) (xNotT (xB (xDn (xCall x__law_same (agCons (gD (xDn (xCall x_is_simple (agCons (gD (xVar 2)) agNil)))) (agCons (gD (xC (.bool true))) agNil))))))) (xRet (xC (.bool false))) xNext) (xRetN (xCall x__law_same (agCons (gD (xDn (xCall x_candidates (agCons (gD (xVar 2)) (agCons (gD (xVar 3)) agNil))))) (agCons (gD (xDn (xCall x__law_candidates (agCons (gD (xVar 2)) (agCons (gD (xVar 3)) agNil))))) agNil)))))))))
def x_law : Env → Option (Tr × Env) := callX 1 4 b_law
theorem ok_law {P : Program} {w : World} {K : PySem.W.Frag} {mg : Str → Option Value} {base : Heap} {A : Nat → Addr} {D : Nat → FuncData} {Tb : List Tbl2} {CA : Str → Addr} (T : Txt K mg A D) {P_free_word : Addr} (TF_free_word : TbF base mg (D 6) P_free_word) (hP_free_word : (P_free_word, none) ∈ Tb) {P_is_simple : Addr} (TF_is_simple : TbF base mg (D 3) P_is_simple) (hP_is_simple : (P_is_simple, none) ∈ Tb) : FnOk P w K mg base CX0 13 (A 19) (D 19) ["script"] (PX K CA Tb x_law) := by
  refine T.F_law.ok (k := 12) sc_law (PX.len rfl) (fun cdv A' outer s H vs Q E hr h => ?_)
  have hnd := sc_law.nd
  have G__law_question := ok__law_question (P := P) (w := w) (base := base) (Tb := Tb) (CA := CA) T
  have G__law_same := ok__law_same (P := P) (w := w) (base := base) (Tb := Tb) (CA := CA) T
  have G__law_digits := ok__law_digits (P := P) (w := w) (base := base) (Tb := Tb) (CA := CA) T
  have G__law_draw := ok__law_draw (P := P) (w := w) (base := base) (Tb := Tb) (CA := CA) T
  have G_candidates := ok_candidates (P := P) (w := w) (base := base) (Tb := Tb) (CA := CA) T TF_free_word hP_free_word
  have G__law_candidates := ok__law_candidates (P := P) (w := w) (base := base) (Tb := Tb) (CA := CA) T
  have G_is_simple := ok_is_simple (P := P) (w := w) (base := base) (Tb := Tb) (CA := CA) T TF_is_simple hP_is_simple
  have G__law_simple := ok__law_simple (P := P) (w := w) (base := base) (Tb := Tb) (CA := CA) T
  exact ⟨_, (pss_cons (ps_set (i := 1) hnd rfl (Or.inl rfl) (pe_lst (pa_cons (pe_call G__law_digits (hr.mono (by first | decide | omega)) rfl T.m__law_digits T.F__law_digits.kp T.b__law_digits .nil pass0 (pa_cons (pv 0) (pa_cons pe_int (pa_cons pe_int pa_nil)))) (pa_cons pe_int pa_nil)))) (pss_cons (ps_set (i := 2) hnd rfl (Or.inl rfl) (pe_call G__law_question (hr.mono (by first | decide | omega)) rfl T.m__law_question T.F__law_question.kp T.b__law_question .nil pass0 (pa_cons (pv 1) (pa_cons (pe_op op_add pe_int (pe_call G__law_draw (hr.mono (by first | decide | omega)) rfl T.m__law_draw T.F__law_draw.kp T.b__law_draw .nil pass0 (pa_cons (pv 1) (pa_cons pe_int pa_nil)))) (pa_cons pe_bl pa_nil))))) (pss_cons (ps_set (i := 3) hnd rfl (Or.inl rfl) (pe_call G__law_question (hr.mono (by first | decide | omega)) rfl T.m__law_question T.F__law_question.kp T.b__law_question .nil pass0 (pa_cons (pv 1) (pa_cons (pe_call G__law_draw (hr.mono (by first | decide | omega)) rfl T.m__law_draw T.F__law_draw.kp T.b__law_draw .nil pass0 (pa_cons (pv 1) (pa_cons pe_int pa_nil))) (pa_cons pe_bl pa_nil))))) (pss_cons (ps_set (i := 4) hnd rfl (Or.inl rfl) (pe_call G__law_question (hr.mono (by first | decide | omega)) rfl T.m__law_question T.F__law_question.kp T.b__law_question .nil pass0 (pa_cons (pv 1) (pa_cons (pe_op op_add pe_int (pe_call G__law_draw (hr.mono (by first | decide | omega)) rfl T.m__law_draw T.F__law_draw.kp T.b__law_draw .nil pass0 (pa_cons (pv 1) (pa_cons pe_int pa_nil)))) (pa_cons pe_bl pa_nil))))) (pss_cons (ps_if (PW.pt (pw_or (pt_not (pt_val (pe_call G__law_same (hr.mono (by first | decide | omega)) rfl T.m__law_same T.F__law_same.kp T.b__law_same .nil pass0 (pa_cons (pe_call G_is_simple (hr.mono (by first | decide | omega)) rfl T.m_is_simple T.F_is_simple.kp T.b_is_simple .nil pass0 (pa_cons (pv 4) pa_nil)) (pa_cons (pe_call G__law_simple (hr.mono (by first | decide | omega)) rfl T.m__law_simple T.F__law_simple.kp T.b__law_simple .nil pass0 (pa_cons (pv 4) pa_nil)) pa_nil))))) (pw_or1 (pt_not (pt_val (pe_call G__law_same (hr.mono (by first | decide | omega)) rfl T.m__law_same T.F__law_same.kp T.b__law_same .nil pass0 (pa_cons (pe_call G_is_simple (hr.mono (by first | decide | omega)) rfl T.m_is_simple T.F_is_simple.kp T.b_is_simple .nil pass0 (pa_cons (pv 2) pa_nil)) (pa_cons pe_bl pa_nil)))))))) (pss_one (ps_ret pe_bl)) pss_nil) (pss_one (ps_ret (pe_call G__law_same (hr.mono (by first | decide | omega)) rfl T.m__law_same T.F__law_same.kp T.b__law_same .nil pass0 (pa_cons (pe_call G_candidates (hr.mono (by first | decide | omega)) rfl T.m_candidates T.F_candidates.kp T.b_candidates .nil pass0 (pa_cons (pv 2) (pa_cons (pv 3) pa_nil))) (pa_cons (pe_call G__law_candidates (hr.mono (by first | decide | omega)) rfl T.m__law_candidates T.F__law_candidates.kp T.b__law_candidates .nil pass0 (pa_cons (pv 2) (pa_cons (pv 3) pa_nil))) pa_nil)))))))))), runX (K := K) (CA := CA) (Tb := Tb) (n := 1) (m := 4) (body := b_law) rfl rfl (sim_seq (sim_setN (sim_lst (sim_cons (simD_of (sim_call (sim_agCons (sim_gL sim_pvar) (sim_agCons (sim_gD sim_int) (sim_agCons (sim_gD sim_int) sim_agNil))))) (sim_cons sim_int sim_nil)))) (sim_seq (sim_set (simD_of (sim_callM (sim_agCons (sim_gD (sim_op (simR_of sim_int) (simR_of (simD_of (sim_callM (sim_agCons (sim_gD sim_int) sim_agNil)))) simO_i0)) (sim_agCons (sim_gD sim_bl) sim_agNil))))) (sim_seq (sim_set (simD_of (sim_callM (sim_agCons (sim_gD (simD_of (sim_callM (sim_agCons (sim_gD sim_int) sim_agNil)))) (sim_agCons (sim_gD sim_bl) sim_agNil))))) (sim_seq (sim_set (simD_of (sim_callM (sim_agCons (sim_gD (sim_op (simR_of sim_int) (simR_of (simD_of (sim_callM (sim_agCons (sim_gD sim_int) sim_agNil)))) simO_i0)) (sim_agCons (sim_gD sim_bl) sim_agNil))))) (sim_seq (sim_ifS (sim_orT (sim_notT (sim_b (simD_of (sim_call (sim_agCons (sim_gD (simD_of (sim_call (sim_agCons (sim_gD sim_var) sim_agNil)))) (sim_agCons (sim_gD (simD_of (sim_call (sim_agCons (sim_gD sim_var) sim_agNil)))) sim_agNil)))))) (sim_notT (sim_b (simD_of (sim_call (sim_agCons (sim_gD (simD_of (sim_call (sim_agCons (sim_gD sim_var) sim_agNil)))) (sim_agCons (sim_gD sim_bl) sim_agNil))))))) (sim_ret sim_bl) sim_next) (sim_retN (sim_call (sim_agCons (sim_gD (simD_of (sim_call (sim_agCons (sim_gD sim_var) (sim_agCons (sim_gD sim_var) sim_agNil))))) (sim_agCons (sim_gD (simD_of (sim_call (sim_agCons (sim_gD sim_var) (sim_agCons (sim_gD sim_var) sim_agNil))))) sim_agNil))))))))) h⟩
end
end Q
namespace Q
open PySem L2 Y
local macro_rules
  | `(tactic| simp_arith $[$l:location]?) => `(tactic| simp_arith [] $[$l]?)
  | `(tactic| simp_arith [$ls,*] $[$l:location]?) => `(tactic| simp only [callX, xSeq, xIte, xB, x2, x1, xVar, xVarR, Sv.rd?, Sv.dat?, Sv.mut?, Sv.put, xC, xScrLen, xScrIx, fLt, fLe, fGt, fGe, fAdd, fSub, fNeg, fU, fII, fIIc, fMul, fMod, fDiv, fModN, fDivN, fPow, mulOk, divOk, modOk, modNOk, divNOk, powOk, boolD, xRet, xRetN, xMove, xNext, xSet, xSetN, xAsg, gSet, gTupX, gConsX, gNilX, xDn, Tr.toD, xN, xTup, xLst, xCons, xNil, xCall, agCons, agNil, gD, gL, Ad.sv, xApp, xLend, plMut, Tr.sub, Tr.put, xFor, xNotT, xAndT, xOrT, xYes, cInt, cLen, rng1D, rng2D, listD, tupD, fIxL, fIxT, fEq, fNe, shortB,
      List.length_cons, List.length_nil, List.length_map, List.cons_append, List.nil_append, List.replicate, List.getElem?_cons_zero, List.getElem?_cons_succ, List.getElem?_nil, List.set_cons_zero, List.set_cons_succ, List.map_cons, List.map_nil, Option.map_some, Option.map_none, Option.bind_some, Option.bind_none, Nat.zero_add, Nat.reduceAdd, Nat.zero_le, sizeLine_eq, Nat.reduceLeDiff, Nat.reduceLT, Nat.reducePow, Int.reduceLE, Int.reduceLT, Int.reducePow, Bool.not_true, Bool.not_false, Int.reduceNeg, Int.reduceAdd, Int.reduceSub, Int.reduceMul, Int.reduceEq, Nat.reduceEqDiff, ne_eq, not_false_eq_true, not_true_eq_false, Int.reduceToNat, Int.reduceAbs, and_self, true_and, and_true, or_true, true_or, if_true, if_false, reduceIte, Bool.false_eq_true, decide_true, decide_false, clean, reduceCtorEq, $ls,*] $[$l]?)
theorem p_cell (ns : List Int) (k : Nat) : x__law_cell [.lent (.scr ns), .own (.dat (.int k))] = some (.dat (.int ((ns[k]?).getD 0)), [.un, .un]) := by
  unfold x__law_cell b__law_cell
  by_cases h : (k : Int) < ns.length
  · have hk : ns[k]? = some (ns[k]'(Int.ofNat_lt.mp h)) := List.getElem?_eq_getElem _
    simp_arith [decide_eq_true h, atI_natI, hk, Option.getD_some]
  · have hk : ns[k]? = none := List.getElem?_eq_none (by omega)
    simp_arith [decide_eq_false h, hk, Option.getD_none]
theorem intsD_at {i : Int} {n j : Nat} (h : j < (intsD i n).length) : (intsD i n)[j] = .int (i + j) := by
  have e : (intsD i n)[j]? = some (.int (i + j)) := by
    unfold intsD at h ⊢
    first
      | (rw [List.getElem?_map, List.getElem?_range (by simpa using h)]; rfl)
      | simp at h ⊢
  exact Option.some.inj ((List.getElem?_eq_getElem h).symm.trans e)
abbrev DE (ns : List Int) (f l : Int) (ds : List Int) (s4 s5 s6 s7 : Sv) : Env := [.lent (.scr ns), .own (.dat (.int f)), .own (.dat (.int l)), .own (.lst (ds.map .int)), s4, s5, s6, s7]
def dgA : XS := xIte (xB (x2 (xVarR 5) (xC (.int 0)) fGt)) (xSeq (xApp 3 [] (x2 (x1 (xCons (xVarR 5) xNil) cInt) (xC (.int 1000)) fMod)) (xSet 5 (x2 (xVarR 5) (xC (.int 1000)) fDiv))) xNext
def dgB : XS := xSeq (xSet 7 (x2 (x1 (xCons (x2 (x2 (x2 (xVarR 7) (xC (.int 16807)) fMul) (x2 (xC (.int 7)) (xVarR 6) fMul) fAdd) (xC (.int 1)) fAdd) xNil) cInt) (xC (.int 2147483647)) fMod)) (xApp 3 [] (x2 (x1 (xCons (x2 (xVarR 7) (xC (.int 997)) fDiv) xNil) cInt) (xC (.int 1000)) fMod))
def dgO : XS := xSeq (xSet 5 (xDn (xCall x__law_cell (agCons (gL 0 []) (agCons (gD (xVar 4)) agNil))))) (xSeq (xIte (xB (x2 (xVarR 5) (xC (.int 0)) fLt)) (xSet 5 (x2 (xC (.int 1)) (x2 (xC (.int 2)) (xVarR 5) fMul) fSub)) xNext) (xIte (xB (x2 (xVarR 5) (x2 (xC (.int 10)) (xC (.int 18)) fPow) fGe)) (xFor (x1 (xCons (xC (.int 60)) xNil) rng1D) (gSet 6) dgA) (xSeq (xSet 7 (x2 (x1 (xCons (x2 (x2 (x2 (xVarR 5) (xC (.int 48271)) fMul) (x2 (xVarR 4) (xC (.int 69621)) fMul) fAdd) (xC (.int 11)) fAdd) xNil) cInt) (xC (.int 2147483647)) fMod)) (xFor (x1 (xCons (xC (.int 12)) xNil) rng1D) (gSet 6) dgB))))
theorem p_dgA (ns : List Int) (f l : Int) (ds : List Int) (k c : Int) (s6 s7 : Sv) (hl : ds.length ≤ 10000) : ∃ (ds' : List Int) (s5' s6' : Sv), forGo (gSet 6) dgA (intsD 0 60) (DE ns f l ds (.own (.dat (.int k))) (.own (.dat (.int c))) s6 s7) = some (.nx (DE ns f l ds' (.own (.dat (.int k))) s5' s6' s7)) ∧ ds'.length ≤ ds.length + 60 := by
  obtain ⟨e', h1, c', ds', s6', rfl, h2⟩ := for_I0 (tg := gSet 6) (body := dgA) (fun i e => ∃ (c' : Int) (ds' : List Int) (s6 : Sv), e = DE ns f l ds' (.own (.dat (.int k))) (.own (.dat (.int c'))) s6 s7 ∧ ds'.length ≤ ds.length + i) (intsD 0 60) (DE ns f l ds (.own (.dat (.int k))) (.own (.dat (.int c))) s6 s7) ⟨c, ds, s6, rfl, Nat.le_refl _⟩ (by
    rintro j hj _ ⟨c', ds', s6, rfl, h2⟩
    have hj' : j < 60 := by simpa [intsD] using hj
    rw [intsD_at hj]
    have g3 : ds'.length ≤ 16777215 := by omega
    by_cases g1 : (0 : Int) < c'
    · refine ⟨_, DE ns f l (ds' ++ [c' % 1000]) (.own (.dat (.int k))) (.own (.dat (.int (c' / 1000)))) (.own (.dat (.int (0 + (j : Int))))) s7, rfl, ?_, _, _, _, rfl, by rw [List.length_append, List.length_singleton]; omega⟩
      unfold dgA DE
      simp_arith [decide_eq_true g1, decide_eq_true g3, List.map_append]
    · refine ⟨_, DE ns f l ds' (.own (.dat (.int k))) (.own (.dat (.int c'))) (.own (.dat (.int (0 + (j : Int))))) s7, rfl, ?_, _, _, _, rfl, by omega⟩
      unfold dgA DE
      simp_arith [decide_eq_false g1])
  exact ⟨ds', _, s6', h1, h2⟩
theorem p_dgB (ns : List Int) (f l : Int) (ds : List Int) (k z : Int) (s5 s6 : Sv) (hl : ds.length ≤ 10000) : ∃ (ds' : List Int) (s6' s7' : Sv), forGo (gSet 6) dgB (intsD 0 12) (DE ns f l ds (.own (.dat (.int k))) s5 s6 (.own (.dat (.int z)))) = some (.nx (DE ns f l ds' (.own (.dat (.int k))) s5 s6' s7')) ∧ ds'.length ≤ ds.length + 12 := by
  obtain ⟨e', h1, z', ds', s6', rfl, h2⟩ := for_I0 (tg := gSet 6) (body := dgB) (fun i e => ∃ (z' : Int) (ds' : List Int) (s6 : Sv), e = DE ns f l ds' (.own (.dat (.int k))) s5 s6 (.own (.dat (.int z'))) ∧ ds'.length ≤ ds.length + i) (intsD 0 12) (DE ns f l ds (.own (.dat (.int k))) s5 s6 (.own (.dat (.int z)))) ⟨z, ds, s6, rfl, Nat.le_refl _⟩ (by
    rintro j hj _ ⟨z5, ds', s6, rfl, h2⟩
    have hj' : j < 12 := by simpa [intsD] using hj
    rw [intsD_at hj]
    have g3 : ds'.length ≤ 16777215 := by omega
    refine ⟨_, DE ns f l (ds' ++ [((z5 * 16807 + 7 * (0 + (j : Int)) + 1) % 2147483647 / 997) % 1000]) (.own (.dat (.int k))) s5 (.own (.dat (.int (0 + (j : Int))))) (.own (.dat (.int ((z5 * 16807 + 7 * (0 + (j : Int)) + 1) % 2147483647)))), rfl, ?_, _, _, _, rfl, by rw [List.length_append, List.length_singleton]; omega⟩
    unfold dgB DE
    simp_arith [decide_eq_true g3, List.map_append])
  exact ⟨ds', s6', _, h1, h2⟩
theorem p_dgO (ns : List Int) (f l : Int) (ds : List Int) (k c : Int) (hc : x__law_cell [.lent (.scr ns), .own (.dat (.int k))] = some (.dat (.int c), [.un, .un])) (s5 s6 s7 : Sv) (hl : ds.length ≤ 10000) : ∃ (ds' : List Int) (s5' s6' s7' : Sv), dgO (DE ns f l ds (.own (.dat (.int k))) s5 s6 s7) = some (.nx (DE ns f l ds' (.own (.dat (.int k))) s5' s6' s7')) ∧ ds'.length ≤ ds.length + 60 := by
  obtain ⟨c2, h2⟩ : ∃ c2 : Int, xIte (xB (x2 (xVarR 5) (xC (.int 0)) fLt)) (xSet 5 (x2 (xC (.int 1)) (x2 (xC (.int 2)) (xVarR 5) fMul) fSub)) xNext (DE ns f l ds (.own (.dat (.int k))) (.own (.dat (.int c))) s6 s7) = some (.nx (DE ns f l ds (.own (.dat (.int k))) (.own (.dat (.int c2))) s6 s7)) := by
    by_cases h : c < 0
    · refine ⟨1 - 2 * c, ?_⟩
      simp_arith [decide_eq_true h]
    · refine ⟨c, ?_⟩
      simp_arith [decide_eq_false h]
  have h1 : xSet 5 (xDn (xCall x__law_cell (agCons (gL 0 []) (agCons (gD (xVar 4)) agNil)))) (DE ns f l ds (.own (.dat (.int k))) s5 s6 s7) = some (.nx (DE ns f l ds (.own (.dat (.int k))) (.own (.dat (.int c))) s6 s7)) := by
    simp_arith [hc]
  by_cases h : (1000000000000000000 : Int) ≤ c2
  · obtain ⟨ds', s5', s6', g1, g2⟩ := p_dgA ns f l ds k c2 s6 s7 hl
    refine ⟨ds', s5', s6', s7, ?_, g2⟩
    unfold dgO
    refine (seq_nx h1).trans ((seq_nx h2).trans ((ite_eqT (e := DE ns f l ds (.own (.dat (.int k))) (.own (.dat (.int c2))) s6 s7) ?_).trans (for_eq (e := DE ns f l ds (.own (.dat (.int k))) (.own (.dat (.int c2))) s6 s7) ?_ g1)))
    · simp_arith [decide_eq_true h]
    · simp_arith []
  · obtain ⟨z, hz⟩ : ∃ z : Int, (c2 * 48271 + k * 69621 + 11) % 2147483647 = z := ⟨_, rfl⟩
    obtain ⟨ds', s6', s7', g1, g2⟩ := p_dgB ns f l ds k z (.own (.dat (.int c2))) s6 hl
    refine ⟨ds', .own (.dat (.int c2)), s6', s7', ?_, by omega⟩
    unfold dgO
    refine (seq_nx h1).trans ((seq_nx h2).trans ((ite_eqF (e := DE ns f l ds (.own (.dat (.int k))) (.own (.dat (.int c2))) s6 s7) ?_).trans ((seq_nx (e := DE ns f l ds (.own (.dat (.int k))) (.own (.dat (.int c2))) s6 (.own (.dat (.int z)))) ?_).trans (for_eq (e := DE ns f l ds (.own (.dat (.int k))) (.own (.dat (.int c2))) s6 (.own (.dat (.int z)))) ?_ g1))))
    · simp_arith [decide_eq_false h]
    · simp_arith [hz]
    · simp_arith []
theorem p_digits (ns : List Int) : ∃ ds : List Int, ds.length ≤ 4000 ∧ x__law_digits [.lent (.scr ns), .own (.dat (.int 0)), .own (.dat (.int 63))] = some (.lst (ds.map .int), [.un, .un, .un]) := by
  obtain ⟨e', h1, ds, s4, s5, s6, s7, rfl, h2⟩ := for_I0 (tg := gSet 4) (body := dgO) (fun i e => ∃ (ds : List Int) (s4 s5 s6 s7 : Sv), e = DE ns 0 63 ds s4 s5 s6 s7 ∧ ds.length ≤ 60 * i) (intsD 0 63) (DE ns 0 63 [] .un .un .un .un) ⟨[], _, _, _, _, rfl, Nat.le_refl _⟩ (by
    rintro j hj _ ⟨ds, s4, s5, s6, s7, rfl, h2⟩
    have hj' : j < 63 := by simpa [intsD] using hj
    rw [intsD_at hj, Int.zero_add]
    obtain ⟨ds', s5', s6', s7', g1, g2⟩ := p_dgO ns 0 63 ds (j : Int) _ (p_cell ns j) s5 s6 s7 (by omega)
    exact ⟨_, _, rfl, g1, ds', _, s5', s6', s7', rfl, by omega⟩)
  have hl : (intsD 0 63).length = 63 := by simp [intsD]
  refine ⟨ds, by omega, ?_⟩
  unfold x__law_digits
  refine callX_eq (e := [.lent (.scr ns), .own (.dat (.int 0)), .own (.dat (.int 63)), .un, s4, s5, s6, s7]) rfl ?_
  unfold b__law_digits
  refine (seq_nx (e := DE ns 0 63 [] .un .un .un .un) rfl).trans ((seq_nx (for_eq (e := DE ns 0 63 [] .un .un .un .un) (ds := intsD 0 63) ?_ h1)).trans ?_)
  · simp_arith []
  · simp_arith []
def boxT (ds : List Int) (a : Int) : Tr := .lst [.list (ds.map .int), .int a]
theorem p_draw (ds : List Int) (a m : Int) (ha : 0 ≤ a) (hm : 0 < m) (hl : ds.length ≤ 4000) : ∃ r : Int, 0 ≤ r ∧ r < m ∧ x__law_draw [.arg (boxT ds a), .own (.dat (.int m))] = some (.dat (.int r), [.arg (boxT ds (a + 1)), .un]) := by
  have i1 : atI [PyData.list (ds.map .int), .int a] 1 = some (.int a) := rfl
  have i0 : atI [PyData.list (ds.map .int), .int (a + 1)] 0 = some (.list (ds.map .int)) := rfl
  have x1' : ixN 2 1 = some 1 := rfl
  have l1 : ds.length ≤ 16777216 := by omega
  have m0 : ¬ m = 0 := by omega
  by_cases h : a < ds.length
  · obtain ⟨z, e1⟩ : ∃ z, atI (ds.map PyData.int) a = some (.int z) := by
      obtain ⟨n, rfl⟩ := Int.eq_ofNat_of_zero_le ha
      have hn : n < ds.length := by omega
      exact ⟨ds[n], by rw [atI_natI, List.getElem?_map, List.getElem?_eq_getElem hn]; rfl⟩
    refine ⟨z.fmod m, Int.fmod_nonneg_of_pos _ hm, Int.fmod_lt_of_pos _ hm, ?_⟩
    unfold x__law_draw
    refine callX_eq (e := [.arg (boxT ds (a + 1)), .own (.dat (.int m)), .own (.dat (.int a))]) rfl ?_
    unfold b__law_draw
    unfold boxT
    simp_arith [xSetIx, i0, i1, x1', e1, decide_eq_true l1, decide_eq_true h, decide_eq_true m0]
  · refine ⟨0, Int.le_refl _, hm, ?_⟩
    unfold x__law_draw
    refine callX_eq (e := [.arg (boxT ds (a + 1)), .own (.dat (.int m)), .own (.dat (.int a))]) rfl ?_
    unfold b__law_draw
    unfold boxT
    simp_arith [xSetIx, i0, i1, x1', decide_eq_true l1, decide_eq_false h]
end Q

namespace Q
open PySem L2 Y
def okm (n : Nat) (d : PyData) : Prop := okn n d ∧ fitsB (n + 1) d = true
theorem okm_int {n : Nat} {i : Int} : okm n (.int i) := ⟨okn_int, rfl⟩
theorem okm_non {n : Nat} : okm n .none := ⟨okn_non, rfl⟩
theorem okm_str {n : Nat} {z : Str} (h : PyData.strOk z = true) : okm n (.str z) := ⟨okn_str h, rfl⟩
theorem okm_tup {n : Nat} {ds : List PyData} (hl : ds.length ≤ 1000000) (h : ∀ d ∈ ds, okm n d) : okm (n + 1) (.tuple ds) := by
  refine ⟨okn_tup fun d hd => (h d hd).1, ?_⟩
  rw [fitsB, Bool.and_eq_true, List.all_eq_true]
  exact ⟨decide_eq_true (Nat.lt_of_le_of_lt hl (by decide)), fun d hd => (h d hd).2⟩
theorem okm_lst {n : Nat} {ds : List PyData} (hl : ds.length ≤ 1000000) (h : ∀ d ∈ ds, okm n d) : okm (n + 1) (.list ds) := by
  refine ⟨okn_lst fun d hd => (h d hd).1, ?_⟩
  rw [fitsB, Bool.and_eq_true, List.all_eq_true]
  exact ⟨decide_eq_true (Nat.lt_of_le_of_lt hl (by decide)), fun d hd => (h d hd).2⟩
theorem same_self {d : PyData} (h : okm 8 d) : sameB d d = true := by
  unfold sameB
  rw [h.1.1, (eqv_eq d d h.1.1 h.1.1).mpr rfl, h.1.2.1, h.2]; rfl
theorem atI_emodL {α : Type} (L : List α) (x n : Int) (hn : n = L.length) (h0 : 0 ≤ x) (h1 : x < n) : ∃ w ∈ L, atI L x = some w := by
  obtain ⟨j, hj⟩ := Int.eq_ofNat_of_zero_le h0
  have hj2 : j < L.length := by omega
  exact ⟨L[j], List.getElem_mem hj2, by rw [hj, atI_natI]; exact List.getElem?_eq_getElem hj2⟩
theorem atI_mapL {α β : Type} (f : α → β) (L : List α) (i : Int) : atI (L.map f) i = (atI L i).map f := by
  unfold atI
  rw [List.length_map]
  cases ixN L.length i with
  | none => rfl
  | some j => simp
/-- a text of a list of texts, drawn -/
theorem atI_strs (L : List Str) (x n : Int) (hn : n = L.length) (h0 : 0 ≤ x) (h1 : x < n) : ∃ w ∈ L, atI (L.map PyData.str) x = some (.str w) := by
  obtain ⟨w, hw, e⟩ := atI_emodL L x n hn h0 h1
  exact ⟨w, hw, by rw [atI_mapL, e]; rfl⟩
theorem len_appS (a b : Str) : (a ++ b).length = a.length + b.length := by
  show (a.cps ++ b.cps).size = _
  exact Array.size_append
def codeB (c : Nat) : Bool := decide (c = 10) || (decide (32 ≤ c) && decide (c ≤ 126) && decide (c ≠ 37))
def codesB (t : Str) : Bool := t.cps.toList.all codeB
theorem codes_app {a b : Str} (h1 : codesB a = true) (h2 : codesB b = true) : codesB (a ++ b) = true := by
  unfold codesB at *
  rw [show (a ++ b).cps.toList = a.cps.toList ++ b.cps.toList from by
    show (a.cps ++ b.cps).toList = _
    exact Array.toList_append, List.all_append, h1, h2]; rfl
theorem codes_strOk {t : Str} (h : codesB t = true) : PyData.strOk t = true := by
  unfold PyData.strOk
  rw [← Array.all_toList, List.all_eq_true]
  intro c hc
  have := List.all_eq_true.mp h c hc
  unfold codeB at this
  rw [Bool.or_eq_true, Bool.and_eq_true, Bool.and_eq_true, decide_eq_true_eq, decide_eq_true_eq, decide_eq_true_eq, decide_eq_true_eq] at this
  exact decide_eq_true (by omega)
def alp : Str := "abcdefghijklmnopqrstuvwxyz0123456789"
theorem alp_ix (r : Int) (h0 : 0 ≤ r) (h1 : r < 36) : ∃ z : Str, fIxS (.str alp) (.int r) = some (.str z) ∧ z.length = 1 ∧ codesB z = true := by
  have al : (alp.cps.toList).length = 36 := by decide +kernel
  obtain ⟨c, hc, e⟩ := atI_emodL alp.cps.toList r 36 (by rw [al]; rfl) h0 h1
  have cc : ∀ c ∈ alp.cps.toList, codeB c = true := by decide +kernel
  refine ⟨⟨#[c]⟩, ?_, rfl, ?_⟩
  · unfold fIxS
    dsimp only
    have l1 : alp.length ≤ 16777216 := by decide +kernel
    first
      | (rw [e]; rfl)
      | (rw [if_pos (by unfold shortB; exact decide_eq_true (by rw [sizeLine_eq]; exact l1)), e]; rfl)
  · unfold codesB
    show [c].all codeB = true
    rw [List.all_cons, cc c hc]; rfl
end Q

/-! questions drawn from a box -/
namespace Q
open PySem L2 Y
local macro_rules
  | `(tactic| simp_arith $[$l:location]?) => `(tactic| simp_arith [] $[$l]?)
  | `(tactic| simp_arith [$ls,*] $[$l:location]?) => `(tactic| simp only [callX, xSeq, xIte, xB, x2, x1, xVar, xVarR, Sv.rd?, Sv.dat?, Sv.mut?, Sv.put, xC, xScrLen, xScrIx, fLt, fLe, fGt, fGe, fAdd, fSub, fNeg, fU, fII, fIIc, fMul, fMod, fDiv, fModN, fDivN, fPow, mulOk, divOk, modOk, modNOk, divNOk, powOk, boolD, xRet, xRetN, xMove, xNext, xSet, xSetN, xAsg, gSet, gTupX, gConsX, gNilX, xDn, Tr.toD, xN, xTup, xLst, xCons, xNil, xCall, agCons, agNil, gD, gL, Ad.sv, xApp, xLend, plMut, Tr.sub, Tr.put, xFor, xNotT, xAndT, xOrT, xYes, cInt, cLen, rng1D, rng2D, listD, tupD, fIxL, fIxT, fEq, fNe, shortB,
      List.length_cons, List.length_nil, List.length_map, List.cons_append, List.nil_append, List.replicate, List.getElem?_cons_zero, List.getElem?_cons_succ, List.getElem?_nil, List.set_cons_zero, List.set_cons_succ, List.map_cons, List.map_nil, Option.map_some, Option.map_none, Option.bind_some, Option.bind_none, Nat.zero_add, Nat.reduceAdd, Nat.zero_le, sizeLine_eq, Nat.reduceLeDiff, Nat.reduceLT, Nat.reducePow, Int.reduceLE, Int.reduceLT, Int.reducePow, Bool.not_true, Bool.not_false, Int.reduceNeg, Int.reduceAdd, Int.reduceSub, Int.reduceMul, Int.reduceEq, Nat.reduceEqDiff, ne_eq, not_false_eq_true, not_true_eq_false, Int.reduceToNat, Int.reduceAbs, and_self, true_and, and_true, or_true, true_or, if_true, if_false, reduceIte, Bool.false_eq_true, decide_true, decide_false, clean, reduceCtorEq, $ls,*] $[$l]?)
def qwL : List Str := ["a", "ab", "abc", "b", "ba", "mill", "mills", "weir", "0", "a0", "z9", "bab"]
theorem qwL_ok : ∀ t ∈ qwL, (t.length ≤ 12 ∧ 1 ≤ t.length) ∧ codesB t = true := by decide +kernel
abbrev WE (ds : List Int) (a : Int) (s1 s2 s3 : Sv) : Env := [.arg (boxT ds a), s1, s2, s3]
def wdB : XS := xSet 2 (x2 (xVarR 2) (x2 (xC (.str "abcdefghijklmnopqrstuvwxyz0123456789")) (xDn (xCallM 0 x__law_draw (agCons (gD (xC (.int 36))) agNil))) fIxS) fAddS)
theorem p_wdB (ds : List Int) (a m : Int) (s1 s3 : Sv) (ha : 0 ≤ a) (hl : ds.length ≤ 4000) (h0 : 1 ≤ m) (h1 : m ≤ 12) : ∃ (z : Str) (a' : Int) (s3' : Sv), 0 ≤ a' ∧ (z.length ≤ 12 ∧ 1 ≤ z.length) ∧ codesB z = true ∧ forGo (gSet 3) wdB (intsD 0 m.toNat) (WE ds a s1 (.own (.dat (.str ""))) s3) = some (.nx (WE ds a' s1 (.own (.dat (.str z))) s3')) := by
  obtain ⟨e', g1, t, a', s4, rfl, g2, g3, g4⟩ := for_I0 (tg := gSet 3) (body := wdB) (fun i e => ∃ (t : Str) (a' : Int) (s4 : Sv), e = WE ds a' s1 (.own (.dat (.str t))) s4 ∧ 0 ≤ a' ∧ t.length = i ∧ codesB t = true) (intsD 0 m.toNat) (WE ds a s1 (.own (.dat (.str ""))) s3) ⟨"", a, _, rfl, ha, by decide +kernel, by decide +kernel⟩ (by
    rintro j hj _ ⟨t, a', s4, rfl, g2, g3, g4⟩
    have hj' : j < m.toNat := by simpa [intsD] using hj
    obtain ⟨r, r0, r1, hr⟩ := p_draw ds a' 36 g2 (by decide) hl
    obtain ⟨z, z1, z2, z3⟩ := alp_ix r r0 r1
    refine ⟨_, WE ds (a' + 1) s1 (.own (.dat (.str (t ++ z)))) (.own (.dat (.int (0 + (j : Int))))), by rw [intsD_at hj]; rfl, ?_, _, _, _, rfl, by omega, by rw [len_appS]; omega, codes_app g4 z3⟩
    have l1 : t.length + z.length ≤ 16777216 := by omega
    unfold alp at z1
    unfold wdB WE
    generalize boxT ds a' = B1 at hr ⊢
    generalize boxT ds (a' + 1) = B2 at hr ⊢
    simp_arith [xCallM, afterM, hr, z1, fAddS, decide_eq_true l1])
  have hil : (intsD 0 m.toNat).length = m.toNat := by simp [intsD]
  exact ⟨t, a', s4, g2, ⟨by omega, by omega⟩, g4, g1⟩
theorem p_word (ds : List Int) (a : Int) (ha : 0 ≤ a) (hl : ds.length ≤ 4000) : ∃ (z : Str) (a' : Int), 0 ≤ a' ∧ (z.length ≤ 12 ∧ 1 ≤ z.length) ∧ codesB z = true ∧ x__law_word [.arg (boxT ds a)] = some (.dat (.str z), [.arg (boxT ds a')]) := by
  obtain ⟨r, r0, r1, hr⟩ := p_draw ds a 3 ha (by decide) hl
  have s1 : xSet 1 (xDn (xCallM 0 x__law_draw (agCons (gD (xC (.int 3))) agNil))) (WE ds a .un .un .un) = some (.nx (WE ds (a + 1) (.own (.dat (.int r))) .un .un)) := by
    unfold WE
    generalize boxT ds a = B1 at hr ⊢
    generalize boxT ds (a + 1) = B2 at hr ⊢
    simp_arith [xCallM, afterM, hr]
  by_cases c : 0 < r
  · obtain ⟨q, q0, q1, hq⟩ := p_draw ds (a + 1) 12 (by omega) (by decide) hl
    obtain ⟨t, ht, et⟩ := atI_strs qwL q 12 rfl q0 q1
    refine ⟨t, a + 1 + 1, by omega, (qwL_ok t ht).1, (qwL_ok t ht).2, ?_⟩
    unfold x__law_word
    refine callX_eq (e := WE ds (a + 1 + 1) (.own (.dat (.int r))) .un .un) rfl ?_
    unfold b__law_word
    refine (seq_nx s1).trans ?_
    unfold xSeq
    unfold qwL at et
    simp only [List.map_cons, List.map_nil] at et
    unfold WE
    generalize boxT ds (a + 1) = B2 at hq ⊢
    generalize boxT ds (a + 1 + 1) = B3 at hq ⊢
    simp_arith [xCallM, afterM, decide_eq_true c, hq, et]
  · obtain ⟨q, q0, q1, hq⟩ := p_draw ds (a + 1) 2 (by omega) (by decide) hl
    obtain ⟨t, ht, et⟩ := atI_emodL ([3, 12] : List Int) q 2 rfl q0 q1
    have et2 : atI [PyData.int 3, PyData.int 12] q = some (.int t) := by
      have := atI_mapL PyData.int ([3, 12] : List Int) q
      rw [et] at this
      exact this
    have ht2 : t = 3 ∨ t = 12 := by simp only [List.mem_cons, List.not_mem_nil, or_false] at ht; exact ht
    obtain ⟨u, u0, u1, hu⟩ := p_draw ds (a + 1 + 1) t (by omega) (by omega) hl
    obtain ⟨m, hm⟩ : ∃ m : Int, 1 + u = m := ⟨_, rfl⟩
    obtain ⟨z, a', s3', g1, g2, g3, g4⟩ := p_wdB ds (a + 1 + 1 + 1) m (.own (.dat (.int r))) .un (by omega) hl (by omega) (by omega)
    refine ⟨z, a', g1, g2, g3, ?_⟩
    unfold x__law_word
    refine callX_eq (e := WE ds a' (.own (.dat (.int r))) (.own (.dat (.str z))) s3') rfl ?_
    unfold b__law_word
    refine (seq_nx s1).trans ?_
    have hr2 : -4611686018427387904 ≤ m ∧ m < 4611686018427387904 := ⟨by omega, by omega⟩
    refine (seq_nx (e := WE ds (a + 1) (.own (.dat (.int r))) .un .un) ?_).trans ((seq_nx (e := WE ds (a + 1) (.own (.dat (.int r))) (.own (.dat (.str ""))) .un) rfl).trans ((seq_nx (for_eq (e := WE ds (a + 1 + 1 + 1) (.own (.dat (.int r))) (.own (.dat (.str ""))) .un) (ds := intsD 0 m.toNat) ?_ g4)).trans rfl))
    · simp_arith [decide_eq_false c]
    · unfold WE
      generalize boxT ds (a + 1) = B2 at hq ⊢
      generalize boxT ds (a + 1 + 1) = B3 at hq hu ⊢
      generalize boxT ds (a + 1 + 1 + 1) = B4 at hu ⊢
      simp_arith [xCallM, afterM, hq, et2, hu, hm, decide_eq_true hr2]
theorem p_pattern (ds : List Int) (a : Int) (ha : 0 ≤ a) (hl : ds.length ≤ 4000) : ∃ (k z : Str) (a' : Int), 0 ≤ a' ∧ (z.length ≤ 12 ∧ 1 ≤ z.length) ∧ codesB z = true ∧ (k = "word" ∨ k = "start") ∧ x__law_pattern [.arg (boxT ds a)] = some (.dat (.tuple [.str k, .str z]), [.arg (boxT ds a')]) := by
  obtain ⟨r, r0, r1, hr⟩ := p_draw ds a 3 ha (by decide) hl
  obtain ⟨k, hk, ek⟩ := atI_strs (["word", "start", "word"] : List Str) r 3 rfl r0 r1
  obtain ⟨z, a', h1, h2, h3, h4⟩ := p_word ds (a + 1) (by omega) hl
  refine ⟨k, z, a', h1, h2, h3, ?_, ?_⟩
  · simp only [List.mem_cons, List.not_mem_nil, or_false] at hk
    rcases hk with h | h | h
    · exact .inl h
    · exact .inr h
    · exact .inl h
  · unfold x__law_pattern
    refine callX_eq (e := [.arg (boxT ds a')]) rfl ?_
    unfold b__law_pattern
    simp only [List.map_cons, List.map_nil] at ek
    generalize boxT ds a = B1 at hr ⊢
    generalize boxT ds (a + 1) = B2 at hr h4 ⊢
    generalize boxT ds a' = B3 at h4 ⊢
    simp_arith [xCallM, afterM, hr, ek, h4]
end Q
namespace Q
open PySem L2 Y
/-- a comprehension whose turns may change the names, by an invariant -/
theorem lc_goI {tg : XT} {elt : XD} {vs : List Nat} (I : Env → Prop) (P : PyData → Prop) : ∀ (ds : List PyData) (e : Env), I e → (∀ d ∈ ds, ∀ e, I e → ∃ e1 c e3, tg d e = some e1 ∧ elt e1 = some (c, e3) ∧ P c ∧ I (wipeX e3 vs)) → ∃ out e', lcGo tg xYes elt vs ds e = some (out, e') ∧ out.length = ds.length ∧ (∀ c ∈ out, P c) ∧ I e'
  | [], e, h, _ => ⟨[], e, rfl, rfl, (fun c hc => by cases hc), h⟩
  | d :: ds, e, h, hs => by
    obtain ⟨e1, c, e3, h1, h2, h3, h4⟩ := hs d List.mem_cons_self e h
    obtain ⟨out, e', g1, g2, g3, g4⟩ := lc_goI I P ds _ h4 fun x hx => hs x (List.mem_cons_of_mem _ hx)
    refine ⟨c :: out, e', ?_, by rw [List.length_cons, List.length_cons, g2], fun x hx => ?_, g4⟩
    · unfold lcGo
      rw [h1]
      dsimp only [xYes]
      rw [h2]
      dsimp only
      rw [g1]; rfl
    · rcases List.mem_cons.mp hx with rfl | hx
      · exact h3
      · exact g3 x hx
/-! what is drawn: bounds by the depth -/
def Bn : Nat → Nat
  | 0 => 0
  | n + 1 => 1 + 3 * Bn n
def Pn : Nat → Nat
  | 0 => 2
  | n + 1 => 3 * Pn n
theorem Pn_pos : ∀ n, 1 ≤ Pn n
  | 0 => by decide
  | n + 1 => by have := Pn_pos n; show 1 ≤ 3 * Pn n; omega
theorem Pn_6 : ∀ n, 6 ≤ Pn (n + 1)
  | 0 => by decide
  | n + 1 => by have := Pn_6 n; show 6 ≤ 3 * Pn (n + 1); omega
def okT (t : PP.Pat) : Prop := (t.2.length ≤ 12 ∧ 1 ≤ t.2.length) ∧ codesB t.2 = true
/-- a row of one pattern -/
def row1 : PP.Qu → Bool
  | .row ps _ => decide (ps.length = 1)
  | _ => true
structure QD (sb : Bool) (s p : Nat) (q : PP.Qu) : Prop where
  s : (PP.subsR q).length ≤ s
  p : (PP.patR q).length ≤ p
  t : ∀ t ∈ PP.patR q, okT t
  r : sb = true → ∀ r ∈ PP.subsR q, row1 r = true
def qOk (sb : Bool) (n : Nat) (d : PyData) : Prop := ∃ q, (∀ m, quOf (m + n) d = some q) ∧ QD sb (Bn n) (Pn n) q
section
variable {f : PyData → Option PP.Qu} {k : Str} {e : PyData} {ps qs : List PyData} {g : Int}
theorem quD_all : quD f (.tuple [.str k]) = if k = "all" then some .all else none := rfl
theorem quD_row : quD f (.tuple [.str k, .tuple ps, .int g]) = if k = "row" ∧ 0 ≤ g then (pOpt patP ps).map fun ps => .row ps g.toNat else none := rfl
theorem quD_two : quD f (.tuple [.str k, e]) = if k = "not" then (f e).map .neg else match e with
    | .tuple qs => if k = "or" then (pOpt f qs).map (.bin true) else if k = "and" then (pOpt f qs).map (.bin false) else none
    | _ => none := by cases e <;> rfl
end
theorem qOk_all (sb : Bool) (n : Nat) : qOk sb (n + 1) (.tuple [.str "all"]) := ⟨.all, fun m => quD_all.trans (if_pos rfl), by show 1 ≤ 1 + 3 * Bn n; omega, Nat.zero_le _, (fun t h => nomatch h), fun _ r h => by rw [List.mem_singleton.mp h]; rfl⟩
theorem qOk_row (sb : Bool) (n : Nat) (ps : List PyData) (g : Int) (h2 : ps.length ≤ 6) (hs : sb = true → ps.length = 1) (hg : 0 ≤ g) (hp : ∀ p ∈ ps, ∃ k z : Str, p = .tuple [.str k, .str z] ∧ (z.length ≤ 12 ∧ 1 ≤ z.length) ∧ codesB z = true) : qOk sb (n + 1) (.tuple [.str "row", .tuple ps, .int g]) := by
  obtain ⟨ts, rfl, ht⟩ : ∃ ts : List PP.Pat, ps = ts.map PP.encT ∧ ∀ t ∈ ts, okT t := by
    clear h2 hs
    induction ps with
    | nil => exact ⟨[], rfl, fun t h => nomatch h⟩
    | cons p ps ih =>
      obtain ⟨ts, rfl, ht⟩ := ih fun x hx => hp x (List.mem_cons_of_mem _ hx)
      obtain ⟨k, z, rfl, z1, z2⟩ := hp _ List.mem_cons_self
      exact ⟨(k, z) :: ts, rfl, fun t h => (List.mem_cons.mp h).elim (fun e => by rw [e]; exact ⟨z1, z2⟩) (ht t)⟩
  rw [List.length_map] at h2 hs
  have pr : PP.patR (.row ts g.toNat) = ts := by
    show ([PP.Qu.row ts g.toNat] : List PP.Qu).flatMap PP.rowPs = ts
    rw [List.flatMap_singleton]; rfl
  refine ⟨.row ts g.toNat, fun m => ?_, by show 1 ≤ 1 + 3 * Bn n; omega, by rw [pr]; exact Nat.le_trans h2 (Pn_6 n), by rw [pr]; exact ht, fun e r h => by rw [List.mem_singleton.mp h]; exact decide_eq_true (hs e)⟩
  refine quD_row.trans ((if_pos ⟨rfl, hg⟩).trans ?_)
  rw [pOpt_of (f := patP) (g := PP.encT) (r := ts) fun t _ => rfl]; rfl
theorem qOk_not (sb : Bool) (n : Nat) (e : PyData) (h : qOk sb n e) : qOk sb (n + 1) (.tuple [.str "not", e]) := by
  obtain ⟨q, h1, h2⟩ := h
  have pr : PP.patR (.neg q) = PP.patR q := by
    show (PP.Qu.neg q :: PP.subsR q).flatMap PP.rowPs = _
    rw [List.flatMap_cons]; rfl
  refine ⟨.neg q, fun m => ?_, ?_, by rw [pr]; have := h2.p; have := Pn_pos n; show _ ≤ 3 * Pn n; omega, by rw [pr]; exact h2.t, fun e r h => ?_⟩
  · refine quD_two.trans ((if_pos rfl).trans ?_)
    exact congrArg (Option.map PP.Qu.neg) (h1 m)
  · show (PP.Qu.neg q :: PP.subsR q).length ≤ 1 + 3 * Bn n
    have := h2.s
    rw [List.length_cons]; omega
  · rcases List.mem_cons.mp (show r ∈ PP.Qu.neg q :: PP.subsR q from h) with rfl | h
    · rfl
    · exact h2.r e r h
theorem subs_bin (o : Bool) (qs : List PP.Qu) : PP.subsR (.bin o qs) = .bin o qs :: qs.reverse.flatMap PP.subsR := PP.subsR_eq _
theorem pat_bin {o : Bool} {qs : List PP.Qu} {t : PP.Pat} : t ∈ PP.patR (.bin o qs) ↔ ∃ q ∈ qs, t ∈ PP.patR q := by
  unfold PP.patR
  rw [subs_bin, List.flatMap_cons]
  show t ∈ [] ++ _ ↔ _
  rw [List.nil_append, List.mem_flatMap]
  constructor
  · rintro ⟨a, ha, ht⟩
    obtain ⟨q, hq, ha⟩ := List.mem_flatMap.mp ha
    exact ⟨q, List.mem_reverse.mp hq, List.mem_flatMap.mpr ⟨a, ha, ht⟩⟩
  · rintro ⟨q, hq, ht⟩
    obtain ⟨a, ha, ht⟩ := List.mem_flatMap.mp ht
    exact ⟨a, List.mem_flatMap.mpr ⟨q, List.mem_reverse.mpr hq, ha⟩, ht⟩
theorem flat_len {α β : Type} (f : α → List β) (b : Nat) : ∀ l : List α, (∀ a ∈ l, (f a).length ≤ b) → (l.flatMap f).length ≤ l.length * b
  | [], _ => Nat.zero_le _
  | a :: l, h => by
    rw [List.flatMap_cons, List.length_append, List.length_cons, Nat.succ_mul]
    have h1 := h a List.mem_cons_self
    have h2 := flat_len f b l fun x hx => h x (List.mem_cons_of_mem _ hx)
    omega
theorem bin_s {o : Bool} {qs : List PP.Qu} {s : Nat} (h : ∀ q ∈ qs, (PP.subsR q).length ≤ s) : (PP.subsR (.bin o qs)).length ≤ 1 + qs.length * s := by
  rw [subs_bin, List.length_cons]
  have := flat_len PP.subsR s qs.reverse fun a ha => h a (List.mem_reverse.mp ha)
  rw [List.length_reverse] at this
  omega
theorem bin_p {o : Bool} {qs : List PP.Qu} {p : Nat} (h : ∀ q ∈ qs, (PP.patR q).length ≤ p) : (PP.patR (.bin o qs)).length ≤ qs.length * p := by
  unfold PP.patR
  rw [subs_bin, List.flatMap_cons, List.flatMap_assoc]
  show ([] ++ _ : List PP.Pat).length ≤ _
  rw [List.nil_append]
  have := flat_len (fun q => (PP.subsR q).flatMap PP.rowPs) p qs.reverse fun a ha => h a (List.mem_reverse.mp ha)
  rw [List.length_reverse] at this
  exact this
theorem qus_ex {f : Nat → PyData → Option PP.Qu} {R : PP.Qu → Prop} : ∀ ds : List PyData, (∀ d ∈ ds, ∃ q, (∀ m, f m d = some q) ∧ R q) → ∃ qs : List PP.Qu, qs.length = ds.length ∧ (∀ m, pOpt (f m) ds = some qs) ∧ ∀ q ∈ qs, R q
  | [], _ => ⟨[], rfl, (fun _ => rfl), fun q h => nomatch h⟩
  | d :: ds, h => by
    obtain ⟨q, h1, h2⟩ := h d List.mem_cons_self
    obtain ⟨qs, g1, g2, g3⟩ := qus_ex ds fun x hx => h x (List.mem_cons_of_mem _ hx)
    refine ⟨q :: qs, by rw [List.length_cons, List.length_cons, g1], fun m => ?_, fun x hx => (List.mem_cons.mp hx).elim (fun e => by rw [e]; exact h2) (g3 x)⟩
    unfold pOpt
    rw [h1 m, g2 m]
theorem qOk_bin (sb : Bool) (n : Nat) (k : Str) (ds : List PyData) (hk : k = "and" ∨ k = "or") (hl : ds.length ≤ 3) (h : ∀ q ∈ ds, qOk sb n q) : qOk sb (n + 1) (.tuple [.str k, .tuple ds]) := by
  obtain ⟨qs, l, h1, h2⟩ := qus_ex (f := fun m => quOf (m + n)) (R := QD sb (Bn n) (Pn n)) ds h
  have n1 : ¬ k = Str.ofString "not" := by rcases hk with rfl | rfl <;> decide +kernel
  have hb : ∀ o, QD sb (Bn (n + 1)) (Pn (n + 1)) (.bin o qs) := fun o => by
    refine ⟨?_, ?_, fun t ht => ?_, fun e r hr => ?_⟩
    · have := bin_s (o := o) fun q hq => (h2 q hq).s
      have := Nat.mul_le_mul_right (Bn n) (show qs.length ≤ 3 by omega)
      show _ ≤ 1 + 3 * Bn n
      omega
    · have := bin_p (o := o) fun q hq => (h2 q hq).p
      have := Nat.mul_le_mul_right (Pn n) (show qs.length ≤ 3 by omega)
      show _ ≤ 3 * Pn n
      omega
    · obtain ⟨q, hq, ht⟩ := pat_bin.mp ht
      exact (h2 q hq).t t ht
    · rw [subs_bin] at hr
      rcases List.mem_cons.mp hr with rfl | hr
      · rfl
      · obtain ⟨q, hq, hr⟩ := List.mem_flatMap.mp hr
        exact (h2 q (List.mem_reverse.mp hq)).r e r hr
  rcases hk with hk | hk
  · refine ⟨.bin false qs, fun m => quD_two.trans ((if_neg n1).trans ((if_neg (by rw [hk]; decide +kernel)).trans ((if_pos hk).trans ?_))), hb false⟩
    exact congrArg (Option.map (PP.Qu.bin false)) (h1 m)
  · refine ⟨.bin true qs, fun m => quD_two.trans ((if_neg n1).trans ((if_pos hk).trans ?_)), hb true⟩
    exact congrArg (Option.map (PP.Qu.bin true)) (h1 m)
end Q

namespace Q
open PySem L2 Y
local macro_rules
  | `(tactic| simp_arith $[$l:location]?) => `(tactic| simp_arith [] $[$l]?)
  | `(tactic| simp_arith [$ls,*] $[$l:location]?) => `(tactic| simp only [callX, xSeq, xIte, xB, x2, x1, xVar, xVarR, Sv.rd?, Sv.dat?, Sv.mut?, Sv.put, xC, xScrLen, xScrIx, fLt, fLe, fGt, fGe, fAdd, fSub, fNeg, fU, fII, fIIc, fMul, fMod, fDiv, fModN, fDivN, fPow, mulOk, divOk, modOk, modNOk, divNOk, powOk, boolD, xRet, xRetN, xMove, xNext, xSet, xSetN, xAsg, gSet, gTupX, gConsX, gNilX, xDn, Tr.toD, xN, xTup, xLst, xCons, xNil, xCall, agCons, agNil, gD, gL, Ad.sv, xApp, xLend, plMut, Tr.sub, Tr.put, xFor, xNotT, xAndT, xOrT, xYes, cInt, cLen, rng1D, rng2D, listD, tupD, fIxL, fIxT, fEq, fNe, shortB,
      List.length_cons, List.length_nil, List.length_map, List.cons_append, List.nil_append, List.replicate, List.getElem?_cons_zero, List.getElem?_cons_succ, List.getElem?_nil, List.set_cons_zero, List.set_cons_succ, List.map_cons, List.map_nil, Option.map_some, Option.map_none, Option.bind_some, Option.bind_none, Nat.zero_add, Nat.reduceAdd, Nat.zero_le, sizeLine_eq, Nat.reduceLeDiff, Nat.reduceLT, Nat.reducePow, Int.reduceLE, Int.reduceLT, Int.reducePow, Bool.not_true, Bool.not_false, Int.reduceNeg, Int.reduceAdd, Int.reduceSub, Int.reduceMul, Int.reduceEq, Nat.reduceEqDiff, ne_eq, not_false_eq_true, not_true_eq_false, Int.reduceToNat, Int.reduceAbs, and_self, true_and, and_true, or_true, true_or, if_true, if_false, reduceIte, Bool.false_eq_true, decide_true, decide_false, clean, reduceCtorEq, $ls,*] $[$l]?)
abbrev QE (sb : Bool) (ds : List Int) (a d : Int) (s3 s4 s5 s6 s7 : Sv) : Env := [.arg (boxT ds a), .own (.dat (.int d)), .own (.dat (.bool sb)), s3, s4, s5, s6, s7]
def dr (m : Int) : XD := xDn (xCallM 0 x__law_draw (agCons (gD (xC (.int m))) agNil))
def qM : XS := xIte (xAndT (xNotT (xB (xVar 2))) (xB (x2 (dr 2) (xC (.int 0)) fEq))) (xSeq (xSet 5 (x2 (x2 (xC (.int 1)) (dr 4) fAdd) (x2 (xC (.int 2)) (x2 (dr 6) (xC (.int 5)) fDiv) fMul) fAdd)) (xSet 6 (x2 (dr 4) (x2 (dr 3) (xC (.int 2)) fDiv) fMul))) xNext
theorem p_qM (sb : Bool) (ds : List Int) (a d : Int) (s4 : Sv) (ha : 0 ≤ a) (hl : ds.length ≤ 4000) : ∃ (m g a' : Int), 0 ≤ a' ∧ 1 ≤ m ∧ m ≤ 6 ∧ (sb = true → m = 1) ∧ 0 ≤ g ∧ qM (QE sb ds a d .un s4 (.own (.dat (.int 1))) (.own (.dat (.int 0))) .un) = some (.nx (QE sb ds a' d .un s4 (.own (.dat (.int m))) (.own (.dat (.int g))) .un)) := by
  cases sb with
  | true =>
    refine ⟨1, 0, a, ha, by omega, by omega, fun _ => rfl, by omega, ?_⟩
    unfold qM dr QE
    generalize boxT ds a = B1
    simp_arith []
  | false =>
  obtain ⟨r, r0, r1, hr⟩ := p_draw ds a 2 ha (by decide) hl
  by_cases c : r = 0
  · obtain ⟨u, u0, u1, hu⟩ := p_draw ds (a + 1) 4 (by omega) (by decide) hl
    obtain ⟨v, v0, v1, hv⟩ := p_draw ds (a + 1 + 1) 6 (by omega) (by decide) hl
    obtain ⟨x, x0, x1', hx⟩ := p_draw ds (a + 1 + 1 + 1) 4 (by omega) (by decide) hl
    obtain ⟨y, y0, y1, hy⟩ := p_draw ds (a + 1 + 1 + 1 + 1) 3 (by omega) (by decide) hl
    obtain ⟨v5, hv5, v50, v51⟩ : ∃ z : Int, v / 5 = z ∧ 0 ≤ z ∧ z ≤ 1 := ⟨_, rfl, by omega, by omega⟩
    obtain ⟨y2, hy2, y20, y21⟩ : ∃ z : Int, y / 2 = z ∧ 0 ≤ z ∧ z ≤ 1 := ⟨_, rfl, by omega, by omega⟩
    obtain ⟨w, hw⟩ : ∃ z : Int, 2 * v5 = z := ⟨_, rfl⟩
    obtain ⟨m, hm⟩ : ∃ z : Int, 1 + u + w = z := ⟨_, rfl⟩
    obtain ⟨g, hg, g0⟩ : ∃ z : Int, x * y2 = z ∧ 0 ≤ z := ⟨_, rfl, Int.mul_nonneg x0 y20⟩
    have m1 : (-18446744073709551616 < v5 ∧ v5 < 18446744073709551616) := ⟨by omega, by omega⟩
    have m2 : (-18446744073709551616 < x ∧ x < 18446744073709551616) := ⟨by omega, by omega⟩
    have m3 : (-18446744073709551616 < v ∧ v < 18446744073709551616) := ⟨by omega, by omega⟩
    have m4 : (-18446744073709551616 < y ∧ y < 18446744073709551616) := ⟨by omega, by omega⟩
    refine ⟨m, g, a + 1 + 1 + 1 + 1 + 1, by omega, by omega, by omega, (fun z => nomatch z), g0, ?_⟩
    unfold qM dr QE
    subst c
    generalize boxT ds a = B1 at hr ⊢
    generalize boxT ds (a + 1) = B2 at hr hu ⊢
    generalize boxT ds (a + 1 + 1) = B3 at hu hv ⊢
    generalize boxT ds (a + 1 + 1 + 1) = B4 at hv hx ⊢
    generalize boxT ds (a + 1 + 1 + 1 + 1) = B5 at hx hy ⊢
    generalize boxT ds (a + 1 + 1 + 1 + 1 + 1) = B6 at hy ⊢
    simp_arith [xCallM, afterM, hr, hu, hv, hx, hy, hv5, hy2, hw, hm, hg, m1, m2, m3, m4]
  · refine ⟨1, 0, a + 1, by omega, by omega, by omega, (fun z => nomatch z), by omega, ?_⟩
    unfold qM dr QE
    generalize boxT ds a = B1 at hr ⊢
    generalize boxT ds (a + 1) = B2 at hr ⊢
    simp_arith [xCallM, afterM, hr, decide_eq_false c]
def qPs : XD := x1 (xCons (xDn (xLc (x1 (xCons (xVarR 5) xNil) rng1D) (gSet 3) xYes (xDn (xCallM 0 x__law_pattern agNil)) [3])) xNil) cTup
theorem p_qPs (sb : Bool) (ds : List Int) (a d m : Int) (s4 s6 : Sv) (ha : 0 ≤ a) (hl : ds.length ≤ 4000) (h1 : 1 ≤ m) (h2 : m ≤ 6) : ∃ (ps : List PyData) (a' : Int), 0 ≤ a' ∧ (ps.length : Int) = m ∧ (∀ p ∈ ps, ∃ k z : Str, p = .tuple [.str k, .str z] ∧ (z.length ≤ 12 ∧ 1 ≤ z.length) ∧ codesB z = true) ∧ qPs (QE sb ds a d .un s4 (.own (.dat (.int m))) s6 .un) = some (.tuple ps, QE sb ds a' d .un s4 (.own (.dat (.int m))) s6 .un) := by
  have hil : (intsD 0 m.toNat).length = m.toNat := by simp [intsD]
  obtain ⟨out, e', g1, g2, g3, a', g4, rfl⟩ := lc_goI (tg := gSet 3) (elt := xDn (xCallM 0 x__law_pattern agNil)) (vs := [3]) (fun e => ∃ a' : Int, 0 ≤ a' ∧ e = QE sb ds a' d .un s4 (.own (.dat (.int m))) s6 .un) (fun c => ∃ k z : Str, c = .tuple [.str k, .str z] ∧ (z.length ≤ 12 ∧ 1 ≤ z.length) ∧ codesB z = true) (intsD 0 m.toNat) (QE sb ds a d .un s4 (.own (.dat (.int m))) s6 .un) ⟨a, ha, rfl⟩ (by
    rintro x hx _ ⟨a', ha', rfl⟩
    obtain ⟨k, z, a2, b1, b2, b4, _, b3⟩ := p_pattern ds a' ha' hl
    refine ⟨QE sb ds a' d (.own (.dat x)) s4 (.own (.dat (.int m))) s6 .un, _, QE sb ds a2 d (.own (.dat x)) s4 (.own (.dat (.int m))) s6 .un, rfl, ?_, ⟨k, z, rfl, b2, b4⟩, a2, b1, rfl⟩
    unfold QE
    generalize boxT ds a' = B1 at b3 ⊢
    generalize boxT ds a2 = B2 at b3 ⊢
    simp_arith [xCallM, afterM, b3])
  have hr2 : -4611686018427387904 ≤ m ∧ m < 4611686018427387904 := ⟨by omega, by omega⟩
  refine ⟨out, a', g4, by omega, g3, ?_⟩
  have c1 : xLc (x1 (xCons (xVarR 5) xNil) rng1D) (gSet 3) xYes (xDn (xCallM 0 x__law_pattern agNil)) [3] (QE sb ds a d .un s4 (.own (.dat (.int m))) s6 .un) = some (.lst out, QE sb ds a' d .un s4 (.own (.dat (.int m))) s6 .un) := by
    refine lc_eq (e1 := QE sb ds a d .un s4 (.own (.dat (.int m))) s6 .un) (e2 := QE sb ds a' d .un s4 (.own (.dat (.int m))) s6 .un) (ds := intsD 0 m.toNat) ?_ rfl (by rw [hil, sizeLine_eq]; omega) g1 rfl rfl
    unfold QE
    simp_arith [decide_eq_true hr2]
  have l1 : out.length ≤ 16777216 := by omega
  unfold qPs
  generalize xLc (x1 (xCons (xVarR 5) xNil) rng1D) (gSet 3) xYes (xDn (xCallM 0 x__law_pattern agNil)) [3] = X at c1 ⊢
  unfold QE at *
  simp_arith [c1, cTup, decide_eq_true l1]
def qRow : XS := xRet (xTup (xCons (xC (.str "row")) (xCons qPs (xCons (xVar 6) xNil))))
def qSub (xr : Env → Option (Tr × Env)) : XD := xDn (xCallM 0 xr (agCons (gD (x2 (xVarR 1) (xC (.int 1)) fSub)) (agCons (gD (xVar 2)) agNil)))
def qPar (xr : Env → Option (Tr × Env)) : XS := xSet 7 (xDn (xLc (x1 (xCons (x2 (xC (.int 2)) (x2 (dr 3) (xC (.int 2)) fDiv) fAdd) xNil) rng1D) (gSet 3) xYes (qSub xr) [3]))
/-- what is promised of a drawn question below depth d -/
def QP (sb : Bool) (xr : Env → Option (Tr × Env)) (ds : List Int) (d : Int) : Prop := ∀ a : Int, 0 ≤ a → ∃ (q : PyData) (a' : Int), 0 ≤ a' ∧ qOk sb (d.toNat + 1) q ∧ xr [.arg (boxT ds a), .own (.dat (.int d)), .own (.dat (.bool sb))] = some (.dat q, [.arg (boxT ds a'), .un, .un])
theorem p_qSub {sb : Bool} {xr : Env → Option (Tr × Env)} (ds : List Int) (a d : Int) (s3 s4 s5 s6 s7 : Sv) (ha : 0 ≤ a) (hd : 1 ≤ d) (hd3 : d ≤ 9) (h : QP sb xr ds (d - 1)) : ∃ (q : PyData) (a' : Int), 0 ≤ a' ∧ qOk sb d.toNat q ∧ qSub xr (QE sb ds a d s3 s4 s5 s6 s7) = some (q, QE sb ds a' d s3 s4 s5 s6 s7) := by
  obtain ⟨q, a', h1, h2, h3⟩ := h a ha
  refine ⟨q, a', h1, by rw [show (d - 1).toNat + 1 = d.toNat by omega] at h2; exact h2, ?_⟩
  unfold qSub QE
  generalize boxT ds a = B1 at h3 ⊢
  generalize boxT ds a' = B2 at h3 ⊢
  simp_arith [xCallM, afterM, h3]
theorem p_qPar {sb : Bool} {xr : Env → Option (Tr × Env)} (ds : List Int) (a d : Int) (s4 s5 s6 : Sv) (ha : 0 ≤ a) (hl : ds.length ≤ 4000) (hd : 1 ≤ d) (hd3 : d ≤ 9) (h : QP sb xr ds (d - 1)) : ∃ (qs : List PyData) (a' : Int), 0 ≤ a' ∧ qs.length ≤ 3 ∧ (∀ q ∈ qs, qOk sb d.toNat q) ∧ qPar xr (QE sb ds a d .un s4 s5 s6 .un) = some (.nx (QE sb ds a' d .un s4 s5 s6 (.own (.dat (.list qs))))) := by
  obtain ⟨r, r0, r1, hr⟩ := p_draw ds a 3 ha (by decide) hl
  obtain ⟨r2, hr2, r20, r21⟩ : ∃ z : Int, r / 2 = z ∧ 0 ≤ z ∧ z ≤ 1 := ⟨_, rfl, by omega, by omega⟩
  obtain ⟨m, hm⟩ : ∃ z : Int, 2 + r2 = z := ⟨_, rfl⟩
  have hil : (intsD 0 m.toNat).length = m.toNat := by simp [intsD]
  obtain ⟨out, e', g1, g2, g3, a', g4, rfl⟩ := lc_goI (tg := gSet 3) (elt := qSub xr) (vs := [3]) (fun e => ∃ a' : Int, 0 ≤ a' ∧ e = QE sb ds a' d .un s4 s5 s6 .un) (fun c => qOk sb d.toNat c) (intsD 0 m.toNat) (QE sb ds (a + 1) d .un s4 s5 s6 .un) ⟨a + 1, by omega, rfl⟩ (by
    rintro x hx _ ⟨a', ha', rfl⟩
    obtain ⟨q, a2, b1, b2, b3⟩ := p_qSub (xr := xr) ds a' d (.own (.dat x)) s4 s5 s6 .un ha' hd hd3 h
    exact ⟨QE sb ds a' d (.own (.dat x)) s4 s5 s6 .un, q, QE sb ds a2 d (.own (.dat x)) s4 s5 s6 .un, rfl, b3, b2, a2, b1, rfl⟩)
  have hr3 : -4611686018427387904 ≤ m ∧ m < 4611686018427387904 := ⟨by omega, by omega⟩
  refine ⟨out, a', g4, by omega, g3, ?_⟩
  have c1 : xLc (x1 (xCons (x2 (xC (.int 2)) (x2 (dr 3) (xC (.int 2)) fDiv) fAdd) xNil) rng1D) (gSet 3) xYes (qSub xr) [3] (QE sb ds a d .un s4 s5 s6 .un) = some (.lst out, QE sb ds a' d .un s4 s5 s6 .un) := by
    refine lc_eq (e1 := QE sb ds (a + 1) d .un s4 s5 s6 .un) (e2 := QE sb ds a' d .un s4 s5 s6 .un) (ds := intsD 0 m.toNat) ?_ rfl (by rw [hil, sizeLine_eq]; omega) g1 rfl rfl
    unfold dr QE
    generalize boxT ds a = B1 at hr ⊢
    generalize boxT ds (a + 1) = B2 at hr ⊢
    simp_arith [xCallM, afterM, hr, hr2, hm, decide_eq_true hr3]
  unfold qPar
  generalize xLc (x1 (xCons (x2 (xC (.int 2)) (x2 (dr 3) (xC (.int 2)) fDiv) fAdd) xNil) rng1D) (gSet 3) xYes (qSub xr) [3] = X at c1 ⊢
  unfold QE at *
  simp_arith [c1]
theorem b_question_eq (xr : Env → Option (Tr × Env)) : b__law_question xr = xSeq (xSet 4 (dr 8)) (xSeq (xIte (xOrT (xB (x2 (xVarR 1) (xC (.int 0)) fEq)) (xB (x2 (xVarR 4) (xC (.int 3)) fLt))) (xSeq (xIte (xB (x2 (dr 9) (xC (.int 0)) fEq)) (xRet (xTup (xCons (xC (.str "all")) xNil))) xNext) (xSeq (xSet 5 (xC (.int 1))) (xSeq (xSet 6 (xC (.int 0))) (xSeq qM qRow)))) xNext) (xSeq (xIte (xB (x2 (xVarR 4) (xC (.int 3)) fEq)) (xRet (xTup (xCons (xC (.str "not")) (xCons (qSub xr) xNil)))) xNext) (xSeq (qPar xr) (xRet (xTup (xCons (x2 (xDn (xLst (xCons (xC (.str "and")) (xCons (xC (.str "or")) xNil)))) (x2 (x1 (xCons (xVarR 4) xNil) cInt) (xC (.int 2)) fMod) fIxL) (xCons (x1 (xCons (xVarR 7) xNil) cTup) xNil))))))) := rfl
end Q

namespace Q
open PySem L2 Y
local macro_rules
  | `(tactic| simp_arith $[$l:location]?) => `(tactic| simp_arith [] $[$l]?)
  | `(tactic| simp_arith [$ls,*] $[$l:location]?) => `(tactic| simp only [callX, xSeq, xIte, xB, x2, x1, xVar, xVarR, Sv.rd?, Sv.dat?, Sv.mut?, Sv.put, xC, xScrLen, xScrIx, fLt, fLe, fGt, fGe, fAdd, fSub, fNeg, fU, fII, fIIc, fMul, fMod, fDiv, fModN, fDivN, fPow, mulOk, divOk, modOk, modNOk, divNOk, powOk, boolD, xRet, xRetN, xMove, xNext, xSet, xSetN, xAsg, gSet, gTupX, gConsX, gNilX, xDn, Tr.toD, xN, xTup, xLst, xCons, xNil, xCall, agCons, agNil, gD, gL, Ad.sv, xApp, xLend, plMut, Tr.sub, Tr.put, xFor, xNotT, xAndT, xOrT, xYes, cInt, cLen, rng1D, rng2D, listD, tupD, fIxL, fIxT, fEq, fNe, shortB,
      List.length_cons, List.length_nil, List.length_map, List.cons_append, List.nil_append, List.replicate, List.getElem?_cons_zero, List.getElem?_cons_succ, List.getElem?_nil, List.set_cons_zero, List.set_cons_succ, List.map_cons, List.map_nil, Option.map_some, Option.map_none, Option.bind_some, Option.bind_none, Nat.zero_add, Nat.reduceAdd, Nat.zero_le, sizeLine_eq, Nat.reduceLeDiff, Nat.reduceLT, Nat.reducePow, Int.reduceLE, Int.reduceLT, Int.reducePow, Bool.not_true, Bool.not_false, Int.reduceNeg, Int.reduceAdd, Int.reduceSub, Int.reduceMul, Int.reduceEq, Nat.reduceEqDiff, ne_eq, not_false_eq_true, not_true_eq_false, Int.reduceToNat, Int.reduceAbs, and_self, true_and, and_true, or_true, true_or, if_true, if_false, reduceIte, Bool.false_eq_true, decide_true, decide_false, clean, reduceCtorEq, $ls,*] $[$l]?)
theorem seq_ret {a b : XS} {env e : Env} {t : Tr} (h : a env = some (.ret t e)) : xSeq a b env = some (.ret t e) := by unfold xSeq; rw [h]
theorem p_qstep (sb : Bool) {xr : Env → Option (Tr × Env)} (ds : List Int) (d : Int) (hl : ds.length ≤ 4000) (hd : 0 ≤ d) (hd3 : d ≤ 9) (h : 1 ≤ d → QP sb xr ds (d - 1)) : QP sb (callX 3 5 (b__law_question xr)) ds d := fun a ha => by
  obtain ⟨r, r0, r1, hr⟩ := p_draw ds a 8 ha (by decide) hl
  have s1 : xSet 4 (dr 8) (QE sb ds a d .un .un .un .un .un) = some (.nx (QE sb ds (a + 1) d .un (.own (.dat (.int r))) .un .un .un)) := by
    unfold dr QE
    generalize boxT ds a = B1 at hr ⊢
    generalize boxT ds (a + 1) = B2 at hr ⊢
    simp_arith [xCallM, afterM, hr]
  have fin : ∀ {q : PyData} {a' : Int} {s3 s4 s5 s6 s7 : Sv}, b__law_question xr (QE sb ds a d .un .un .un .un .un) = some (.ret (.dat q) (QE sb ds a' d s3 s4 s5 s6 s7)) → callX 3 5 (b__law_question xr) [.arg (boxT ds a), .own (.dat (.int d)), .own (.dat (.bool sb))] = some (.dat q, [.arg (boxT ds a'), .un, .un]) := fun {q a' s3 s4 s5 s6 s7} e => callX_eq (n := 3) (m := 5) (body := b__law_question xr) (as := [.arg (boxT ds a), .own (.dat (.int d)), .own (.dat (.bool sb))]) (e := QE sb ds a' d s3 s4 s5 s6 s7) rfl e
  rw [b_question_eq] at fin
  by_cases c : d = 0 ∨ r < 3
  · have t1 : xOrT (xB (x2 (xVarR 1) (xC (.int 0)) fEq)) (xB (x2 (xVarR 4) (xC (.int 3)) fLt)) (QE sb ds (a + 1) d .un (.own (.dat (.int r))) .un .un .un) = some (true, QE sb ds (a + 1) d .un (.own (.dat (.int r))) .un .un .un) := by
      by_cases c1 : d = 0
      · unfold QE
        simp_arith [decide_eq_true c1]
      · have c2 : r < 3 := c.resolve_left c1
        unfold QE
        simp_arith [decide_eq_false c1, decide_eq_true c2]
    obtain ⟨u, u0, u1, hu⟩ := p_draw ds (a + 1) 9 (by omega) (by decide) hl
    have t2 : xB (x2 (dr 9) (xC (.int 0)) fEq) (QE sb ds (a + 1) d .un (.own (.dat (.int r))) .un .un .un) = some (decide (u = 0), QE sb ds (a + 1 + 1) d .un (.own (.dat (.int r))) .un .un .un) := by
      unfold dr QE
      generalize boxT ds (a + 1) = B1 at hu ⊢
      generalize boxT ds (a + 1 + 1) = B2 at hu ⊢
      simp_arith [xCallM, afterM, hu]
    by_cases cu : u = 0
    · rw [decide_eq_true cu] at t2
      refine ⟨_, a + 1 + 1, by omega, qOk_all sb d.toNat, fin (s3 := .un) (s4 := .own (.dat (.int r))) (s5 := .un) (s6 := .un) (s7 := .un) ?_⟩
      refine (seq_nx s1).trans ?_
      have e1 : xIte (xB (x2 (dr 9) (xC (.int 0)) fEq)) (xRet (xTup (xCons (xC (.str "all")) xNil))) xNext (QE sb ds (a + 1) d .un (.own (.dat (.int r))) .un .un .un) = some (.ret (.dat (.tuple [.str "all"])) (QE sb ds (a + 1 + 1) d .un (.own (.dat (.int r))) .un .un .un)) := (ite_eqT t2).trans rfl
      unfold xSeq
      rw [ite_eqT t1]
      rw [e1]
    · rw [decide_eq_false cu] at t2
      obtain ⟨m, g, a2, g1, g2, g3, gs, g4, g5⟩ := p_qM sb ds (a + 1 + 1) d (.own (.dat (.int r))) (by omega) hl
      obtain ⟨ps, a3, f1, f2, f4, f5⟩ := p_qPs sb ds a2 d m (.own (.dat (.int r))) (.own (.dat (.int g))) g1 hl g2 g3
      refine ⟨_, a3, f1, qOk_row sb d.toNat ps g (by omega) (fun z => by have := gs z; omega) g4 f4, fin (s3 := .un) (s4 := .own (.dat (.int r))) (s5 := .own (.dat (.int m))) (s6 := .own (.dat (.int g))) (s7 := .un) ?_⟩
      refine (seq_nx s1).trans ?_
      have e2 : qRow (QE sb ds a2 d .un (.own (.dat (.int r))) (.own (.dat (.int m))) (.own (.dat (.int g))) .un) = some (.ret (.dat (.tuple [.str "row", .tuple ps, .int g])) (QE sb ds a3 d .un (.own (.dat (.int r))) (.own (.dat (.int m))) (.own (.dat (.int g))) .un)) := by
        unfold qRow
        generalize qPs = X at f5 ⊢
        unfold QE at *
        simp_arith [f5]
      have e1 : xSeq (xIte (xB (x2 (dr 9) (xC (.int 0)) fEq)) (xRet (xTup (xCons (xC (.str "all")) xNil))) xNext) (xSeq (xSet 5 (xC (.int 1))) (xSeq (xSet 6 (xC (.int 0))) (xSeq qM qRow))) (QE sb ds (a + 1) d .un (.own (.dat (.int r))) .un .un .un) = some (.ret (.dat (.tuple [.str "row", .tuple ps, .int g])) (QE sb ds a3 d .un (.own (.dat (.int r))) (.own (.dat (.int m))) (.own (.dat (.int g))) .un)) :=
        (seq_nx (e := QE sb ds (a + 1 + 1) d .un (.own (.dat (.int r))) .un .un .un) ((ite_eqF t2).trans rfl)).trans ((seq_nx (e := QE sb ds (a + 1 + 1) d .un (.own (.dat (.int r))) (.own (.dat (.int 1))) .un .un) rfl).trans ((seq_nx (e := QE sb ds (a + 1 + 1) d .un (.own (.dat (.int r))) (.own (.dat (.int 1))) (.own (.dat (.int 0))) .un) rfl).trans ((seq_nx g5).trans e2)))
      have e3 := (ite_eqT (a := xSeq (xIte (xB (x2 (dr 9) (xC (.int 0)) fEq)) (xRet (xTup (xCons (xC (.str "all")) xNil))) xNext) (xSeq (xSet 5 (xC (.int 1))) (xSeq (xSet 6 (xC (.int 0))) (xSeq qM qRow)))) (b := xNext) t1).trans e1
      exact seq_ret e3
  · have c1 : ¬ d = 0 := fun z => c (.inl z)
    have c2 : ¬ r < 3 := fun z => c (.inr z)
    have t1 : xOrT (xB (x2 (xVarR 1) (xC (.int 0)) fEq)) (xB (x2 (xVarR 4) (xC (.int 3)) fLt)) (QE sb ds (a + 1) d .un (.own (.dat (.int r))) .un .un .un) = some (false, QE sb ds (a + 1) d .un (.own (.dat (.int r))) .un .un .un) := by
      unfold QE
      simp_arith [decide_eq_false c1, decide_eq_false c2]
    have hq := h (by omega)
    by_cases c3 : r = 3
    · have t3 : xB (x2 (xVarR 4) (xC (.int 3)) fEq) (QE sb ds (a + 1) d .un (.own (.dat (.int r))) .un .un .un) = some (true, QE sb ds (a + 1) d .un (.own (.dat (.int r))) .un .un .un) := by
        unfold QE
        simp_arith [decide_eq_true c3]
      obtain ⟨q, a2, g1, g2, g3⟩ := p_qSub ds (a + 1) d .un (.own (.dat (.int r))) .un .un .un (by omega) (by omega) hd3 hq
      refine ⟨_, a2, g1, qOk_not sb d.toNat q g2, fin (s3 := .un) (s4 := .own (.dat (.int r))) (s5 := .un) (s6 := .un) (s7 := .un) ?_⟩
      refine (seq_nx s1).trans ((seq_nx ((ite_eqF t1).trans rfl)).trans (seq_ret ((ite_eqT t3).trans ?_)))
      generalize qSub xr = X at g3 ⊢
      unfold QE at *
      simp_arith [g3]
    · have t3 : xB (x2 (xVarR 4) (xC (.int 3)) fEq) (QE sb ds (a + 1) d .un (.own (.dat (.int r))) .un .un .un) = some (false, QE sb ds (a + 1) d .un (.own (.dat (.int r))) .un .un .un) := by
        unfold QE
        simp_arith [decide_eq_false c3]
      obtain ⟨qs, a2, g1, g2, g3, g4⟩ := p_qPar ds (a + 1) d (.own (.dat (.int r))) .un .un (by omega) hl (by omega) hd3 hq
      obtain ⟨b, hb, b0, b1⟩ : ∃ b : Int, r % 2 = b ∧ 0 ≤ b ∧ b < 2 := ⟨_, rfl, by omega, by omega⟩
      obtain ⟨k, hk, ek⟩ := atI_strs (["and", "or"] : List Str) b 2 rfl b0 b1
      have hk2 : k = "and" ∨ k = "or" := by simpa using hk
      refine ⟨_, a2, g1, qOk_bin sb d.toNat k qs hk2 g2 g3, fin (s3 := .un) (s4 := .own (.dat (.int r))) (s5 := .un) (s6 := .un) (s7 := .own (.dat (.list qs))) ?_⟩
      refine (seq_nx s1).trans ((seq_nx ((ite_eqF t1).trans rfl)).trans ((seq_nx ((ite_eqF t3).trans rfl)).trans ((seq_nx g4).trans ?_)))
      simp only [List.map_cons, List.map_nil] at ek
      have l1 : qs.length ≤ 16777216 := by omega
      unfold QE
      generalize boxT ds a2 = B2
      simp_arith [hb, ek, cTup, decide_eq_true l1]
theorem p_qrec (sb : Bool) (ds : List Int) (hl : ds.length ≤ 4000) : ∀ (n : Nat) (d : Int), 0 ≤ d → d ≤ 9 → d < n → QP sb (xr__law_question n) ds d
  | 0, d, h0, _, h1 => by omega
  | n + 1, d, h0, h9, h1 => p_qstep sb ds d hl h0 h9 fun hd => p_qrec sb ds hl n (d - 1) (by omega) (by omega) (by omega)
theorem p_question (sb : Bool) (ds : List Int) (a d : Int) (ha : 0 ≤ a) (hl : ds.length ≤ 4000) (h0 : 0 ≤ d) (h3 : d ≤ 3) : ∃ (q : PyData) (a' : Int), 0 ≤ a' ∧ qOk sb (d.toNat + 1) q ∧ x__law_question [.arg (boxT ds a), .own (.dat (.int d)), .own (.dat (.bool sb))] = some (.dat q, [.arg (boxT ds a'), .un, .un]) := p_qrec sb ds hl 8 d h0 (by omega) (by omega) a ha
end Q

namespace Q
open PySem L2 Y
theorem go_consT {tg : XT} {body : XS} {d : PyData} {ds : List PyData} {e e1 e2 : Env} (h1 : tg d e = some e1) (h2 : body e1 = some (.nx e2)) : forGo tg body (d :: ds) e = forGo tg body ds e2 := by
  conv => lhs; unfold forGo
  rw [h1]
  dsimp only
  rw [h2]
theorem shT {n : Nat} (h : n ≤ 1000000) : shortB n = true := decide_eq_true (by unfold sizeLine; omega)
theorem xDnT {A : XN} {env e : Env} {l : List PyData} (h : A env = some (.lst l, e)) : xDn A env = some (.list l, e) := by
  unfold xDn
  rw [h]; rfl
theorem lc_mapA {α : Type} {tg : XT} {elt : XD} {vs : List Nat} {E : Env} {f c : α → PyData} {E1 : α → Env} : ∀ as : List α, (∀ a ∈ as, tg (f a) E = some (E1 a) ∧ elt (E1 a) = some (c a, E1 a) ∧ wipeX (E1 a) vs = E) → lcGo tg xYes elt vs (as.map f) E = some (as.map c, E)
  | [], _ => rfl
  | a :: as, h => by
    obtain ⟨h1, h2, h3⟩ := h a List.mem_cons_self
    have ih := lc_mapA as fun b hb => h b (List.mem_cons_of_mem _ hb)
    rw [List.map_cons, List.map_cons]
    unfold lcGo
    rw [h1]
    dsimp only [xYes]
    rw [h2]
    dsimp only
    rw [h3, ih]
    rfl
theorem xLc_eq {src : XA} {tg : XT} {tst : XB} {elt : XD} {vs : List Nat} {env e1 e2 : Env} {ds out : List PyData} (h1 : src env = some (ds, e1)) (h2 : calmX e1 vs = true) (h3 : ds.length ≤ 999999) (h4 : lcGo tg tst elt vs ds (wipeX e1 vs) = some (out, e2)) (h5 : unX e2 vs = true) : xLc src tg tst elt vs env = some (.lst out, restoreX e1 vs e2) := by
  unfold xLc
  rw [h1]
  dsimp only
  rw [if_pos ⟨h2, shT (by omega)⟩, h4]
  dsimp only
  rw [if_pos h5]
theorem x2T {α β γ : Type} {A : Env → Option (α × Env)} {B : Env → Option (β × Env)} {f : α → β → Option γ} {env e1 e2 : Env} {a : α} {b : β} {c : γ} (h1 : A env = some (a, e1)) (h2 : B e1 = some (b, e2)) (h3 : f a b = some c) : x2 A B f env = some (c, e2) := by
  unfold x2
  rw [h1]
  dsimp only
  rw [h2]
  dsimp only
  rw [h3]; rfl
theorem x1T {α γ : Type} {A : Env → Option (α × Env)} {f : α → Option γ} {env e1 : Env} {a : α} {c : γ} (h1 : A env = some (a, e1)) (h3 : f a = some c) : x1 A f env = some (c, e1) := by
  unfold x1
  rw [h1]
  dsimp only
  rw [h3]; rfl
theorem one_T {A : XD} {env e1 : Env} {a : PyData} (h : A env = some (a, e1)) : xCons A xNil env = some ([a], e1) := by
  unfold xCons
  exact x2T h rfl rfl
theorem retT {x : XD} {env e1 : Env} {d : PyData} (h : x env = some (d, e1)) : xRet x env = some (.ret (.dat d) e1) := by
  unfold xRet
  rw [h]; rfl
theorem callT {n m : Nat} {body : XS} {as e : Env} {t : Tr} (hl : as.length = n) (h : body (as ++ List.replicate m .un) = some (.ret t e)) : callX n m body as = some (t, clean n e) := by
  unfold callX
  rw [if_pos hl, h]
theorem catTT {a b : List PyData} (h : a.length + b.length ≤ 1000000) : fCatT (.tuple a) (.tuple b) = some (.tuple (a ++ b)) := by
  unfold fCatT
  dsimp only
  rw [if_pos (shT h)]
theorem tupT {A : XA} {env e1 : Env} {ds : List PyData} (h : A env = some (ds, e1)) (hl : ds.length ≤ 1000000) : xTup A env = some (.tuple ds, e1) := by
  unfold xTup
  rw [x1T h (if_pos (shT hl))]
theorem seqT {A B : XS} {env e1 : Env} (h : A env = some (.nx e1)) : xSeq A B env = B e1 := by
  unfold xSeq
  rw [h]
theorem catLT {a b : List PyData} (h : a.length + b.length ≤ 1000000) : (fCat (.list a) (.list b)).map Tr.lst = some (.lst (a ++ b)) := by
  unfold fCat
  dsimp only
  rw [if_pos (shT h)]; rfl
theorem call1T {A : XD} {env e1 er : Env} {d r : PyData} {f : Env → Option (Tr × Env)} (h : A env = some (d, e1)) (hf : f [.own (.dat d)] = some (.dat r, er)) : xDn (xCall f (agCons (gD A) agNil)) env = some (r, e1) := by
  have h1 : agCons (gD A) agNil env = some ([Ad.d d], e1) := x2T (x1T h rfl) rfl rfl
  have h2 : xCall f (agCons (gD A) agNil) env = some (.dat r, e1) := x1T h1 (by show (f [.own (.dat d)]).map _ = _; rw [hf]; rfl)
  unfold xDn
  rw [h2]; rfl
theorem catLx {A B : XD} {env e1 e2 : Env} {a b : List PyData} (h1 : A env = some (.list a, e1)) (h2 : B e1 = some (.list b, e2)) (hl : a.length + b.length ≤ 1000000) : xDn (x2 A B fun d e => (fCat d e).map Tr.lst) env = some (.list (a ++ b), e2) := xDnT (x2T h1 h2 (catLT hl))
theorem call1L {A : XD} {env e1 er : Env} {d : PyData} {r : List PyData} {f : Env → Option (Tr × Env)} (h : A env = some (d, e1)) (hf : f [.own (.dat d)] = some (.lst r, er)) : xDn (xCall f (agCons (gD A) agNil)) env = some (.list r, e1) := by
  have h1 : agCons (gD A) agNil env = some ([Ad.d d], e1) := x2T (x1T h rfl) rfl rfl
  exact xDnT (x1T h1 (by show (f [.own (.dat d)]).map _ = _; rw [hf]; rfl))
theorem lst1T {A : XD} {env e1 : Env} {a : PyData} (h : A env = some (a, e1)) : xDn (xLst (xCons A xNil)) env = some (.list [a], e1) := by
  refine xDnT ?_
  unfold xLst
  rw [x1T (one_T h) (if_pos (shT (by show 1 ≤ 1000000; decide)))]
def isDataT : Tr → Bool
  | .dat _ => true
  | _ => false
theorem lend_own {α : Type} {x : Env → Option (α × Env)} {i : Nat} {env : Env} {t : Tr} {v : α} (h1 : env[i]? = some (.own t)) (h2 : isDataT t = false) (h : x (env.set i (.lent t)) = some (v, env.set i (.lent t))) : xLend i x env = some (v, env) := by
  unfold xLend
  have e : env.set i (Sv.own t) = env := by
    have h3 := List.getElem?_eq_some_iff.mp h1
    rw [← h3.2]; exact List.set_getElem_self _
  rw [h1]
  cases t <;> first | (cases h2; done) | (dsimp only; rw [h]; show some (v, (env.set i _).set i _) = _; rw [List.set_set, e])
theorem okn_mono {n m : Nat} {d : PyData} (h : okn n d) (hm : n ≤ m) : okn m d := ⟨h.1, h.2.1, Nat.le_trans h.2.2 hm⟩
theorem skipF {c : XB} {a : XS} {env : Env} (h : c env = some (false, env)) : xIte c a xNext env = some (.nx env) := by
  unfold xIte
  rw [h]; rfl
theorem seqR {A B : XS} {env e1 : Env} {t : Tr} (h : A env = some (.ret t e1)) : xSeq A B env = some (.ret t e1) := by
  unfold xSeq
  rw [h]
end Q

namespace Q
open PySem L2 Y
theorem plMut_eq {i : Nat} {ps : Path} {env : Env} {s : Sv} {tr t : Tr} (h0 : env[i]? = some s) (hs : s.mut? = some tr) (h1 : tr.sub ps = some t) : plMut i ps env = some (s, tr, t) := by
  unfold plMut
  rw [h0]
  dsimp only
  rw [hs]
  dsimp only
  rw [h1]; rfl
theorem set_eqT {a : XD} {i : Nat} {env e : Env} {d : PyData} {s : Sv} (h : a env = some (d, e)) (h2 : e[i]? = some s) : xSet i a env = some (.nx (e.set i (.own (.dat d)))) := by
  unfold xSet xAsg
  rw [h]
  dsimp only
  unfold gSet
  rw [h2]; rfl
theorem set_to {a : XD} {i : Nat} {env e e' : Env} {d : PyData} {s : Sv} (h : a env = some (d, e)) (h2 : e[i]? = some s) (he : e.set i (.own (.dat d)) = e') : xSet i a env = some (.nx e') := by rw [set_eqT h h2, he]
theorem setN_to {a : XN} {i : Nat} {env e e' : Env} {t : Tr} {s : Sv} (h : a env = some (t, e)) (h2 : e[i]? = some s) (he : e.set i (.own t) = e') : xSetN i a env = some (.nx e') := by
  unfold xSetN
  rw [h]
  dsimp only
  rw [h2, ← he]
theorem retNT {x : XN} {env e1 : Env} {t : Tr} (h : x env = some (t, e1)) : xRetN x env = some (.ret t e1) := by
  unfold xRetN
  rw [h]; rfl
theorem ag1 {a : XD} {env e1 : Env} {d : PyData} (h : a env = some (d, e1)) : agCons (gD a) agNil env = some ([Ad.d d], e1) := x2T (x1T h rfl) rfl rfl
theorem ag2 {a b : XD} {env e1 e2 : Env} {d1 d2 : PyData} (h : a env = some (d1, e1)) (h2 : b e1 = some (d2, e2)) : agCons (gD a) (agCons (gD b) agNil) env = some ([Ad.d d1, Ad.d d2], e2) := x2T (x1T h rfl) (ag1 h2) rfl
theorem ag3 {a b c : XD} {env e1 e2 e3 : Env} {d1 d2 d3 : PyData} (h : a env = some (d1, e1)) (h2 : b e1 = some (d2, e2)) (h3 : c e2 = some (d3, e3)) : agCons (gD a) (agCons (gD b) (agCons (gD c) agNil)) env = some ([Ad.d d1, Ad.d d2, Ad.d d3], e3) := x2T (x1T h rfl) (ag2 h2 h3) rfl
theorem callG {f : Env → Option (Tr × Env)} {g : XG} {env e1 er : Env} {ads : List Ad} {r : Tr} (h : g env = some (ads, e1)) (hf : f (ads.map Ad.sv) = some (r, er)) : xCall f g env = some (r, e1) := x1T h (by rw [hf]; rfl)
theorem xDnD' {A : XN} {env e : Env} {d : PyData} (h : A env = some (.dat d, e)) : xDn A env = some (d, e) := by
  unfold xDn
  rw [h]; rfl
theorem iteT {α : Type} {c : XB} {a b : Env → Option α} {env e : Env} (h : c env = some (true, e)) : xIte c a b env = a e := by unfold xIte; rw [h]
theorem iteF {α : Type} {c : XB} {a b : Env → Option α} {env e : Env} (h : c env = some (false, e)) : xIte c a b env = b e := by unfold xIte; rw [h]
theorem boolT {a : XD} {env e : Env} {b : Bool} (h : a env = some (.bool b, e)) : xB a env = some (b, e) := x1T h rfl
theorem app_eq {i : Nat} {a : XD} {env env' : Env} {ds : List PyData} {d : PyData} (h0 : env[i]? = some (.own (.lst ds))) (h1 : a (env.set i (.lent (.lst ds))) = some (d, env.set i (.lent (.lst ds)))) (hl : ds.length ≤ 100000) (he : env.set i (.own (.lst (ds ++ [d]))) = env') : xApp i [] a env = some (.nx env') := by
  have pm : plMut i [] env = some (.own (.lst ds), .lst ds, .lst ds) := plMut_eq h0 rfl rfl
  have le : xLend i a env = some (d, env) := by
    unfold xLend
    have e : env.set i (Sv.own (.lst ds)) = env := by
      have h3 := List.getElem?_eq_some_iff.mp h0
      rw [← h3.2]; exact List.set_getElem_self _
    rw [h0]
    dsimp only
    rw [h1]
    show some (d, (env.set i _).set i _) = _
    rw [List.set_set, e]
  unfold xApp
  rw [pm]
  dsimp only
  rw [le]
  dsimp only
  rw [pm]
  dsimp only
  rw [if_pos (shT (by omega)), ← he]; rfl
end Q

namespace Q
open PySem L2 Y
/-! ### what a question is -/
theorem quInv {n : Nat} {d : PyData} {q : PP.Qu} (h : quOf (n + 1) d = some q) : (d = .tuple [.str "all"] ∧ q = .all) ∨ (∃ (ts : List PP.Pat) (g : Int), d = .tuple [.str "row", .tuple (ts.map PP.encT), .int g] ∧ q = .row ts g.toNat) ∨ (∃ e q', d = .tuple [.str "not", e] ∧ quOf n e = some q' ∧ q = .neg q') ∨ ∃ (o : Bool) (ds : List PyData) (qs : List PP.Qu), d = .tuple [.str (if o = true then "or" else "and"), .tuple ds] ∧ pOpt (quOf n) ds = some qs ∧ q = .bin o qs := by
  replace h : quD (quOf n) d = some q := h
  unfold quD at h
  split at h
  · split at h
    · rename_i hk
      cases h
      rw [hk]; exact .inl ⟨rfl, rfl⟩
    · cases h
  · rename_i k ps g
    split at h
    · rename_i hk
      obtain ⟨ps', h1, h2⟩ := Option.map_eq_some_iff.mp h
      obtain ⟨hk, hg⟩ := hk
      subst hk
      have e1 : ps'.map PP.encT = ps := pOpt_map (fun a b z => patP_ok a b z) h1
      exact .inr (.inl ⟨ps', g, by rw [e1], h2.symm⟩)
    · cases h
  · rename_i k e
    split at h
    · rename_i hk
      obtain ⟨q', h1, h2⟩ := Option.map_eq_some_iff.mp h
      subst hk
      exact .inr (.inr (.inl ⟨e, q', rfl, h1, h2.symm⟩))
    · split at h
      · rename_i _ qs
        split at h
        · rename_i hk
          obtain ⟨q', h1, h2⟩ := Option.map_eq_some_iff.mp h
          subst hk
          exact .inr (.inr (.inr ⟨true, qs, q', rfl, h1, h2.symm⟩))
        · split at h
          · rename_i hk
            obtain ⟨q', h1, h2⟩ := Option.map_eq_some_iff.mp h
            subst hk
            exact .inr (.inr (.inr ⟨false, qs, q', rfl, h1, h2.symm⟩))
          · cases h
      · cases h
  · cases h
/-! ### simple questions -/
def kindU : PP.Qu → Str
  | .all => "all"
  | .row _ _ => "row"
  | .neg _ => "not"
  | .bin o _ => if o = true then "or" else "and"
theorem kind_eq (o : Bool) (z : Str) : decide ((if o = true then ("or" : Str) else "and") = z) = (if o = true then decide (("or" : Str) = z) else decide (("and" : Str) = z)) := by cases o <;> rfl
theorem gen_row : ∀ (rs : List PP.Qu) (s0 : Sv), genGo false (gSet 0) (xB (x2 (x2 (xVarR 0) (xC (.int 0)) fIxT) (xC (.str "row")) fEq)) (x2 (x1 (xCons (x2 (xVarR 0) (xC (.int 1)) fIxT) xNil) cLen) (xC (.int 1)) fEq) (rs.map PP.encU) [s0] = some (rs.all row1)
  | [], _ => rfl
  | r :: rs, s0 => by
    have ih := gen_row rs (.own (.dat (PP.encU r)))
    rw [List.map_cons, List.all_cons]
    unfold genGo
    have e1 : gSet 0 (PP.encU r) [s0] = some [.own (.dat (PP.encU r))] := rfl
    rw [e1]
    dsimp only
    have no : ∀ k : Str, xB (x2 (x2 (xVarR 0) (xC (.int 0)) fIxT) (xC (.str "row")) fEq) [.own (.dat (PP.encU r))] = some (decide (k = "row"), [.own (.dat (PP.encU r))]) → decide (k = "row") = false → row1 r = true → genGo false (gSet 0) (xB (x2 (x2 (xVarR 0) (xC (.int 0)) fIxT) (xC (.str "row")) fEq)) (x2 (x1 (xCons (x2 (xVarR 0) (xC (.int 1)) fIxT) xNil) cLen) (xC (.int 1)) fEq) (r :: rs |>.map PP.encU) [s0] = some (row1 r && rs.all row1) := fun k h1 h2 h3 => by
      rw [h2] at h1
      rw [List.map_cons]
      unfold genGo
      rw [e1]
      dsimp only
      rw [h1]
      dsimp only
      rw [ih, h3]; rfl
    cases r with
    | all => exact no "all" rfl (by decide +kernel) rfl
    | neg q => exact no "not" rfl (by decide +kernel) rfl
    | bin o qs =>
      cases o with
      | true => exact no "or" rfl (by decide +kernel) rfl
      | false => exact no "and" rfl (by decide +kernel) rfl
    | row ps g =>
      have t1 : xB (x2 (x2 (xVarR 0) (xC (.int 0)) fIxT) (xC (.str "row")) fEq) [.own (.dat (PP.encU (.row ps g)))] = some (true, [.own (.dat (PP.encU (.row ps g)))]) := by
        refine (show _ = some (decide (("row" : Str) = "row"), _) from rfl).trans ?_
        rw [decide_eq_true rfl]
      have t2 : x2 (x1 (xCons (x2 (xVarR 0) (xC (.int 1)) fIxT) xNil) cLen) (xC (.int 1)) fEq [.own (.dat (PP.encU (.row ps g)))] = some (.bool (row1 (.row ps g)), [.own (.dat (PP.encU (.row ps g)))]) := by
        refine x2T (a := PyData.int (ps.length : Int)) (b := PyData.int 1) (x1T (one_T (a := .tuple (ps.map PP.encT)) rfl) ?_) rfl ?_
        · show some (PyData.int (((ps.map PP.encT).length : Nat) : Int)) = _
          rw [List.length_map]
        · exact congrArg (fun b => some (PyData.bool b)) (decide_eq_decide.mpr (by omega))
      rw [t1]
      dsimp only
      rw [t2]
      dsimp only
      rw [ih]
      cases row1 (.row ps g) <;> rfl
theorem p_isSimple {n : Nat} {d : PyData} {q : PP.Qu} (h : quOf 8 d = some q) (hs : (PP.subsR q).length ≤ 1000000) : x_is_simple [.own (.dat d)] = some (.dat (.bool ((PP.subsR q).all row1)), [.un]) := by
  have xq : x_questions_in [.own (.dat d)] = some (.lst ((PP.subsR q).map PP.encU), [.un]) := by
    show xQuests [.own (.dat d)] = _
    unfold xQuests
    show (match quOf 8 d with | some q => _ | none => _) = _
    rw [h]
    exact if_pos (decide_eq_true hs)
  unfold x_is_simple
  refine callT (n := 1) (m := 1) (as := [.own (.dat d)]) (e := [.own (.dat d), .un]) rfl (retT ?_)
  have src : x1 (xDn (xCall x_questions_in (agCons (gD (xVar 0)) agNil))) listD [.own (.dat d), .un] = some ((PP.subsR q).map PP.encU, [.own (.dat d), .un]) := x1T (xDnT (callG (ads := [Ad.d d]) (ag1 rfl) xq)) rfl
  show (match x1 (xDn (xCall x_questions_in (agCons (gD (xVar 0)) agNil))) listD [.own (.dat d), .un] with | some (ds, e1) => _ | none => _) = _
  rw [src]
  exact congrArg (fun r => Option.map (fun b => (PyData.bool b, ([.own (.dat d), .un] : Env))) r) (gen_row (PP.subsR q) .un)
end Q

namespace Q
open PySem L2 Y
def kX : XD := x2 (xVarR 0) (xC (.int 0)) fIxT
theorem kt {k z : Str} {env : Env} {b : Bool} (h0 : x2 (xVarR 0) (xC (.int 0)) fIxT env = some (.str k, env)) (hk : decide (k = z) = b) : xB (x2 (x2 (xVarR 0) (xC (.int 0)) fIxT) (xC (.str z)) fEq) env = some (b, env) := by
  rw [← hk]
  exact boolT (x2T h0 rfl rfl)
theorem pat_bin_eq (o : Bool) (qs : List PP.Qu) : PP.patR (.bin o qs) = qs.reverse.flatMap PP.patR := by
  unfold PP.patR
  rw [subs_bin, List.flatMap_cons, List.flatMap_assoc]
  rfl
theorem all_bin (o : Bool) (qs : List PP.Qu) : (PP.subsR (.bin o qs)).all row1 = qs.all fun q => (PP.subsR q).all row1 := by
  rw [subs_bin, List.all_cons, List.all_flatMap, List.all_reverse]
  show (true && _) = _
  rw [Bool.true_and]
def siB (xr : Env → Option (Tr × Env)) : XN := xLc (x1 (x2 (xVarR 0) (xC (.int 1)) fIxT) tupD) (gSet 1) (xNotT (xB (xDn (xCall xr (agCons (gD (xVar 1)) agNil))))) (xVar 1) [1]
theorem p_siGo {xr : Env → Option (Tr × Env)} (s0 : Sv) {f : PyData → Option PP.Qu} : ∀ (ds : List PyData) (qs : List PP.Qu), pOpt f ds = some qs → (∀ d q, f d = some q → q ∈ qs → xr [.own (.dat d)] = some (.dat (.bool ((PP.subsR q).all row1)), [.un])) → ∃ out : List PyData, out.length ≤ ds.length ∧ decide (out.length = 0) = (qs.all fun q => (PP.subsR q).all row1) ∧ lcGo (gSet 1) (xNotT (xB (xDn (xCall xr (agCons (gD (xVar 1)) agNil))))) (xVar 1) [1] ds [s0, .un] = some (out, [s0, .un])
  | [], qs, h, _ => by cases h; exact ⟨[], Nat.le_refl _, rfl, rfl⟩
  | d :: ds, qs, h, hx => by
    obtain ⟨q, qs', h1, h2, rfl⟩ := pOpt_cons h
    obtain ⟨out, g1, g2, g3⟩ := p_siGo s0 ds qs' h2 fun x y e m => hx x y e (List.mem_cons_of_mem _ m)
    have e1 := hx d q h1 List.mem_cons_self
    have t1 : xB (xDn (xCall xr (agCons (gD (xVar 1)) agNil))) [s0, .own (.dat d)] = some ((PP.subsR q).all row1, [s0, .own (.dat d)]) := boolT (xDnD' (callG (ads := [Ad.d d]) (ag1 rfl) e1))
    have t2 : xNotT (xB (xDn (xCall xr (agCons (gD (xVar 1)) agNil)))) [s0, .own (.dat d)] = some (!(PP.subsR q).all row1, [s0, .own (.dat d)]) := x1T t1 rfl
    have tg : gSet 1 d [s0, .un] = some [s0, .own (.dat d)] := rfl
    cases c : (PP.subsR q).all row1 with
    | true =>
      rw [c] at t2
      refine ⟨out, by rw [List.length_cons]; omega, by rw [List.all_cons, c, Bool.true_and]; exact g2, ?_⟩
      unfold lcGo
      rw [tg]
      dsimp only
      rw [t2]
      exact g3
    | false =>
      rw [c] at t2
      refine ⟨d :: out, by rw [List.length_cons, List.length_cons]; omega, by rw [List.all_cons, c, Bool.false_and, List.length_cons]; exact decide_eq_false (by omega), ?_⟩
      unfold lcGo
      rw [tg]
      dsimp only
      rw [t2]
      have v : xVar 1 [s0, .own (.dat d)] = some (d, [s0, .own (.dat d)]) := rfl
      rw [Bool.not_false]
      dsimp only
      rw [v]
      dsimp only
      have w : wipeX [s0, .own (.dat d)] [1] = [s0, .un] := rfl
      rw [w, g3]; rfl
theorem flat_one {α β : Type} (f : α → List β) : ∀ (l : List α) (a : α), a ∈ l → (f a).length ≤ (l.flatMap f).length
  | b :: l, a, h => by
    rw [List.flatMap_cons, List.length_append]
    rcases List.mem_cons.mp h with rfl | h
    · omega
    · have := flat_one f l a h
      omega
theorem bin_le (o : Bool) (qs : List PP.Qu) {b : Nat} (hb : (PP.subsR (.bin o qs)).length ≤ b) : qs.length + 1 ≤ b ∧ ∀ q ∈ qs, (PP.subsR q).length ≤ b := by
  rw [subs_bin, List.length_cons] at hb
  have h1 := PP.flat_ge qs.reverse
  rw [List.length_reverse] at h1
  exact ⟨by omega, fun q hq => by have := flat_one PP.subsR qs.reverse q (List.mem_reverse.mpr hq); omega⟩
theorem pOpt_len {α β : Type} {f : α → Option β} : ∀ {l : List α} {r : List β}, pOpt f l = some r → r.length = l.length
  | [], r, h => by cases h; rfl
  | a :: l, r, h => by
    obtain ⟨b, r', _, h2, rfl⟩ := pOpt_cons h
    rw [List.length_cons, List.length_cons, pOpt_len h2]
theorem p_lawSimple : ∀ (n k : Nat) (d : PyData) (q : PP.Qu), quOf n d = some q → n ≤ k → (PP.subsR q).length ≤ 1000 → xr__law_simple k [.own (.dat d)] = some (.dat (.bool ((PP.subsR q).all row1)), [.un])
  | 0, _, d, q, h, _, _ => by cases h
  | n + 1, 0, d, q, _, hk, _ => by omega
  | n + 1, k + 1, d, q, h, hk, hb => by
    show callX 1 1 (b__law_simple (xr__law_simple k)) [.own (.dat d)] = _
    rcases quInv h with ⟨rfl, rfl⟩ | ⟨ts, g, rfl, rfl⟩ | ⟨e, q', rfl, hq, rfl⟩ | ⟨o, ds, qs, rfl, hq, rfl⟩
    · refine callT (n := 1) (m := 1) (e := [.own (.dat (.tuple [.str "all"])), .un]) rfl ?_
      show b__law_simple _ [.own (.dat (.tuple [.str "all"])), .un] = _
      unfold b__law_simple
      rw [seqT (skipF (kt (k := "all") rfl (by decide +kernel))), seqT (skipF (kt (k := "all") rfl (by decide +kernel)))]
      exact seqR ((iteT (kt (k := "all") rfl (by decide +kernel))).trans rfl)
    · refine callT (n := 1) (m := 1) (e := [.own (.dat (.tuple [.str "row", .tuple (ts.map PP.encT), .int g])), .un]) rfl ?_
      show b__law_simple _ [.own (.dat (.tuple [.str "row", .tuple (ts.map PP.encT), .int g])), .un] = _
      unfold b__law_simple
      refine seqR ((iteT (kt (k := "row") rfl (by decide +kernel))).trans (retT (x2T (a := PyData.int (ts.length : Int)) (b := PyData.int 1) (x1T (one_T (a := .tuple (ts.map PP.encT)) rfl) ?_) rfl ?_)))
      · show some (PyData.int (((ts.map PP.encT).length : Nat) : Int)) = _
        rw [List.length_map]
      · show some (PyData.bool (decide ((ts.length : Int) = 1))) = some (.bool (decide (ts.length = 1) && true))
        rw [Bool.and_true]
        exact congrArg (fun b => some (PyData.bool b)) (decide_eq_decide.mpr (by omega))
    · have ih := p_lawSimple n k e q' hq (by omega) (by rw [show PP.subsR (.neg q') = .neg q' :: PP.subsR q' from rfl, List.length_cons] at hb; omega)
      have e0 : (PP.subsR (.neg q')).all row1 = (PP.subsR q').all row1 := by
        show (true && _) = _
        rw [Bool.true_and]
      rw [e0]
      refine callT (n := 1) (m := 1) (e := [.own (.dat (.tuple [.str "not", e])), .un]) rfl ?_
      show b__law_simple _ [.own (.dat (.tuple [.str "not", e])), .un] = _
      unfold b__law_simple
      rw [seqT (skipF (kt (k := "not") rfl (by decide +kernel)))]
      exact seqR ((iteT (kt (k := "not") rfl (by decide +kernel))).trans (retNT (callG (ads := [Ad.d e]) (ag1 rfl) ih)))
    · obtain ⟨ln, sl⟩ := bin_le o qs hb
      have pl := pOpt_len hq
      rw [all_bin]
      let E : Env := [.own (.dat (.tuple [.str (if o = true then "or" else "and"), .tuple ds])), .un]
      obtain ⟨out, g1, g2, g3⟩ := p_siGo (xr := xr__law_simple k) (.own (.dat (.tuple [.str (if o = true then "or" else "and"), .tuple ds]))) ds qs hq fun x y e m => p_lawSimple n k x y e (by omega) (sl y m)
      rw [← g2]
      refine callT (n := 1) (m := 1) (e := E) rfl ?_
      show b__law_simple _ E = _
      have no : ∀ z : Str, decide (("or" : Str) = z) = false → decide (("and" : Str) = z) = false → xB (x2 (x2 (xVarR 0) (xC (.int 0)) fIxT) (xC (.str z)) fEq) E = some (false, E) := fun z h1 h2 => kt (k := if o = true then "or" else "and") rfl (by cases o <;> assumption)
      unfold b__law_simple
      rw [seqT (skipF (no "row" (by decide +kernel) (by decide +kernel))), seqT (skipF (no "not" (by decide +kernel) (by decide +kernel))), seqT (skipF (no "all" (by decide +kernel) (by decide +kernel)))]
      refine retT (x2T (a := PyData.int (out.length : Int)) (b := PyData.int 0) (x1T (one_T (a := .list out) (xDnT (xLc_eq (e1 := E) (e2 := E) (ds := ds) (x1T (a := PyData.tuple ds) (x2T rfl rfl rfl) rfl) rfl (by omega) g3 rfl))) rfl) rfl ?_)
      exact congrArg (fun b => some (PyData.bool b)) (decide_eq_decide.mpr (by omega))
end Q

namespace Q
open PySem L2 Y
/-! ### the patterns of a question, in their order -/
theorem strs_sh {ks : List Str} (h : ∀ k ∈ ks, PyData.strOk k = true) : SeqAt.shaped (.list (ks.map .str)) = true := okn.sh (n := 1) (okn_lst fun d hd => by
    obtain ⟨w, hw, rfl⟩ := List.mem_map.mp hd
    exact okn_str (h w hw))
theorem inD {ks : List Str} {k : Str} (neg : Bool) (h : ∀ k ∈ ks, PyData.strOk k = true) (hk : PyData.strOk k = true) : fInD neg (.str k) (.list (ks.map .str)) = some (.bool (if neg = true then !decide (k ∈ ks) else decide (k ∈ ks))) := by
  have z1 : SeqAt.shaped (.str k) = true := okn.sh (n := 0) (okn_str hk)
  have z2 : ((ks.map PyData.str).any fun z => PyData.eqv z (.str k)) = decide (k ∈ ks) := by
    by_cases g : k ∈ ks
    · rw [decide_eq_true g]
      exact List.any_eq_true.mpr ⟨.str k, List.mem_map.mpr ⟨k, g, rfl⟩, by simp [PyData.eqv]⟩
    · rw [decide_eq_false g, List.any_eq_false]
      intro d hd
      obtain ⟨w, hw, rfl⟩ := List.mem_map.mp hd
      intro z
      have : w = k := by simpa [PyData.eqv] using z
      exact g (by rw [← this]; exact hw)
  unfold fInD
  dsimp only
  rw [if_pos ⟨z1, strs_sh h⟩, z2]
theorem inAO {z : Str} {b : Bool} (hz : PyData.strOk z = true) (hb : decide (z ∈ (["and", "or"] : List Str)) = b) : fInD false (.str z) (.list [.str "and", .str "or"]) = some (.bool b) := by
  rw [← hb]
  exact inD (ks := ["and", "or"]) false (by decide +kernel) hz
def lpB (xr : Env → Option (Tr × Env)) : XS := xSetN 1 (xLend 1 (x2 (xVarR 1) (xDn (xCall xr (agCons (gD (xVar 2)) agNil))) fun d e => (fCat d e).map .lst))
theorem p_lpGo {xr : Env → Option (Tr × Env)} (s0 : Sv) {f : PyData → Option PP.Qu} : ∀ (ds : List PyData) (qs : List PP.Qu) (acc : List PP.Pat) (s2 : Sv), pOpt f ds = some qs → acc.length + (qs.flatMap PP.patR).length ≤ 100000 → (∀ d q, f d = some q → q ∈ qs → ∃ L : List PP.Pat, L.Perm (PP.patR q) ∧ xr [.own (.dat d)] = some (.lst (L.map PP.encT), [.un])) → ∃ (L : List PP.Pat) (s2' : Sv), L.Perm (acc ++ qs.flatMap PP.patR) ∧ forGo (gSet 2) (lpB xr) ds [s0, .own (.lst (acc.map PP.encT)), s2] = some (.nx [s0, .own (.lst (L.map PP.encT)), s2'])
  | [], qs, acc, s2, h, _, _ => by cases h; exact ⟨acc, s2, by rw [List.flatMap_nil, List.append_nil], rfl⟩
  | d :: ds, qs, acc, s2, h, hb, hx => by
    obtain ⟨q, qs', h1, h2, rfl⟩ := pOpt_cons h
    rw [List.flatMap_cons, List.length_append] at hb
    obtain ⟨L, p1, e1⟩ := hx d q h1 List.mem_cons_self
    have pl := p1.length_eq
    obtain ⟨L2, s2', p2, run⟩ := p_lpGo s0 ds qs' (acc ++ L) (.own (.dat d)) h2 (by rw [List.length_append]; omega) fun x y e m => hx x y e (List.mem_cons_of_mem _ m)
    refine ⟨L2, s2', ?_, ?_⟩
    · rw [List.flatMap_cons]
      refine p2.trans ?_
      rw [List.append_assoc]
      exact (p1.append_right _).append_left acc
    · have le : xLend 1 (x2 (xVarR 1) (xDn (xCall xr (agCons (gD (xVar 2)) agNil))) fun d e => (fCat d e).map Tr.lst) [s0, .own (.lst (acc.map PP.encT)), .own (.dat d)] = some (Tr.lst ((acc ++ L).map PP.encT), [s0, .own (.lst (acc.map PP.encT)), .own (.dat d)]) := by
        refine lend_own (t := .lst (acc.map PP.encT)) rfl rfl ?_
        have e2 : xDn (xCall xr (agCons (gD (xVar 2)) agNil)) [s0, .lent (.lst (acc.map PP.encT)), .own (.dat d)] = some (.list (L.map PP.encT), [s0, .lent (.lst (acc.map PP.encT)), .own (.dat d)]) := xDnT (callG (ads := [Ad.d d]) (ag1 rfl) e1)
        rw [List.map_append]
        exact x2T (a := PyData.list (acc.map PP.encT)) (b := PyData.list (L.map PP.encT)) rfl e2 (catLT (by rw [List.length_map, List.length_map]; omega))
      have st : lpB xr [s0, .own (.lst (acc.map PP.encT)), .own (.dat d)] = some (.nx [s0, .own (.lst ((acc ++ L).map PP.encT)), .own (.dat d)]) := setN_to (i := 1) (s := .own (.lst (acc.map PP.encT))) le rfl rfl
      rw [go_consT (e1 := [s0, .own (.lst (acc.map PP.encT)), .own (.dat d)]) rfl st]
      exact run
theorem p_lawPats : ∀ (n k : Nat) (d : PyData) (q : PP.Qu), quOf n d = some q → n ≤ k → (PP.patR q).length ≤ 10000 → ∃ L : List PP.Pat, L.Perm (PP.patR q) ∧ xr__law_patterns k [.own (.dat d)] = some (.lst (L.map PP.encT), [.un])
  | 0, _, d, q, h, _, _ => by cases h
  | n + 1, 0, d, q, _, hk, _ => by omega
  | n + 1, k + 1, d, q, h, hk, hb => by
    show ∃ L : List PP.Pat, _ ∧ callX 1 2 (b__law_patterns (xr__law_patterns k)) [.own (.dat d)] = _
    rcases quInv h with ⟨rfl, rfl⟩ | ⟨ts, g, rfl, rfl⟩ | ⟨e, q', rfl, hq, rfl⟩ | ⟨o, ds, qs, rfl, hq, rfl⟩
    · refine ⟨[], List.Perm.refl _, ?_⟩
      refine callT (n := 1) (m := 2) (e := [.own (.dat (.tuple [.str "all"])), .un, .un]) rfl ?_
      show b__law_patterns _ [.own (.dat (.tuple [.str "all"])), .un, .un] = _
      unfold b__law_patterns
      rw [seqT (skipF (kt (k := "all") rfl (by decide +kernel))), seqT (skipF (kt (k := "all") rfl (by decide +kernel))), seqT (e1 := [.own (.dat (.tuple [.str "all"])), .own (.lst []), .un]) rfl]
      have t : xB (x2 (x2 (xVarR 0) (xC (.int 0)) fIxT) (xDn (xLst (xCons (xC (.str "and")) (xCons (xC (.str "or")) xNil)))) (fInD false)) [.own (.dat (.tuple [.str "all"])), .own (.lst []), .un] = some (false, [.own (.dat (.tuple [.str "all"])), .own (.lst []), .un]) := boolT (x2T (a := PyData.str "all") (b := PyData.list [.str "and", .str "or"]) rfl rfl (inAO (by decide +kernel) (by decide +kernel)))
      rw [seqT (skipF t)]
      rfl
    · have pr : PP.patR (.row ts g.toNat) = ts := by
        show ([PP.Qu.row ts g.toNat] : List PP.Qu).flatMap PP.rowPs = ts
        rw [List.flatMap_singleton]; rfl
      refine ⟨ts, by rw [pr], ?_⟩
      refine callT (n := 1) (m := 2) (e := [.own (.dat (.tuple [.str "row", .tuple (ts.map PP.encT), .int g])), .un, .un]) rfl ?_
      show b__law_patterns _ [.own (.dat (.tuple [.str "row", .tuple (ts.map PP.encT), .int g])), .un, .un] = _
      unfold b__law_patterns
      exact seqR ((iteT (kt (k := "row") rfl (by decide +kernel))).trans (retNT (x1T (one_T (a := .tuple (ts.map PP.encT)) rfl) rfl)))
    · have pr : PP.patR (.neg q') = PP.patR q' := by
        show (PP.Qu.neg q' :: PP.subsR q').flatMap PP.rowPs = _
        rw [List.flatMap_cons]; rfl
      rw [pr] at hb ⊢
      obtain ⟨L, p1, e1⟩ := p_lawPats n k e q' hq (by omega) hb
      refine ⟨L, p1, ?_⟩
      refine callT (n := 1) (m := 2) (e := [.own (.dat (.tuple [.str "not", e])), .un, .un]) rfl ?_
      show b__law_patterns _ [.own (.dat (.tuple [.str "not", e])), .un, .un] = _
      unfold b__law_patterns
      rw [seqT (skipF (kt (k := "not") rfl (by decide +kernel)))]
      exact seqR ((iteT (kt (k := "not") rfl (by decide +kernel))).trans (retNT (callG (ads := [Ad.d e]) (ag1 rfl) e1)))
    · rw [pat_bin_eq] at hb ⊢
      have pp : (qs.reverse.flatMap PP.patR).Perm (qs.flatMap PP.patR) := (List.reverse_perm qs).flatMap_right _
      have pl := pp.length_eq
      let D0 : Sv := .own (.dat (.tuple [.str (if o = true then "or" else "and"), .tuple ds]))
      let E : Sv → Sv → Env := fun s1 s2 => [D0, s1, s2]
      obtain ⟨L, s2', p1, run⟩ := p_lpGo (xr := xr__law_patterns k) D0 ds qs [] .un hq (by rw [List.length_nil]; omega) fun x y e m => p_lawPats n k x y e (by omega) (by have := flat_one PP.patR qs y m; omega)
      rw [List.nil_append] at p1
      refine ⟨L, p1.trans pp.symm, ?_⟩
      refine callT (n := 1) (m := 2) (e := E .un s2') rfl ?_
      show b__law_patterns _ (E .un .un) = _
      have no : ∀ z : Str, decide (("or" : Str) = z) = false → decide (("and" : Str) = z) = false → xB (x2 (x2 (xVarR 0) (xC (.int 0)) fIxT) (xC (.str z)) fEq) (E .un .un) = some (false, E .un .un) := fun z h1 h2 => kt (k := if o = true then "or" else "and") rfl (by cases o <;> assumption)
      have t : xB (x2 (x2 (xVarR 0) (xC (.int 0)) fIxT) (xDn (xLst (xCons (xC (.str "and")) (xCons (xC (.str "or")) xNil)))) (fInD false)) (E (.own (.lst [])) .un) = some (true, E (.own (.lst [])) .un) := boolT (x2T (a := PyData.str (if o = true then "or" else "and")) (b := PyData.list [.str "and", .str "or"]) rfl rfl (by cases o <;> exact inAO (by decide +kernel) (by decide +kernel)))
      have k3 : xFor (x1 (x2 (xVarR 0) (xC (.int 1)) fIxT) tupD) (gSet 2) (lpB (xr__law_patterns k)) (E (.own (.lst [])) .un) = some (.nx (E (.own (.lst (L.map PP.encT))) s2')) := for_eq (x1T (a := PyData.tuple ds) (x2T rfl rfl rfl) rfl) run
      unfold b__law_patterns
      rw [seqT (skipF (no "row" (by decide +kernel) (by decide +kernel))), seqT (skipF (no "not" (by decide +kernel) (by decide +kernel))), seqT (e1 := E (.own (.lst [])) .un) rfl]
      unfold lpB at k3
      rw [seqT ((iteT t).trans k3)]
      rfl
end Q

namespace Q
open PySem L2 Y
theorem starts_iff (x y : Str) : Txt.startswith x y = true ↔ y.cps.toList <+: x.cps.toList := by
  have hl : y.cps.toList.length = y.length := by rw [Array.length_toList]; rfl
  have hx : x.cps.toList.length = x.length := by rw [Array.length_toList]; rfl
  unfold Txt.startswith
  rw [StrLaws.subAt_eq, List.drop_zero, Bool.and_eq_true, decide_eq_true_iff, beq_iff_eq, List.prefix_iff_eq_take, hl]
  constructor
  · rintro ⟨_, h⟩; exact h.symm
  · intro h
    refine ⟨?_, h.symm⟩
    have := congrArg List.length h
    rw [List.length_take, hl, hx] at this
    omega
/-! ### words that are free -/
theorem strEq {a b : Str} (h : a.cps.toList = b.cps.toList) : a = b := by
  cases a
  cases b
  exact congrArg Str.mk (Array.toList_inj.mp h)
theorem cutW (t w : Str) : decide (cutS t none (some (w.length : Int)) = w) = Txt.startswith t w := by
  have hl : w.cps.toList.length = w.length := by rw [Array.length_toList]; rfl
  have ct : (cutS t none (some (w.length : Int))).cps.toList = t.cps.toList.take w.length := by
    show ((t.cps.toList.drop 0).take (HT.sIx t.length t.length (some (w.length : Int)) - 0)) = _
    have e : HT.sIx t.length t.length (some (w.length : Int)) = min w.length t.length := by
      show (if (w.length : Int) < 0 then ((w.length : Int) + (t.length : Int)).toNat else min (w.length : Int).toNat t.length) = _
      rw [if_neg (by omega), Int.toNat_natCast]
    have e2 : t.length = t.cps.toList.length := by rw [Array.length_toList]; rfl
    rw [e, List.drop_zero, Nat.sub_zero]
    exact List.take_eq_take_iff.mpr (by omega)
  have iff1 : cutS t none (some (w.length : Int)) = w ↔ Txt.startswith t w = true := by
    rw [starts_iff, List.prefix_iff_eq_take, hl, ← ct]
    exact ⟨fun h => by rw [h], fun h => strEq h.symm⟩
  by_cases c : Txt.startswith t w = true
  · rw [c, decide_eq_true (iff1.mpr c)]
  · rw [decide_eq_false (fun z => c (iff1.mp z))]
    exact (Bool.eq_false_iff.mpr c).symm
def isnew (W : List Str) (w : Str) : Bool := !(W.any fun t => Txt.startswith t w)
def sg (c : Nat) : Str := ⟨#[c]⟩
def freeL (W : List Str) (w : Str) : List Nat → List Str
  | [] => []
  | c :: cs => if isnew W (w ++ sg c) = true then [w ++ sg c] else freeL W w cs
def SM : List Nat := ("0123456789abcdefghijklmnopqrstuvwxyz" : Str).cps.toList
def okS (z : Str) : Prop := z.length ≤ 20 ∧ codesB z = true
theorem isnew_eq {W W' : List Str} (h : ∀ x, x ∈ W ↔ x ∈ W') (w : Str) : isnew W w = isnew W' w := by
  unfold isnew
  refine congrArg Bool.not ?_
  rw [Bool.eq_iff_iff, List.any_eq_true, List.any_eq_true]
  exact ⟨fun ⟨x, h1, h2⟩ => ⟨x, (h x).mp h1, h2⟩, fun ⟨x, h1, h2⟩ => ⟨x, (h x).mpr h1, h2⟩⟩
theorem freeL_eq {W W' : List Str} (h : ∀ x, x ∈ W ↔ x ∈ W') (w : Str) : ∀ cs, freeL W w cs = freeL W' w cs
  | [] => rfl
  | c :: cs => by
    unfold freeL
    rw [isnew_eq h, freeL_eq h w cs]
theorem freeL_len (W : List Str) (w : Str) : ∀ cs, (freeL W w cs).length ≤ 1
  | [] => Nat.zero_le _
  | c :: cs => by
    unfold freeL
    split
    · exact Nat.le_refl _
    · exact freeL_len W w cs
theorem sg_len (c : Nat) : (sg c).length = 1 := rfl
theorem freeL_ok (W : List Str) (w : Str) (hl : w.length ≤ 12) (hw : codesB w = true) : ∀ cs : List Nat, (∀ c ∈ cs, codeB c = true) → ∀ x ∈ freeL W w cs, okS x
  | [], _, x, h => nomatch h
  | c :: cs, hc, x, h => by
    unfold freeL at h
    split at h
    · rw [List.mem_singleton.mp h]
      refine ⟨by rw [len_appS, sg_len]; omega, codes_app hw ?_⟩
      show [c].all codeB = true
      rw [List.all_cons, hc c List.mem_cons_self]; rfl
    · exact freeL_ok W w hl hw cs (fun c hc' => hc c (List.mem_cons_of_mem _ hc')) x h
theorem SM_ok : ∀ c ∈ SM, codeB c = true := by decide +kernel
/-! is_new -/
def nwB : XS := xIte (xB (x2 (x3 (x2 (xVarR 2) (xC (.int 1)) fIxT) xNoP (xAtP (x1 (xCons (xVarR 0) xNil) cLenS)) slS) (xVarR 0) fEq)) (xRet (xC (.bool false))) xNext
theorem shS {z : Str} (h : z.length ≤ 100) : shortB z.length = true := shT (by omega)
theorem x3T {A : XD} {lo hi : XO} {f : PyData → Option Int → Option Int → Option PyData} {env e1 e2 e3 : Env} {a c : PyData} {l h : Option Int} (h1 : A env = some (a, e1)) (h2 : lo e1 = some (l, e2)) (h3 : hi e2 = some (h, e3)) (h4 : f a l h = some c) : x3 A lo hi f env = some (c, e3) := by
  unfold x3
  rw [h1]
  dsimp only
  rw [h2]
  dsimp only
  rw [h3]
  dsimp only
  rw [h4]; rfl
theorem cutT {A B : XD} {env : Env} {t w : Str} (hA : A env = some (.str t, env)) (hB : B env = some (.str w, env)) (ht : t.length ≤ 100) (hw : w.length ≤ 100) : x3 A xNoP (xAtP (x1 (xCons B xNil) cLenS)) slS env = some (.str (cutS t none (some (w.length : Int))), env) := by
  have ln : x1 (xCons B xNil) cLenS env = some (.int (w.length : Int), env) := x1T (one_T hB) (if_pos (shS hw))
  have at_ : xAtP (x1 (xCons B xNil) cLenS) env = some (some (w.length : Int), env) := by
    unfold xAtP
    exact x1T ln rfl
  exact x3T hA rfl at_ (if_pos (shS ht))
theorem p_nwGo (w : Str) (hw : w.length ≤ 100) (s1 : Sv) : ∀ (us : List PP.Pat) (s2 : Sv), (∀ t ∈ us, okT t) → ∃ s2' : Sv, forGo (gSet 2) nwB (us.map PP.encT) [.own (.dat (.str w)), s1, s2] = some (if (us.any fun t => Txt.startswith t.2 w) = true then .ret (.dat (.bool false)) [.own (.dat (.str w)), s1, s2'] else .nx [.own (.dat (.str w)), s1, s2'])
  | [], s2, _ => ⟨s2, rfl⟩
  | t :: us, s2, h => by
    obtain ⟨s2', ih⟩ := p_nwGo w hw s1 us (.own (.dat (PP.encT t))) fun x hx => h x (List.mem_cons_of_mem _ hx)
    have ok := h t List.mem_cons_self
    let E : Env := [.own (.dat (.str w)), s1, .own (.dat (PP.encT t))]
    have t1 : xB (x2 (x3 (x2 (xVarR 2) (xC (.int 1)) fIxT) xNoP (xAtP (x1 (xCons (xVarR 0) xNil) cLenS)) slS) (xVarR 0) fEq) E = some (Txt.startswith t.2 w, E) := by
      rw [← cutW]
      exact boolT (x2T (a := PyData.str (cutS t.2 none (some (w.length : Int)))) (b := PyData.str w) (cutT (x2T (a := PP.encT t) (b := PyData.int 1) rfl rfl rfl) rfl (by have := ok.1.1; omega) hw) rfl rfl)
    rw [List.any_cons]
    cases c : Txt.startswith t.2 w with
    | true =>
      rw [c] at t1
      refine ⟨.own (.dat (PP.encT t)), ?_⟩
      rw [List.map_cons]
      have st : nwB E = some (.ret (.dat (.bool false)) E) := (iteT t1).trans rfl
      unfold forGo
      have tg : gSet 2 (PP.encT t) [.own (.dat (.str w)), s1, s2] = some E := rfl
      rw [tg]
      dsimp only
      rw [st]
      rfl
    | false =>
      rw [c] at t1
      refine ⟨s2', ?_⟩
      have st : nwB E = some (.nx E) := (iteF t1).trans rfl
      rw [List.map_cons, go_consT (e1 := E) (e2 := E) rfl st, ih, Bool.false_or]
theorem p_new (w : Str) (hw : w.length ≤ 100) (P : List PP.Pat) (h : ∀ t ∈ P, okT t) : x__law_is_new [.own (.dat (.str w)), .own (.dat (.list (P.map PP.encT)))] = some (.dat (.bool (isnew (P.map (·.2)) w)), [.un, .un]) := by
  let s1 : Sv := .own (.dat (.list (P.map PP.encT)))
  obtain ⟨s2, run⟩ := p_nwGo w hw s1 P .un h
  have e : isnew (P.map (·.2)) w = !(P.any fun t => Txt.startswith t.2 w) := by
    unfold isnew
    rw [List.any_map]; rfl
  rw [e]
  have k := for_eq (src := x1 (xVarR 1) listD) (tg := gSet 2) (body := nwB) (env := [.own (.dat (.str w)), s1, .un]) (e := [.own (.dat (.str w)), s1, .un]) (ds := P.map PP.encT) rfl run
  unfold x__law_is_new
  refine callT (n := 2) (m := 1) (e := [.own (.dat (.str w)), s1, s2]) rfl ?_
  show b__law_is_new [.own (.dat (.str w)), s1, .un] = _
  unfold b__law_is_new
  unfold nwB at k
  cases c : P.any fun t => Txt.startswith t.2 w with
  | true =>
    rw [c] at k
    exact seqR k
  | false =>
    rw [c] at k
    exact (seqT k).trans rfl
end Q

namespace Q
open PySem L2 Y
/-! ### free_word -/
theorem gen_st (v : Str) : ∀ (W : List Str) (s0 : Sv), genGo true (gSet 0) xYes (x2 (xVarR 0) (xVarR 1) (fSt Txt.startswith)) (W.map .str) [s0, .own (.dat (.str v))] = some (W.any fun t => Txt.startswith t v)
  | [], _ => rfl
  | t :: W, s0 => by
    have ih := gen_st v W (.own (.dat (.str t)))
    have tg : gSet 0 (.str t) [s0, .own (.dat (.str v))] = some [.own (.dat (.str t)), .own (.dat (.str v))] := rfl
    have el : x2 (xVarR 0) (xVarR 1) (fSt Txt.startswith) [.own (.dat (.str t)), .own (.dat (.str v))] = some (.bool (Txt.startswith t v), [.own (.dat (.str t)), .own (.dat (.str v))]) := rfl
    rw [List.map_cons, List.any_cons]
    unfold genGo
    rw [tg]
    dsimp only [xYes]
    rw [el]
    dsimp only
    rw [ih]
    cases Txt.startswith t v <;> rfl
def frB : XS := xSeq (xSet 4 (x2 (xVarR 0) (xVarR 3) fAddS)) (xIte (xNotT (xB (xGen [none, some 4] true (x1 (xVarR 1) listD) (gSet 0) xYes (x2 (xVarR 0) (xVarR 1) (fSt Txt.startswith))))) (xRetN (xLst (xCons (xVar 4) xNil))) xNext)
section
variable (W : List Str) (w : Str)
abbrev FE (s3 s4 : Sv) : Env := [.own (.dat (.str w)), .own (.dat (.list (W.map .str))), .un, s3, s4]
theorem p_frGo (hw : w.length ≤ 100) : ∀ (cs : List Nat) (s3 s4 : Sv), (freeL W w cs = [] ∧ ∃ s3' s4' : Sv, forGo (gSet 3) frB (cs.map encS) (FE W w s3 s4) = some (.nx (FE W w s3' s4'))) ∨ ∃ (x : Str) (s3' s4' : Sv), freeL W w cs = [x] ∧ forGo (gSet 3) frB (cs.map encS) (FE W w s3 s4) = some (.ret (.lst [.str x]) (FE W w s3' s4'))
  | [], s3, s4 => .inl ⟨rfl, s3, s4, rfl⟩
  | c :: cs, s3, s4 => by
    let V : Str := w ++ sg c
    let E : Sv → Env := fun s4 => FE W w (.own (.dat (encS c))) s4
    have k1 : xSet 4 (x2 (xVarR 0) (xVarR 3) fAddS) (E s4) = some (.nx (E (.own (.dat (.str V))))) := set_to (s := s4) (x2T (a := PyData.str w) (b := PyData.str (sg c)) rfl rfl (if_pos (shT (by rw [sg_len]; omega)))) rfl rfl
    have t0 : xB (xGen [none, some 4] true (x1 (xVarR 1) listD) (gSet 0) xYes (x2 (xVarR 0) (xVarR 1) (fSt Txt.startswith))) (E (.own (.dat (.str V)))) = some (W.any fun t => Txt.startswith t V, E (.own (.dat (.str V)))) := by
      refine boolT ?_
      unfold xGen
      have src : x1 (xVarR 1) listD (E (.own (.dat (.str V)))) = some (W.map .str, E (.own (.dat (.str V)))) := rfl
      rw [src]
      exact congrArg (fun r => Option.map (fun b => (PyData.bool b, E (.own (.dat (.str V))))) r) (gen_st V W .un)
    have t1 : xNotT (xB (xGen [none, some 4] true (x1 (xVarR 1) listD) (gSet 0) xYes (x2 (xVarR 0) (xVarR 1) (fSt Txt.startswith)))) (E (.own (.dat (.str V)))) = some (isnew W V, E (.own (.dat (.str V)))) := x1T t0 rfl
    rw [List.map_cons]
    cases q : isnew W V with
    | true =>
      rw [q] at t1
      refine .inr ⟨V, .own (.dat (encS c)), .own (.dat (.str V)), by unfold freeL; exact if_pos q, ?_⟩
      have st : frB (E s4) = some (.ret (.lst [.str V]) (E (.own (.dat (.str V))))) := by
        unfold frB
        rw [seqT k1]
        exact (iteT t1).trans rfl
      unfold forGo
      have tg : gSet 3 (encS c) (FE W w s3 s4) = some (E s4) := rfl
      rw [tg]
      dsimp only
      rw [st]
    | false =>
      rw [q] at t1
      have e : freeL W w (c :: cs) = freeL W w cs := by
        conv => lhs; unfold freeL
        exact if_neg (by rw [show isnew W (w ++ sg c) = false from q]; decide)
      have st : frB (E s4) = some (.nx (E (.own (.dat (.str V))))) := by
        unfold frB
        rw [seqT k1]
        exact (iteF t1).trans rfl
      rw [e, go_consT (e1 := E s4) rfl st]
      exact p_frGo hw cs _ _
theorem p_free (hw : w.length ≤ 100) : x_free_word [.own (.dat (.str w)), .own (.dat (.list (W.map .str)))] = some (.lst ((freeL W w SM).map .str), [.un, .un]) := by
  have src : ∀ r, forGo (gSet 3) frB (SM.map encS) (FE W w .un .un) = some r → xFor (x1 (xC (.str "0123456789abcdefghijklmnopqrstuvwxyz")) signsD) (gSet 3) frB (FE W w .un .un) = some r := fun r h => for_eq (e := FE W w .un .un) (ds := SM.map encS) rfl h
  unfold x_free_word
  rcases p_frGo W w hw SM .un .un with ⟨h, s3, s4, run⟩ | ⟨x, s3, s4, h, run⟩
  · rw [h]
    refine callT (n := 2) (m := 3) (e := FE W w s3 s4) rfl ?_
    show b_free_word (FE W w .un .un) = _
    have k := src _ run
    unfold b_free_word
    unfold frB at k
    exact (seqT k).trans rfl
  · rw [h]
    refine callT (n := 2) (m := 3) (e := FE W w s3 s4) rfl ?_
    show b_free_word (FE W w .un .un) = _
    have k := src _ run
    unfold b_free_word
    unfold frB at k
    exact seqR k
end
/-! ### what the two sides list -/
def frW (W : List Str) (w : Str) : List Str := if w.length < 12 then freeL W w SM else []
theorem frW_len (W : List Str) (w : Str) : (frW W w).length ≤ 1 := by
  unfold frW
  split
  · exact freeL_len W w SM
  · exact Nat.zero_le _
def cdB : XS := xIte (xB (x2 (x1 (xCons (xVarR 3) xNil) cLenS) (xC (.int 12)) fLt)) (xExt 5 [] (xDn (xCall x_free_word (agCons (gD (xVar 3)) (agCons (gD (xVar 4)) agNil))))) xNext
theorem ext_eq {i : Nat} {a : XD} {env env' : Env} {ds es : List PyData} (h0 : env[i]? = some (.own (.lst ds))) (h1 : a (env.set i (.lent (.lst ds))) = some (.list es, env.set i (.lent (.lst ds)))) (hl : ds.length + es.length ≤ 100000) (he : env.set i (.own (.lst (ds ++ es))) = env') : xExt i [] a env = some (.nx env') := by
  have pm : plMut i [] env = some (.own (.lst ds), .lst ds, .lst ds) := plMut_eq h0 rfl rfl
  have le : xLend i a env = some (.list es, env) := lend_own h0 rfl h1
  unfold xExt
  rw [pm]
  dsimp only
  rw [le]
  dsimp only
  rw [pm]
  dsimp only
  rw [if_pos (shT (by omega)), ← he]
  rfl
theorem p_cdGo (s0 s1 s2 : Sv) (W : List Str) : ∀ (us acc : List Str) (s3 : Sv), (∀ u ∈ us, u.length ≤ 12) → acc.length + us.length ≤ 10000 → ∃ s3' : Sv, forGo (gSet 3) cdB (us.map .str) [s0, s1, s2, s3, .own (.dat (.list (W.map .str))), .own (.lst (acc.map .str))] = some (.nx [s0, s1, s2, s3', .own (.dat (.list (W.map .str))), .own (.lst ((acc ++ us.flatMap (frW W)).map .str))])
  | [], acc, s3, _, _ => ⟨s3, by rw [List.flatMap_nil, List.append_nil]; rfl⟩
  | u :: us, acc, s3, hu, hb => by
    rw [List.length_cons] at hb
    have ul := hu u List.mem_cons_self
    have fl := frW_len W u
    obtain ⟨s3', run⟩ := p_cdGo s0 s1 s2 W us (acc ++ frW W u) (.own (.dat (.str u))) (fun x hx => hu x (List.mem_cons_of_mem _ hx)) (by rw [List.length_append]; omega)
    refine ⟨s3', ?_⟩
    let E : Sv → Env := fun s5 => [s0, s1, s2, .own (.dat (.str u)), .own (.dat (.list (W.map .str))), s5]
    have t1 : xB (x2 (x1 (xCons (xVarR 3) xNil) cLenS) (xC (.int 12)) fLt) (E (.own (.lst (acc.map .str)))) = some (decide (u.length < 12), E (.own (.lst (acc.map .str)))) := by
      refine boolT (x2T (a := PyData.int (u.length : Int)) (b := PyData.int 12) (x1T (one_T (a := .str u) rfl) (if_pos (shS (by omega)))) rfl ?_)
      exact congrArg (fun b => some (PyData.bool b)) (decide_eq_decide.mpr (by omega))
    have st : cdB (E (.own (.lst (acc.map .str)))) = some (.nx (E (.own (.lst ((acc ++ frW W u).map .str))))) := by
      unfold cdB
      by_cases c : u.length < 12
      · rw [decide_eq_true c] at t1
        have e : frW W u = freeL W u SM := if_pos c
        rw [e] at fl ⊢
        refine (iteT t1).trans (ext_eq (ds := acc.map .str) (es := (freeL W u SM).map .str) rfl (xDnT (callG (ads := [Ad.d (.str u), Ad.d (.list (W.map .str))]) (ag2 rfl rfl) (p_free W u (by omega)))) (by rw [List.length_map, List.length_map]; omega) ?_)
        show [_, _, _, _, _, Sv.own (.lst (acc.map .str ++ (freeL W u SM).map .str))] = _
        rw [← List.map_append]
      · rw [decide_eq_false c] at t1
        have e : frW W u = [] := if_neg c
        rw [e, List.append_nil]
        exact (iteF t1).trans rfl
    rw [List.map_cons, go_consT (e1 := E (.own (.lst (acc.map .str)))) rfl st, run, List.flatMap_cons, List.append_assoc]
end Q

namespace Q
open PySem L2 Y
/-! ### candidates -/
theorem pats_ex14 : ∀ ds : List PyData, (∀ x ∈ ds, ∃ t : PP.Pat, x = PP.encT t) → ∃ ts : List PP.Pat, ds = ts.map PP.encT
  | [], _ => ⟨[], rfl⟩
  | d :: ds, h => by
    obtain ⟨t, rfl⟩ := h _ List.mem_cons_self
    obtain ⟨ts, rfl⟩ := pats_ex14 ds fun x hx => h x (List.mem_cons_of_mem _ hx)
    exact ⟨t :: ts, rfl⟩
theorem dedP_len : ∀ {r L : List PP.Pat}, (dedP L r).length ≤ L.length + r.length
  | [], L => Nat.le_refl _
  | t :: r, L => by
    unfold dedP
    rw [List.length_cons]
    split
    · have := dedP_len (r := r) (L := L); omega
    · have := dedP_len (r := r) (L := L ++ [t])
      rw [List.length_append, List.length_singleton] at this; omega
theorem encT_inj {a b : PP.Pat} (h : PP.encT a = PP.encT b) : a = b := by
  obtain ⟨a1, a2⟩ := a
  obtain ⟨b1, b2⟩ := b
  unfold PP.encT at h
  injection h with h
  injection h with h1 h
  injection h with h2 h
  injection h1 with h1
  injection h2 with h2
  exact Prod.ext h1 h2
theorem p_pats14 {d : PyData} {q : PP.Qu} (h : quOf 8 d = some q) (hs : (PP.subsR q).length ≤ 1000000) (hp : (PP.patR q).length ≤ 299) : ∃ ts : List PP.Pat, (∀ t, t ∈ ts ↔ t ∈ PP.patR q) ∧ ts.length ≤ 299 ∧ x_patterns_of [.own (.dat d)] = some (.lst (ts.map PP.encT), [.un]) := by
  obtain ⟨ts, e⟩ := pats_ex14 (patsL q) fun x hx => by
    unfold patsL at hx
    rw [(List.mergeSort_perm _ _).mem_iff] at hx
    obtain ⟨t, _, rfl⟩ := List.mem_map.mp hx
    exact ⟨t, rfl⟩
  have mem : ∀ t, t ∈ ts ↔ t ∈ PP.patR q := fun t => by
    have m1 : PP.encT t ∈ patsL q ↔ t ∈ PP.patR q := by
      unfold patsL
      rw [(List.mergeSort_perm _ _).mem_iff, List.mem_map]
      constructor
      · rintro ⟨u, hu, e⟩
        rw [← encT_inj e]
        exact (dedP_mem.mp hu).elim (fun z => nomatch z) id
      · exact fun h => ⟨t, dedP_mem.mpr (.inr h), rfl⟩
    rw [← m1, e, List.mem_map]
    exact ⟨fun h => ⟨t, h, rfl⟩, fun ⟨u, hu, e⟩ => by rw [← encT_inj e]; exact hu⟩
  have nd : ts.length ≤ (PP.patR q).length := by
    have l1 : (patsL q).length = (dedP [] (PP.patR q)).length := by
      unfold patsL
      rw [List.length_mergeSort, List.length_map]
    have l2 : (patsL q).length = ts.length := by rw [e, List.length_map]
    have l3 : (dedP [] (PP.patR q)).length ≤ (PP.patR q).length := by have := dedP_len (r := PP.patR q) (L := []); rw [List.length_nil] at this; omega
    omega
  refine ⟨ts, mem, by omega, ?_⟩
  show xPats [.own (.dat d)] = _
  unfold xPats
  show (match quOf 8 d with | some q => _ | none => _) = _
  rw [h]
  refine (if_pos ?_).trans (by rw [e])
  rw [Bool.and_eq_true, decide_eq_true_iff, decide_eq_true_iff]
  exact ⟨hs, hp⟩
def diffD (d e : PyData) : PyData := .tuple [.str "or", .tuple [.tuple [.str "and", .tuple [d, .tuple [.str "not", e]]], .tuple [.str "and", .tuple [.tuple [.str "not", d], e]]]]
def diffQ (q r : PP.Qu) : PP.Qu := .bin true [.bin false [q, .neg r], .bin false [.neg q, r]]
theorem p_diff (d e : PyData) : x_difference [.own (.dat d), .own (.dat e)] = some (.dat (diffD d e), [.un, .un]) := rfl
theorem quO_not {n : Nat} {e : PyData} {q : PP.Qu} (h : quOf n e = some q) : quOf (n + 1) (.tuple [.str "not", e]) = some (.neg q) := by
  refine (quD_two (f := quOf n)).trans ((if_pos rfl).trans ?_)
  rw [h]; rfl
theorem quO_and {n : Nat} {ds : List PyData} {qs : List PP.Qu} (h : pOpt (quOf n) ds = some qs) : quOf (n + 1) (.tuple [.str "and", .tuple ds]) = some (.bin false qs) := by
  refine (quD_two (f := quOf n)).trans ((if_neg (by decide +kernel)).trans ((if_neg (by decide +kernel)).trans ((if_pos rfl).trans ?_)))
  rw [h]; rfl
theorem quO_or {n : Nat} {ds : List PyData} {qs : List PP.Qu} (h : pOpt (quOf n) ds = some qs) : quOf (n + 1) (.tuple [.str "or", .tuple ds]) = some (.bin true qs) := by
  refine (quD_two (f := quOf n)).trans ((if_neg (by decide +kernel)).trans ((if_pos rfl).trans ?_))
  rw [h]; rfl
theorem two_p {f : PyData → Option PP.Qu} {a b : PyData} {q r : PP.Qu} (h1 : f a = some q) (h2 : f b = some r) : pOpt f [a, b] = some [q, r] := by
  unfold pOpt
  rw [h1]
  unfold pOpt
  rw [h2]; rfl
theorem diff_qu {d e : PyData} {q r : PP.Qu} (h1 : ∀ m, quOf (m + 3) d = some q) (h2 : ∀ m, quOf (m + 3) e = some r) : quOf 8 (diffD d e) = some (diffQ q r) :=
  quO_or (n := 7) (two_p (quO_and (n := 6) (two_p (h1 3) (quO_not (n := 5) (h2 2)))) (quO_and (n := 6) (two_p (quO_not (n := 5) (h1 2)) (h2 3))))
theorem pat_neg (q : PP.Qu) : PP.patR (.neg q) = PP.patR q := by
  show (PP.Qu.neg q :: PP.subsR q).flatMap PP.rowPs = _
  rw [List.flatMap_cons]; rfl
theorem diff_pat {q r : PP.Qu} {t : PP.Pat} : t ∈ PP.patR (diffQ q r) ↔ t ∈ PP.patR q ∨ t ∈ PP.patR r := by
  have two : ∀ {o : Bool} {a b : PP.Qu}, t ∈ PP.patR (.bin o [a, b]) ↔ t ∈ PP.patR a ∨ t ∈ PP.patR b := fun {o a b} => by
    rw [pat_bin]
    constructor
    · rintro ⟨x, hx, ht⟩
      rcases List.mem_cons.mp hx with rfl | hx
      · exact .inl ht
      · rw [List.mem_singleton.mp hx] at ht; exact .inr ht
    · rintro (h | h)
      · exact ⟨a, List.mem_cons_self, h⟩
      · exact ⟨b, List.mem_cons_of_mem _ List.mem_cons_self, h⟩
  unfold diffQ
  rw [two, two, two, pat_neg, pat_neg]
  exact ⟨fun h => h.elim id id, .inl⟩
theorem all2 {P : PP.Qu → Prop} {a b : PP.Qu} (h1 : P a) (h2 : P b) : ∀ q ∈ [a, b], P q := fun q h => (List.mem_cons.mp h).elim (fun e => by rw [e]; exact h1) fun h => by rw [List.mem_singleton.mp h]; exact h2
theorem diff_len {q r : PP.Qu} (q1 : (PP.subsR q).length ≤ 100) (q2 : (PP.patR q).length ≤ 70) (r1 : (PP.subsR r).length ≤ 100) (r2 : (PP.patR r).length ≤ 70) : (PP.subsR (diffQ q r)).length ≤ 1000000 ∧ (PP.patR (diffQ q r)).length ≤ 299 := by
  have sn : ∀ q : PP.Qu, (PP.subsR (.neg q)).length = (PP.subsR q).length + 1 := fun q => rfl
  constructor
  · have a1 := bin_s (o := false) (qs := [q, .neg r]) (s := 101) (all2 (by omega) (by rw [sn]; omega))
    have a2 := bin_s (o := false) (qs := [.neg q, r]) (s := 101) (all2 (by rw [sn]; omega) (by omega))
    have a3 := bin_s (o := true) (qs := [.bin false [q, .neg r], .bin false [.neg q, r]]) (s := 203) (all2 a1 a2)
    unfold diffQ
    exact Nat.le_trans a3 (show 1 + 2 * 203 ≤ 1000000 by decide)
  · have a1 := bin_p (o := false) (qs := [q, .neg r]) (p := 70) (all2 q2 (by rw [pat_neg]; exact r2))
    have a2 := bin_p (o := false) (qs := [.neg q, r]) (p := 70) (all2 (by rw [pat_neg]; exact q2) r2)
    have a3 := bin_p (o := true) (qs := [.bin false [q, .neg r], .bin false [.neg q, r]]) (p := 140) (all2 a1 a2)
    unfold diffQ
    exact Nat.le_trans a3 (show 2 * 140 ≤ 299 by decide)
theorem flat_frW (W : List Str) : ∀ us : List Str, (us.flatMap (frW W)).length ≤ us.length
  | [] => Nat.le_refl _
  | u :: us => by
    rw [List.flatMap_cons, List.length_append, List.length_cons]
    have := frW_len W u
    have := flat_frW W us
    omega
def fndP (W : List Str) : List Str := W ++ (("" : Str) :: W).flatMap (frW W)
theorem p_candidates {d e : PyData} {q r : PP.Qu} (h1 : ∀ m, quOf (m + 3) d = some q) (h2 : ∀ m, quOf (m + 3) e = some r) (q1 : (PP.subsR q).length ≤ 100) (q2 : (PP.patR q).length ≤ 70) (r1 : (PP.subsR r).length ≤ 100) (r2 : (PP.patR r).length ≤ 70) (ok : ∀ t, t ∈ PP.patR q ∨ t ∈ PP.patR r → okT t) : ∃ W : List Str, (∀ x, x ∈ W ↔ ∃ t, (t ∈ PP.patR q ∨ t ∈ PP.patR r) ∧ t.2 = x) ∧ W.length ≤ 299 ∧ x_candidates [.own (.dat d), .own (.dat e)] = some (.lst (((setS (fndP W)).map PyData.str).mergeSort (PySem.W.dataLe false id)), [.un, .un]) := by
  obtain ⟨l1, l2⟩ := diff_len q1 q2 r1 r2
  obtain ⟨ts, mem, tl, pp⟩ := p_pats14 (diff_qu h1 h2) l1 l2
  have memW : ∀ x, x ∈ ts.map (·.2) ↔ ∃ t, (t ∈ PP.patR q ∨ t ∈ PP.patR r) ∧ t.2 = x := fun x => by
    rw [List.mem_map]
    exact ⟨fun ⟨t, h, e⟩ => ⟨t, diff_pat.mp ((mem t).mp h), e⟩, fun ⟨t, h, e⟩ => ⟨t, (mem t).mpr (diff_pat.mpr h), e⟩⟩
  have e0 : ts.map (fun t : PP.Pat => PyData.str t.2) = (ts.map (·.2)).map PyData.str := by rw [List.map_map]; rfl
  refine ⟨ts.map (·.2), memW, by rw [List.length_map]; exact tl, ?_⟩
  have okW : ∀ u ∈ ("" : Str) :: ts.map (·.2), u.length ≤ 12 := fun u hu => by
    rcases List.mem_cons.mp hu with rfl | hu
    · decide +kernel
    · obtain ⟨t, ht, rfl⟩ := (memW u).mp hu
      exact (ok t ht).1.1
  have wl : (ts.map (·.2)).length ≤ 299 := by rw [List.length_map]; exact tl
  generalize hW : ts.map (·.2) = W at *
  let E : Sv → Sv → Sv → Sv → Env := fun s2 s3 s4 s5 => [.own (.dat d), .own (.dat e), s2, s3, s4, s5]
  let D4 : Sv := .own (.dat (.list (W.map .str)))
  have g4 := lc_mapA (tg := gTupX 2 (gConsX (gSet 2) (gConsX (gSet 3) gNilX))) (elt := xVar 3) (vs := [2, 3]) (E := E .un .un .un .un) (f := PP.encT) (c := fun t : PP.Pat => PyData.str t.2) (E1 := fun t => E (.own (.dat (.str t.1))) (.own (.dat (.str t.2))) .un .un) ts fun t _ => ⟨rfl, rfl, rfl⟩
  rw [e0] at g4
  have k1 : xSet 4 (xDn (xLc (x1 (xDn (xCall x_patterns_of (agCons (gD (xDn (xCall x_difference (agCons (gD (xVar 0)) (agCons (gD (xVar 1)) agNil))))) agNil))) listD) (gTupX 2 (gConsX (gSet 2) (gConsX (gSet 3) gNilX))) xYes (xVar 3) [2, 3])) (E .un .un .un .un) = some (.nx (E .un .un D4 .un)) := set_to (s := .un) (xDnT (xLc_eq (e1 := E .un .un .un .un) (e2 := E .un .un .un .un) (ds := ts.map PP.encT) (x1T (xDnT (callG (ads := [Ad.d (diffD d e)]) (ag1 (xDnD' (callG (ads := [Ad.d d, Ad.d e]) (ag2 rfl rfl) (p_diff d e)))) pp)) rfl) rfl (by rw [List.length_map]; omega) g4 rfl)) rfl rfl
  have k2 : xSetN 5 (x1 (xCons (xVarR 4) xNil) fun ds => (cList ds).map .lst) (E .un .un D4 .un) = some (.nx (E .un .un D4 (.own (.lst (W.map .str))))) := setN_to (s := .un) (x1T (one_T (a := .list (W.map .str)) rfl) rfl) rfl rfl
  obtain ⟨s3, run⟩ := p_cdGo (.own (.dat d)) (.own (.dat e)) .un W (("" : Str) :: W) W .un okW (by rw [List.length_cons]; omega)
  have k3 : xFor (x1 (xDn (x2 (xDn (xLst (xCons (xC (.str "")) xNil))) (xVarR 4) fun d e => (fCat d e).map .lst)) listD) (gSet 3) cdB (E .un .un D4 (.own (.lst (W.map .str)))) = some (.nx (E .un s3 D4 (.own (.lst ((fndP W).map .str))))) := for_eq (x1T (a := PyData.list ((("" : Str) :: W).map .str)) (xDnT (x2T (a := PyData.list [.str ""]) (b := PyData.list (W.map .str)) rfl rfl (catLT (by rw [List.length_map, List.length_singleton]; omega)))) rfl) run
  have fl := flat_frW W (("" : Str) :: W)
  rw [List.length_cons] at fl
  have few : fewS (fndP W).length = true := decide_eq_true (by
    show (fndP W).length + 1 < 4096
    unfold fndP
    rw [List.length_append]; omega)
  have cs : cSortSet [.list ((fndP W).map .str)] = some (((setS (fndP W)).map PyData.str).mergeSort (PySem.W.dataLe false id)) := by
    unfold cSortSet
    dsimp only
    rw [strsD_of]
    exact if_pos few
  have k4 : xRetN (xLend 5 (x1 (xCons (xVarR 5) xNil) fun ds => (cSortSet ds).map .lst)) (E .un s3 D4 (.own (.lst ((fndP W).map .str)))) = some (.ret (.lst (((setS (fndP W)).map PyData.str).mergeSort (PySem.W.dataLe false id))) (E .un s3 D4 (.own (.lst ((fndP W).map .str))))) := retNT (lend_own (t := .lst ((fndP W).map .str)) rfl rfl (x1T (one_T (a := .list ((fndP W).map .str)) rfl) (by rw [cs]; rfl)))
  unfold x_candidates
  refine callT (n := 2) (m := 4) (e := E .un s3 D4 (.own (.lst ((fndP W).map .str)))) rfl ?_
  show b_candidates (E .un .un .un .un) = _
  unfold b_candidates
  unfold cdB at k3
  rw [seqT k1, seqT k2]
  exact (seqT k3).trans k4
end Q

namespace Q
open PySem L2 Y
/-! ### the law's candidates -/
def fitL (c : Nat) (t : PP.Pat) : Bool := if t.1 = "start" then Txt.startswith (sg c) t.2 else decide (sg c = t.2)
theorem fit_starts {t : PP.Pat} {c : Nat} (ok : okT t) (h : fitL c t = true) : Txt.startswith t.2 (sg c) = true := by
  have nw : (t.2.cps.toList <+: (sg c).cps.toList) → Txt.startswith t.2 (sg c) = true := fun h => by
    have l1 : 1 ≤ t.2.cps.toList.length := by rw [Array.length_toList]; exact ok.1.2
    have h2 : t.2.cps.toList = (sg c).cps.toList := h.eq_of_length_le (show 1 ≤ _ from l1)
    exact (starts_iff _ _).mpr (by rw [h2]; exact List.prefix_refl _)
  unfold fitL at h
  split at h
  · exact nw ((starts_iff _ _).mp h)
  · exact nw (by rw [of_decide_eq_true h]; exact List.prefix_refl _)
theorem p_lfits (t : PP.Pat) (c : Nat) (ok : okT t) : x__law_fits [.own (.dat (.str (sg c))), .own (.dat (PP.encT t))] = some (.dat (.bool (fitL c t)), [.un, .un]) := by
  let E : Env := [.own (.dat (.str (sg c))), .own (.dat (PP.encT t))]
  have t1 : xB (x2 (x2 (xVarR 1) (xC (.int 0)) fIxT) (xC (.str "start")) fEq) E = some (decide (t.1 = "start"), E) := boolT (x2T (a := PyData.str t.1) (b := PyData.str "start") (x2T (a := PP.encT t) (b := PyData.int 0) rfl rfl rfl) rfl rfl)
  have w1 : x2 (xVarR 1) (xC (.int 1)) fIxT E = some (.str t.2, E) := x2T (a := PP.encT t) (b := PyData.int 1) rfl rfl rfl
  unfold x__law_fits fitL
  by_cases s : t.1 = "start"
  · rw [decide_eq_true s] at t1
    rw [if_pos s]
    refine callT (n := 2) (m := 0) (as := E) (e := E) rfl ?_
    show b__law_fits E = _
    unfold b__law_fits
    rw [← cutW]
    exact seqR ((iteT t1).trans (retT (x2T (a := PyData.str (cutS (sg c) none (some (t.2.length : Int)))) (b := PyData.str t.2) (cutT rfl w1 (by rw [sg_len]; omega) (by have := ok.1.1; omega)) w1 rfl)))
  · rw [decide_eq_false s] at t1
    rw [if_neg s]
    refine callT (n := 2) (m := 0) (as := E) (e := E) rfl ?_
    show b__law_fits E = _
    unfold b__law_fits
    rw [seqT (skipF t1)]
    exact retT (x2T (a := PyData.str (sg c)) (b := PyData.str t.2) rfl w1 rfl)
abbrev LE (s0 s1 s2 s3 s4 s5 s6 s7 s8 s9 : Sv) : Env := [s0, s1, s2, s3, s4, s5, s6, s7, s8, s9]
section
variable {P : List PP.Pat} (ok : ∀ t ∈ P, okT t) (s0 s1 s3 s7 s8 s9 : Sv)
include ok
def liB : XS := xIte (xB (xDn (xCall x__law_is_new (agCons (gD (x2 (x2 (xVarR 2) (xC (.int 1)) fIxT) (xVarR 6) fAddS)) (agCons (gD (xVar 4)) agNil))))) (xSeq (xApp 5 [] (x2 (x2 (xVarR 2) (xC (.int 1)) fIxT) (xVarR 6) fAddS)) xBrk) xNext
theorem p_liGo (t : PP.Pat) (ht : okT t) (acc : List Str) (hb : acc.length ≤ 10000) : ∀ (cs : List Nat) (s6 : Sv), ∃ s6' : Sv, forGo (gSet 6) liB (cs.map encS) (LE s0 s1 (.own (.dat (PP.encT t))) s3 (.own (.dat (.list (P.map PP.encT)))) (.own (.lst (acc.map .str))) s6 s7 s8 s9) = some (.nx (LE s0 s1 (.own (.dat (PP.encT t))) s3 (.own (.dat (.list (P.map PP.encT)))) (.own (.lst ((acc ++ freeL (P.map (·.2)) t.2 cs).map .str))) s6' s7 s8 s9))
  | [], s6 => ⟨s6, by show _ = some (Out.nx (LE _ _ _ _ _ (.own (.lst ((acc ++ []).map .str))) _ _ _ _)); rw [List.append_nil]; rfl⟩
  | c :: cs, s6 => by
    let V : Str := t.2 ++ sg c
    have tl := ht.1.1
    let E : Sv → Env := fun s5 => LE s0 s1 (.own (.dat (PP.encT t))) s3 (.own (.dat (.list (P.map PP.encT)))) s5 (.own (.dat (encS c))) s7 s8 s9
    have vv : ∀ s5, x2 (x2 (xVarR 2) (xC (.int 1)) fIxT) (xVarR 6) fAddS (E s5) = some (.str V, E s5) := fun s5 => x2T (a := PyData.str t.2) (b := PyData.str (sg c)) (x2T (a := PP.encT t) (b := PyData.int 1) rfl rfl rfl) rfl (if_pos (shT (by rw [sg_len]; omega)))
    have vl : V.length ≤ 100 := by rw [len_appS, sg_len]; omega
    have t1 : xB (xDn (xCall x__law_is_new (agCons (gD (x2 (x2 (xVarR 2) (xC (.int 1)) fIxT) (xVarR 6) fAddS)) (agCons (gD (xVar 4)) agNil)))) (E (.own (.lst (acc.map .str)))) = some (isnew (P.map (·.2)) V, E (.own (.lst (acc.map .str)))) := boolT (xDnD' (callG (ads := [Ad.d (.str V), Ad.d (.list (P.map PP.encT))]) (ag2 (vv _) rfl) (p_new V vl P ok)))
    rw [List.map_cons]
    cases q : isnew (P.map (·.2)) V with
    | true =>
      rw [q] at t1
      have e : freeL (P.map (·.2)) t.2 (c :: cs) = [V] := by
        conv => lhs; unfold freeL
        exact if_pos q
      rw [e]
      refine ⟨.own (.dat (encS c)), ?_⟩
      have ap : xApp 5 [] (x2 (x2 (xVarR 2) (xC (.int 1)) fIxT) (xVarR 6) fAddS) (E (.own (.lst (acc.map .str)))) = some (.nx (E (.own (.lst ((acc ++ [V]).map .str))))) := app_eq (d := .str V) rfl (vv _) (by rw [List.length_map]; omega) (by rw [List.map_append]; rfl)
      have st : liB (E (.own (.lst (acc.map .str)))) = some (.brk (E (.own (.lst ((acc ++ [V]).map .str))))) := by
        unfold liB
        refine (iteT t1).trans ?_
        rw [seqT ap]; rfl
      unfold forGo
      have tg : gSet 6 (encS c) (LE s0 s1 (.own (.dat (PP.encT t))) s3 (.own (.dat (.list (P.map PP.encT)))) (.own (.lst (acc.map .str))) s6 s7 s8 s9) = some (E (.own (.lst (acc.map .str)))) := rfl
      rw [tg]
      dsimp only
      rw [st]
    | false =>
      rw [q] at t1
      have e : freeL (P.map (·.2)) t.2 (c :: cs) = freeL (P.map (·.2)) t.2 cs := by
        conv => lhs; unfold freeL
        exact if_neg (by rw [show isnew (P.map (·.2)) (t.2 ++ sg c) = false from q]; decide)
      obtain ⟨s6', ih⟩ := p_liGo t ht acc hb cs (.own (.dat (encS c)))
      refine ⟨s6', ?_⟩
      have st : liB (E (.own (.lst (acc.map .str)))) = some (.nx (E (.own (.lst (acc.map .str))))) := by
        unfold liB
        exact (iteF t1).trans rfl
      rw [e, go_consT (e1 := E (.own (.lst (acc.map .str)))) rfl st]
      exact ih
def loB : XS := xIte (xB (x2 (x1 (xCons (x2 (xVarR 2) (xC (.int 1)) fIxT) xNil) cLenS) (xC (.int 12)) fLt)) (xFor (x1 (xVarR 3) signsD) (gSet 6) liB) xNext
theorem p_loGo : ∀ (us : List PP.Pat) (acc : List Str) (s2 s6 : Sv), calmS s2 = true → (∀ t ∈ us, okT t) → acc.length + us.length ≤ 10000 → ∃ s2' s6' : Sv, calmS s2' = true ∧ forGo (gSet 2) loB (us.map PP.encT) (LE s0 s1 s2 (.own (.dat (.str "0123456789abcdefghijklmnopqrstuvwxyz"))) (.own (.dat (.list (P.map PP.encT)))) (.own (.lst (acc.map .str))) s6 s7 s8 s9) = some (.nx (LE s0 s1 s2' (.own (.dat (.str "0123456789abcdefghijklmnopqrstuvwxyz"))) (.own (.dat (.list (P.map PP.encT)))) (.own (.lst ((acc ++ us.flatMap fun t => frW (P.map (·.2)) t.2).map .str))) s6' s7 s8 s9))
  | [], acc, s2, s6, hc, _, _ => ⟨s2, s6, hc, by rw [List.flatMap_nil, List.append_nil]; rfl⟩
  | t :: us, acc, s2, s6, _, hu, hb => by
    rw [List.length_cons] at hb
    have ht := hu t List.mem_cons_self
    have tl := ht.1.1
    have fl := frW_len (P.map (·.2)) t.2
    let S3 : Sv := .own (.dat (.str "0123456789abcdefghijklmnopqrstuvwxyz"))
    let E : Sv → Sv → Env := fun s5 s6 => LE s0 s1 (.own (.dat (PP.encT t))) S3 (.own (.dat (.list (P.map PP.encT)))) s5 s6 s7 s8 s9
    have t1 : xB (x2 (x1 (xCons (x2 (xVarR 2) (xC (.int 1)) fIxT) xNil) cLenS) (xC (.int 12)) fLt) (E (.own (.lst (acc.map .str))) s6) = some (decide (t.2.length < 12), E (.own (.lst (acc.map .str))) s6) := by
      refine boolT (x2T (a := PyData.int (t.2.length : Int)) (b := PyData.int 12) (x1T (one_T (a := .str t.2) (x2T (a := PP.encT t) (b := PyData.int 1) rfl rfl rfl)) (if_pos (shS (by omega)))) rfl ?_)
      exact congrArg (fun b => some (PyData.bool b)) (decide_eq_decide.mpr (by omega))
    obtain ⟨s6b, st⟩ : ∃ s6b : Sv, loB (E (.own (.lst (acc.map .str))) s6) = some (.nx (E (.own (.lst ((acc ++ frW (P.map (·.2)) t.2).map .str))) s6b)) := by
      by_cases c : t.2.length < 12
      · rw [decide_eq_true c] at t1
        have e : frW (P.map (·.2)) t.2 = freeL (P.map (·.2)) t.2 SM := if_pos c
        obtain ⟨s6', run⟩ := p_liGo ok s0 s1 S3 s7 s8 s9 t ht acc (by omega) SM s6
        refine ⟨s6', ?_⟩
        rw [e]
        unfold loB
        exact (iteT t1).trans (for_eq (e := E (.own (.lst (acc.map .str))) s6) (ds := SM.map encS) rfl run)
      · rw [decide_eq_false c] at t1
        have e : frW (P.map (·.2)) t.2 = [] := if_neg c
        refine ⟨s6, ?_⟩
        rw [e, List.append_nil]
        unfold loB
        exact (iteF t1).trans rfl
    obtain ⟨s2', s6', hc', run⟩ := p_loGo us (acc ++ frW (P.map (·.2)) t.2) (.own (.dat (PP.encT t))) s6b rfl (fun x hx => hu x (List.mem_cons_of_mem _ hx)) (by rw [List.length_append]; omega)
    refine ⟨s2', s6', hc', ?_⟩
    rw [List.map_cons, go_consT (e1 := E (.own (.lst (acc.map .str))) s6) rfl st, run, List.flatMap_cons, List.append_assoc]
end
end Q

namespace Q
open PySem L2 Y
theorem lc_filtA {α : Type} {tg : XT} {tst : XB} {elt : XD} {vs : List Nat} {E : Env} {f : α → PyData} {p : α → Bool} {E1 : α → Env} : ∀ as : List α, (∀ a ∈ as, tg (f a) E = some (E1 a) ∧ tst (E1 a) = some (p a, E1 a) ∧ elt (E1 a) = some (f a, E1 a) ∧ wipeX (E1 a) vs = E) → lcGo tg tst elt vs (as.map f) E = some ((as.filter p).map f, E)
  | [], _ => rfl
  | a :: as, h => by
    obtain ⟨h1, h2, h3, h4⟩ := h a List.mem_cons_self
    have ih := lc_filtA as fun b hb => h b (List.mem_cons_of_mem _ hb)
    rw [List.map_cons, List.filter_cons]
    unfold lcGo
    rw [h1]
    dsimp only
    rw [h2]
    cases p a with
    | true =>
      dsimp only
      rw [h3]
      dsimp only
      rw [h4, ih]
      rfl
    | false =>
      dsimp only
      rw [h4, ih]
      rfl
theorem nil_app (z : Str) : ("" : Str) ++ z = z := strEq (by
  show (#[] ++ z.cps).toList = _
  rw [Array.toList_append]; rfl)
section
variable {P : List PP.Pat} (ok : ∀ t ∈ P, okT t) (s0 s1 s3 s8 s9 : Sv)
include ok
def tiB : XS := xSeq (xSet 7 (xDn (xLc (x1 (xVarR 4) listD) (gSet 2) (xB (xDn (xCall x__law_fits (agCons (gD (xVar 6)) (agCons (gD (xVar 2)) agNil))))) (xVar 2) [2]))) (xIte (xAndT (xB (x2 (x1 (xCons (xVarR 7) xNil) cLen) (xC (.int 0)) fEq)) (xB (xDn (xCall x__law_is_new (agCons (gD (xVar 6)) (agCons (gD (xVar 4)) agNil)))))) (xSeq (xApp 5 [] (xVar 6)) xBrk) xNext)
theorem p_tiGo (hP : P.length ≤ 10000) (s2 : Sv) (hc : calmS s2 = true) (acc : List Str) (hb : acc.length ≤ 10000) : ∀ (cs : List Nat) (s6 s7 : Sv), ∃ s6' s7' : Sv, forGo (gSet 6) tiB (cs.map encS) (LE s0 s1 s2 s3 (.own (.dat (.list (P.map PP.encT)))) (.own (.lst (acc.map .str))) s6 s7 s8 s9) = some (.nx (LE s0 s1 s2 s3 (.own (.dat (.list (P.map PP.encT)))) (.own (.lst ((acc ++ freeL (P.map (·.2)) "" cs).map .str))) s6' s7' s8 s9))
  | [], s6, s7 => ⟨s6, s7, by show _ = some (Out.nx (LE _ _ _ _ _ (.own (.lst ((acc ++ []).map .str))) _ _ _ _)); rw [List.append_nil]; rfl⟩
  | c :: cs, s6, s7 => by
    let D4 : Sv := .own (.dat (.list (P.map PP.encT)))
    let FT : List PP.Pat := P.filter (fitL c)
    let D7 : Sv := .own (.dat (.list (FT.map PP.encT)))
    let E2 : Sv → Sv → Sv → Env := fun s2 s5 s7 => LE s0 s1 s2 s3 D4 s5 (.own (.dat (encS c))) s7 s8 s9
    let A5 : Sv := .own (.lst (acc.map .str))
    have g := lc_filtA (tg := gSet 2) (tst := xB (xDn (xCall x__law_fits (agCons (gD (xVar 6)) (agCons (gD (xVar 2)) agNil))))) (elt := xVar 2) (vs := [2]) (E := E2 .un A5 s7) (f := PP.encT) (p := fitL c) (E1 := fun t => E2 (.own (.dat (PP.encT t))) A5 s7) P fun t ht => ⟨rfl, boolT (xDnD' (callG (ads := [Ad.d (.str (sg c)), Ad.d (PP.encT t)]) (ag2 rfl rfl) (p_lfits t c (ok t ht)))), rfl, rfl⟩
    have lc : xLc (x1 (xVarR 4) listD) (gSet 2) (xB (xDn (xCall x__law_fits (agCons (gD (xVar 6)) (agCons (gD (xVar 2)) agNil))))) (xVar 2) [2] (E2 s2 A5 s7) = some (.lst (FT.map PP.encT), E2 s2 A5 s7) := xLc_eq (e1 := E2 s2 A5 s7) (e2 := E2 .un A5 s7) (ds := P.map PP.encT) rfl (by show (calmS s2 && true) = true; rw [hc]; rfl) (by rw [List.length_map]; omega) g rfl
    have k1 : xSet 7 (xDn (xLc (x1 (xVarR 4) listD) (gSet 2) (xB (xDn (xCall x__law_fits (agCons (gD (xVar 6)) (agCons (gD (xVar 2)) agNil))))) (xVar 2) [2])) (E2 s2 A5 s7) = some (.nx (E2 s2 A5 D7)) := set_to (s := s7) (xDnT lc) rfl rfl
    have t1 : xB (x2 (x1 (xCons (xVarR 7) xNil) cLen) (xC (.int 0)) fEq) (E2 s2 A5 D7) = some (decide (FT.length = 0), E2 s2 A5 D7) := by
      refine boolT (x2T (a := PyData.int (FT.length : Int)) (b := PyData.int 0) (x1T (one_T (a := .list (FT.map PP.encT)) rfl) ?_) rfl ?_)
      · show some (PyData.int (((FT.map PP.encT).length : Nat) : Int)) = _
        rw [List.length_map]
      · exact congrArg (fun b => some (PyData.bool b)) (decide_eq_decide.mpr (by omega))
    have t2 : xB (xDn (xCall x__law_is_new (agCons (gD (xVar 6)) (agCons (gD (xVar 4)) agNil)))) (E2 s2 A5 D7) = some (isnew (P.map (·.2)) (sg c), E2 s2 A5 D7) := boolT (xDnD' (callG (ads := [Ad.d (.str (sg c)), Ad.d (.list (P.map PP.encT))]) (ag2 rfl rfl) (p_new (sg c) (by rw [sg_len]; omega) P ok)))
    have t3 : xAndT (xB (x2 (x1 (xCons (xVarR 7) xNil) cLen) (xC (.int 0)) fEq)) (xB (xDn (xCall x__law_is_new (agCons (gD (xVar 6)) (agCons (gD (xVar 4)) agNil))))) (E2 s2 A5 D7) = some (isnew (P.map (·.2)) (sg c), E2 s2 A5 D7) := by
      unfold xAndT
      by_cases z : FT.length = 0
      · rw [decide_eq_true z] at t1
        exact (iteT t1).trans t2
      · rw [decide_eq_false z] at t1
        refine (iteF t1).trans ?_
        have e : isnew (P.map (·.2)) (sg c) = false := by
          obtain ⟨t, ht⟩ : ∃ t, t ∈ FT := List.exists_mem_of_length_pos (by omega)
          obtain ⟨h1, h2⟩ := List.mem_filter.mp ht
          unfold isnew
          rw [List.any_eq_true.mpr ⟨t.2, List.mem_map.mpr ⟨t, h1, rfl⟩, fit_starts (ok t h1) h2⟩]; rfl
        rw [e]
    rw [List.map_cons]
    cases q : isnew (P.map (·.2)) (sg c) with
    | true =>
      rw [q] at t3
      have e : freeL (P.map (·.2)) "" (c :: cs) = [sg c] := by
        conv => lhs; unfold freeL
        rw [nil_app]
        exact if_pos q
      rw [e]
      refine ⟨.own (.dat (encS c)), D7, ?_⟩
      have ap : xApp 5 [] (xVar 6) (E2 s2 A5 D7) = some (.nx (E2 s2 (.own (.lst ((acc ++ [sg c]).map .str))) D7)) := app_eq (d := .str (sg c)) rfl rfl (by rw [List.length_map]; omega) (by rw [List.map_append]; rfl)
      have st : tiB (E2 s2 A5 s7) = some (.brk (E2 s2 (.own (.lst ((acc ++ [sg c]).map .str))) D7)) := by
        unfold tiB
        rw [seqT k1]
        refine (iteT t3).trans ?_
        rw [seqT ap]; rfl
      unfold forGo
      have tg : gSet 6 (encS c) (LE s0 s1 s2 s3 (.own (.dat (.list (P.map PP.encT)))) (.own (.lst (acc.map .str))) s6 s7 s8 s9) = some (E2 s2 A5 s7) := rfl
      rw [tg]
      dsimp only
      rw [st]
    | false =>
      rw [q] at t3
      have e : freeL (P.map (·.2)) "" (c :: cs) = freeL (P.map (·.2)) "" cs := by
        conv => lhs; unfold freeL
        rw [nil_app]
        exact if_neg (by rw [q]; decide)
      obtain ⟨s6', s7', ih⟩ := p_tiGo hP s2 hc acc hb cs (.own (.dat (encS c))) D7
      refine ⟨s6', s7', ?_⟩
      have st : tiB (E2 s2 A5 s7) = some (.nx (E2 s2 A5 D7)) := by
        unfold tiB
        rw [seqT k1]
        exact (iteF t3).trans rfl
      rw [e, go_consT (e1 := E2 s2 A5 s7) rfl st]
      exact ih
end
/-! each once -/
def ddB : XS := xIte (xLend 8 (xB (x2 (xVarR 9) (xVarR 8) (fInD true)))) (xApp 8 [] (xVar 9)) xNext
theorem p_ddGo (s0 s1 s2 s3 s4 s5 s6 s7 : Sv) : ∀ (us acc : List Str) (s9 : Sv), (∀ u ∈ us, PyData.strOk u = true) → (∀ u ∈ acc, PyData.strOk u = true) → acc.length + us.length ≤ 10000 → ∃ s9' : Sv, forGo (gSet 9) ddB (us.map .str) (LE s0 s1 s2 s3 s4 s5 s6 s7 (.own (.lst (acc.map .str))) s9) = some (.nx (LE s0 s1 s2 s3 s4 s5 s6 s7 (.own (.lst ((us.foldl addS acc).map .str))) s9'))
  | [], acc, s9, _, _, _ => ⟨s9, rfl⟩
  | u :: us, acc, s9, hu, ha, hb => by
    rw [List.length_cons] at hb
    have uo := hu u List.mem_cons_self
    have al := addS_len (L := acc) (k := u)
    obtain ⟨s9', run⟩ := p_ddGo s0 s1 s2 s3 s4 s5 s6 s7 us (addS acc u) (.own (.dat (.str u))) (fun x hx => hu x (List.mem_cons_of_mem _ hx)) (fun x hx => (mem_addS.mp hx).elim (ha x) fun e => by rw [e]; exact uo) (by omega)
    refine ⟨s9', ?_⟩
    let E : Sv → Env := fun s8 => LE s0 s1 s2 s3 s4 s5 s6 s7 s8 (.own (.dat (.str u)))
    have t1 : xLend 8 (xB (x2 (xVarR 9) (xVarR 8) (fInD true))) (E (.own (.lst (acc.map .str)))) = some (!decide (u ∈ acc), E (.own (.lst (acc.map .str)))) := lend_own (t := .lst (acc.map .str)) rfl rfl (boolT (x2T (a := PyData.str u) (b := PyData.list (acc.map .str)) rfl rfl (inD true ha uo)))
    have st : ddB (E (.own (.lst (acc.map .str)))) = some (.nx (E (.own (.lst ((addS acc u).map .str))))) := by
      unfold ddB addS
      by_cases c : u ∈ acc
      · rw [decide_eq_true c] at t1
        rw [if_pos c]
        exact (iteF t1).trans rfl
      · rw [decide_eq_false c] at t1
        rw [if_neg c]
        exact (iteT t1).trans (app_eq (d := .str u) rfl rfl (by rw [List.length_map]; omega) (by rw [List.map_append]; rfl))
    rw [List.map_cons, go_consT (e1 := E (.own (.lst (acc.map .str)))) rfl st, run, List.foldl_cons]
end Q

namespace Q
open PySem L2 Y
/-! ### the same words in order -/
theorem fold_mem {x : Str} : ∀ (us acc : List Str), x ∈ us.foldl addS acc ↔ x ∈ acc ∨ x ∈ us
  | [], acc => ⟨.inl, fun h => h.elim id fun z => nomatch z⟩
  | u :: us, acc => by
    rw [List.foldl_cons, fold_mem us, mem_addS, List.mem_cons, or_assoc]
theorem addS_nd {L : List Str} {k : Str} (h : L.Nodup) : (addS L k).Nodup := by
  unfold addS
  split
  · exact h
  · rename_i g
    exact List.nodup_append.mpr ⟨h, List.pairwise_singleton _ _, fun a ha b hb e => g (by rw [← List.mem_singleton.mp hb, ← e]; exact ha)⟩
theorem fold_nd : ∀ (us acc : List Str), acc.Nodup → (us.foldl addS acc).Nodup
  | [], _, h => h
  | u :: us, acc, h => by
    rw [List.foldl_cons]
    exact fold_nd us _ (addS_nd h)
theorem fold_sub : ∀ (us acc : List Str), (us.foldl addS acc).Sublist (acc ++ us)
  | [], acc => by rw [List.append_nil]; exact List.Sublist.refl _
  | u :: us, acc => by
    rw [List.foldl_cons]
    have ih := fold_sub us (addS acc u)
    refine ih.trans ?_
    unfold addS
    split
    · exact (List.Sublist.refl acc).append (List.sublist_cons_self u us)
    · rw [List.append_assoc]; exact List.Sublist.refl _
def srtW (ks : List Str) : List Str := ks.mergeSort (PySem.W.dataLe false PyData.str)
theorem srtW_map (ks : List Str) : (ks.map PyData.str).mergeSort (PySem.W.dataLe false id) = (srtW ks).map PyData.str := (List.map_mergeSort (f := PyData.str) (r := PySem.W.dataLe false PyData.str) (s := PySem.W.dataLe false id) fun _ _ _ _ => rfl).symm
theorem strs_tot : PySem.W.TotalLe (PySem.W.dataLe false PyData.str) := PySem.W.sortLe_total (PyProof.Rows.listOrd PyProof.Rows.itemOrd) false fun a : Str => PySem.W.keyToks (.str a)
theorem sort_eq {A B : List Str} (h : ∀ x, x ∈ A ↔ x ∈ B) : ((setS A).map PyData.str).mergeSort (PySem.W.dataLe false id) = (setS (srtW B)).map PyData.str := by
  have pw : ((setS A).map PyData.str).mergeSort (PySem.W.dataLe false id) |>.Pairwise fun a b => PySem.W.dataLe false id a b = true := PySem.W.sort_pairwise (PySem.W.sortLe_total _ false _) _
  have pb : ((setS (srtW B)).map PyData.str).Pairwise fun a b => PySem.W.dataLe false id a b = true := by
    rw [List.pairwise_map]
    have s1 : (srtW B).Pairwise fun a b => PySem.W.dataLe false PyData.str a b = true := PySem.W.sort_pairwise strs_tot B
    have s2 := fold_sub (srtW B) []
    rw [List.nil_append] at s2
    exact s1.sublist s2
  have pm : (setS A).Perm (setS (srtW B)) := (List.perm_ext_iff_of_nodup (fold_nd A [] .nil) (fold_nd _ [] .nil)).mpr fun x => by
    show x ∈ A.foldl addS [] ↔ x ∈ (srtW B).foldl addS []
    rw [fold_mem, fold_mem]
    unfold srtW
    rw [(List.mergeSort_perm _ _).mem_iff, h x]
  refine List.Perm.eq_of_pairwise (le := fun a b => PySem.W.dataLe false id a b = true) (fun a b ha hb h1 h2 => ?_) pw pb ((List.mergeSort_perm _ _).trans (pm.map _))
  rw [(List.mergeSort_perm _ _).mem_iff] at ha
  obtain ⟨x, _, rfl⟩ := List.mem_map.mp ha
  obtain ⟨y, _, rfl⟩ := List.mem_map.mp hb
  exact congrArg PyData.str (le_strs h1 h2)
def fndL (P : List PP.Pat) : List Str := (P.map (·.2) ++ P.flatMap fun t => frW (P.map (·.2)) t.2) ++ freeL (P.map (·.2)) "" SM
theorem fnd_eq {W : List Str} {P : List PP.Pat} (h : ∀ x, x ∈ W ↔ x ∈ P.map (·.2)) (x : Str) : x ∈ fndP W ↔ x ∈ fndL P := by
  have fe : ∀ w, frW W w = frW (P.map (·.2)) w := fun w => by
    unfold frW
    rw [freeL_eq h w SM]
  have f0 : frW (P.map (·.2)) ("" : Str) = freeL (P.map (·.2)) "" SM := if_pos (by decide +kernel)
  unfold fndP fndL
  rw [List.mem_append, List.mem_append, List.mem_append, List.flatMap_cons, List.mem_append, fe, f0, h x, List.mem_flatMap, List.mem_flatMap]
  constructor
  · rintro (a | a | ⟨w, hw, a⟩)
    · exact .inl (.inl a)
    · exact .inr a
    · obtain ⟨t, ht, rfl⟩ := List.mem_map.mp ((h w).mp hw)
      exact .inl (.inr ⟨t, ht, by rw [← fe]; exact a⟩)
  · rintro ((a | ⟨t, ht, a⟩) | a)
    · exact .inl a
    · exact .inr (.inr ⟨t.2, (h _).mpr (List.mem_map.mpr ⟨t, ht, rfl⟩), by rw [fe]; exact a⟩)
    · exact .inr (.inl a)
theorem fndL_ok {P : List PP.Pat} (ok : ∀ t ∈ P, okT t) : ∀ x ∈ fndL P, PyData.strOk x = true := fun x hx => by
  have fr : ∀ w : Str, w.length ≤ 12 → codesB w = true → ∀ x ∈ freeL (P.map (·.2)) w SM, PyData.strOk x = true := fun w h1 h2 x hx => codes_strOk (freeL_ok _ w h1 h2 SM SM_ok x hx).2
  unfold fndL at hx
  rcases List.mem_append.mp hx with hx | hx
  · rcases List.mem_append.mp hx with hx | hx
    · obtain ⟨t, ht, rfl⟩ := List.mem_map.mp hx
      exact codes_strOk (ok t ht).2
    · obtain ⟨t, ht, hx⟩ := List.mem_flatMap.mp hx
      unfold frW at hx
      split at hx
      · exact fr t.2 (ok t ht).1.1 (ok t ht).2 x hx
      · cases hx
  · exact fr "" (by decide +kernel) (by decide +kernel) x hx
theorem fndL_len (P : List PP.Pat) : (fndL P).length ≤ P.length + P.length + 1 := by
  have h1 := freeL_len (P.map (·.2)) "" SM
  have h2 : (P.flatMap fun t => frW (P.map (·.2)) t.2).length ≤ P.length := by
    clear h1
    generalize P.map (·.2) = W
    induction P with
    | nil => exact Nat.le_refl _
    | cons t P ih =>
      rw [List.flatMap_cons, List.length_append, List.length_cons]
      have := frW_len W t.2
      omega
  unfold fndL
  rw [List.length_append, List.length_append, List.length_map]
  omega
theorem p_lawCand {d e : PyData} {L1 L2 : List PP.Pat} (h1 : x__law_patterns [.own (.dat d)] = some (.lst (L1.map PP.encT), [.un])) (h2 : x__law_patterns [.own (.dat e)] = some (.lst (L2.map PP.encT), [.un])) (ok : ∀ t ∈ L1 ++ L2, okT t) (hl : (L1 ++ L2).length ≤ 300) : x__law_candidates [.own (.dat d), .own (.dat e)] = some (.lst ((setS (srtW (fndL (L1 ++ L2)))).map .str), [.un, .un]) := by
  have e12 : L1.map PP.encT ++ L2.map PP.encT = (L1 ++ L2).map PP.encT := by rw [List.map_append]
  have l12 : (L1.map PP.encT).length + (L2.map PP.encT).length = (L1 ++ L2).length := by rw [List.length_map, List.length_map, List.length_append]
  generalize hP : L1 ++ L2 = P at *
  let S3 : Sv := .own (.dat (.str "0123456789abcdefghijklmnopqrstuvwxyz"))
  let D4 : Sv := .own (.dat (.list (P.map PP.encT)))
  let L5 : List Str → Sv := fun l => .own (.lst (l.map .str))
  let E : Sv → Sv → Sv → Sv → Sv → Sv → Sv → Sv → Env := fun s2 s3 s4 s5 s6 s7 s8 s9 => LE (.own (.dat d)) (.own (.dat e)) s2 s3 s4 s5 s6 s7 s8 s9
  let W : List Str := P.map (·.2)
  have wl : W.length = P.length := List.length_map _
  have k1 : xSet 3 (xC (.str "0123456789abcdefghijklmnopqrstuvwxyz")) (E .un .un .un .un .un .un .un .un) = some (.nx (E .un S3 .un .un .un .un .un .un)) := rfl
  have k2 : xSet 4 (xDn (x2 (xDn (xCall x__law_patterns (agCons (gD (xVar 0)) agNil))) (xDn (xCall x__law_patterns (agCons (gD (xVar 1)) agNil))) fun d e => (fCat d e).map .lst)) (E .un S3 .un .un .un .un .un .un) = some (.nx (E .un S3 D4 .un .un .un .un .un)) := by
    refine set_to (s := .un) (e := E .un S3 .un .un .un .un .un .un) (d := .list (P.map PP.encT)) (xDnT ?_) rfl rfl
    rw [← e12]
    exact x2T (a := PyData.list (L1.map PP.encT)) (b := PyData.list (L2.map PP.encT)) (xDnT (callG (ads := [Ad.d d]) (ag1 rfl) h1)) (xDnT (callG (ads := [Ad.d e]) (ag1 rfl) h2)) (catLT (by omega))
  have g5 := lc_mapA (tg := gSet 2) (elt := x2 (xVarR 2) (xC (.int 1)) fIxT) (vs := [2]) (E := E .un S3 D4 .un .un .un .un .un) (f := PP.encT) (c := fun t : PP.Pat => PyData.str t.2) (E1 := fun t => E (.own (.dat (PP.encT t))) S3 D4 .un .un .un .un .un) P fun t _ => ⟨rfl, rfl, rfl⟩
  have eW : P.map (fun t : PP.Pat => PyData.str t.2) = W.map .str := by show _ = (P.map (·.2)).map PyData.str; rw [List.map_map]; rfl
  rw [eW] at g5
  have k3 : xSetN 5 (xLc (x1 (xVarR 4) listD) (gSet 2) xYes (x2 (xVarR 2) (xC (.int 1)) fIxT) [2]) (E .un S3 D4 .un .un .un .un .un) = some (.nx (E .un S3 D4 (L5 W) .un .un .un .un)) := setN_to (s := .un) (xLc_eq (e1 := E .un S3 D4 .un .un .un .un .un) (e2 := E .un S3 D4 .un .un .un .un .un) (ds := P.map PP.encT) rfl rfl (by rw [List.length_map]; omega) g5 rfl) rfl rfl
  obtain ⟨s2, s6, hc, run4⟩ := p_loGo ok (.own (.dat d)) (.own (.dat e)) .un .un .un P W .un .un rfl ok (by omega)
  have k4 : xFor (x1 (xVarR 4) listD) (gSet 2) loB (E .un S3 D4 (L5 W) .un .un .un .un) = some (.nx (E s2 S3 D4 (L5 (W ++ P.flatMap fun t => frW W t.2)) s6 .un .un .un)) := for_eq (e := E .un S3 D4 (L5 W) .un .un .un .un) (ds := P.map PP.encT) rfl run4
  have fl := fndL_len P
  have fl2 : (W ++ P.flatMap fun t => frW W t.2).length ≤ (fndL P).length := by
    show _ ≤ ((W ++ P.flatMap fun t => frW W t.2) ++ freeL W "" SM).length
    rw [List.length_append (as := W ++ P.flatMap fun t => frW W t.2)]
    omega
  obtain ⟨s6b, s7, run5⟩ := p_tiGo ok (.own (.dat d)) (.own (.dat e)) S3 .un .un (by omega) s2 hc (W ++ P.flatMap fun t => frW W t.2) (by omega) SM s6 .un
  have k5 : xFor (x1 (xVarR 3) signsD) (gSet 6) tiB (E s2 S3 D4 (L5 (W ++ P.flatMap fun t => frW W t.2)) s6 .un .un .un) = some (.nx (E s2 S3 D4 (L5 (fndL P)) s6b s7 .un .un)) := for_eq (e := E s2 S3 D4 (L5 (W ++ P.flatMap fun t => frW W t.2)) s6 .un .un .un) (ds := SM.map encS) rfl run5
  have k6 : xSetN 8 (xLst xNil) (E s2 S3 D4 (L5 (fndL P)) s6b s7 .un .un) = some (.nx (E s2 S3 D4 (L5 (fndL P)) s6b s7 (L5 []) .un)) := rfl
  have ok2 : ∀ u ∈ srtW (fndL P), PyData.strOk u = true := fun u hu => fndL_ok ok u (by unfold srtW at hu; rw [(List.mergeSort_perm _ _).mem_iff] at hu; exact hu)
  obtain ⟨s9, run7⟩ := p_ddGo (.own (.dat d)) (.own (.dat e)) s2 S3 D4 (.lent (.lst ((fndL P).map .str))) s6b s7 (srtW (fndL P)) [] .un ok2 (fun u z => nomatch z) (by unfold srtW; rw [List.length_mergeSort, List.length_nil]; omega)
  have cs : cSortT [.list ((fndL P).map .str)] = some ((srtW (fndL P)).map .str) := by
    unfold cSortT
    dsimp only
    rw [strsD_of]
    dsimp only
    rw [srtW_map]
  have k7 : xLendS 5 (xFor (x1 (xDn (x1 (xCons (xVarR 5) xNil) fun ds => (cSortT ds).map .lst)) listD) (gSet 9) ddB) (E s2 S3 D4 (L5 (fndL P)) s6b s7 (L5 []) .un) = some (.nx (E s2 S3 D4 (L5 (fndL P)) s6b s7 (L5 (setS (srtW (fndL P)))) s9)) := by
    have inner : xFor (x1 (xDn (x1 (xCons (xVarR 5) xNil) fun ds => (cSortT ds).map .lst)) listD) (gSet 9) ddB (E s2 S3 D4 (.lent (.lst ((fndL P).map .str))) s6b s7 (L5 []) .un) = some (.nx (E s2 S3 D4 (.lent (.lst ((fndL P).map .str))) s6b s7 (L5 (setS (srtW (fndL P)))) s9)) := for_eq (e := E s2 S3 D4 (.lent (.lst ((fndL P).map .str))) s6b s7 (L5 []) .un) (x1T (a := PyData.list ((srtW (fndL P)).map .str)) (xDnT (x1T (one_T (a := .list ((fndL P).map .str)) rfl) (by rw [cs]; rfl))) rfl) run7
    have hE : (E s2 S3 D4 (L5 (fndL P)) s6b s7 (L5 []) .un)[5]? = some (.own (.lst ((fndL P).map .str))) := rfl
    unfold xLendS
    rw [hE]
    dsimp only
    show (xFor _ _ _ (E s2 S3 D4 (.lent (.lst ((fndL P).map .str))) s6b s7 (L5 []) .un)).bind _ = _
    rw [inner]; rfl
  unfold x__law_candidates
  refine callT (n := 2) (m := 8) (e := E s2 S3 D4 (L5 (fndL P)) s6b s7 .un s9) rfl ?_
  show b__law_candidates (E .un .un .un .un .un .un .un .un) = _
  unfold b__law_candidates
  unfold loB liB at k4
  unfold tiB at k5
  unfold ddB at k7
  rw [seqT k1, seqT k2, seqT k3]
  refine (seqT k4).trans ?_
  refine (seqT k5).trans ?_
  rw [seqT k6]
  refine (seqT k7).trans ?_
  rfl
end Q

namespace Q
open PySem L2 Y
/-! ### the law -/
theorem Bn_le {n m : Nat} (h : n ≤ m) : Bn n ≤ Bn m := by
  induction h with
  | refl => exact Nat.le_refl _
  | step _ ih => exact Nat.le_trans ih (by show Bn _ ≤ 1 + 3 * Bn _; omega)
theorem Pn_le {n m : Nat} (h : n ≤ m) : Pn n ≤ Pn m := by
  induction h with
  | refl => exact Nat.le_refl _
  | step _ ih => exact Nat.le_trans ih (by show Pn _ ≤ 3 * Pn _; omega)
theorem qOk_le {sb : Bool} {n m : Nat} (h : n ≤ m) {d : PyData} (q : qOk sb n d) : ∃ u, (∀ j, quOf (j + m) d = some u) ∧ QD sb (Bn m) (Pn m) u := by
  obtain ⟨u, h1, h2⟩ := q
  refine ⟨u, fun j => ?_, Nat.le_trans h2.s (Bn_le h), Nat.le_trans h2.p (Pn_le h), h2.t, h2.r⟩
  have := h1 (j + (m - n))
  rw [show j + (m - n) + n = j + m by omega] at this
  exact this
theorem callM_eq {i : Nat} {f : Env → Option (Tr × Env)} {g : XG} {env e1 e2 er : Env} {ads : List Ad} {t t' r : Tr} {s : Sv} (h0 : env[i]? = some (.own s0)) (hg : g env = some (ads, e1)) (h1 : e1[i]? = some (.own t)) (hf : f (.arg t :: ads.map Ad.sv) = some (r, .arg t' :: er)) (he : e1.set i (.own t') = e2) : xCallM i f g env = some (r, e2) := by
  unfold xCallM
  rw [h0]
  show (match g env with | some (ads, e1) => afterM i [] f ads e1 | none => none) = _
  rw [hg]
  show afterM i [] f ads e1 = _
  unfold afterM
  rw [h1]
  show (match f (.arg t :: ads.map Ad.sv) with | some (r, .arg t1' :: _) => some (r, e1.set i (Sv.put (.own t) (t.put [] t1'))) | _ => none) = _
  rw [hf]
  show some (r, e1.set i (.own t')) = _
  rw [he]
abbrev LW (ns : List Int) (s1 s2 s3 s4 : Sv) : Env := [.lent (.scr ns), s1, s2, s3, s4]
theorem draw_q (ns ds : List Int) (hl : ds.length ≤ 4000) (a m : Int) (ha : 0 ≤ a) (hm : 0 < m) (s2 s3 s4 : Sv) : ∃ r : Int, 0 ≤ r ∧ r < m ∧ xDn (xCallM 1 x__law_draw (agCons (gD (xC (.int m))) agNil)) (LW ns (.own (boxT ds a)) s2 s3 s4) = some (.int r, LW ns (.own (boxT ds (a + 1))) s2 s3 s4) := by
  obtain ⟨r, r0, r1, hr⟩ := p_draw ds a m ha hm hl
  exact ⟨r, r0, r1, xDnD' (callM_eq (s := .un) (s0 := boxT ds a) (ads := [Ad.d (.int m)]) (t := boxT ds a) (t' := boxT ds (a + 1)) rfl (ag1 rfl) rfl hr rfl)⟩
theorem quest_q (sb : Bool) (ns ds : List Int) (hl : ds.length ≤ 4000) (a d : Int) (ha : 0 ≤ a) (h0 : 0 ≤ d) (h3 : d ≤ 3) {x : XD} {s2 s3 s4 : Sv} {e : Env} (hx : x e = some (.int d, LW ns (.own (boxT ds a)) s2 s3 s4)) (he : e[1]? = some (.own t0)) : ∃ (q : PyData) (a' : Int), 0 ≤ a' ∧ qOk sb (d.toNat + 1) q ∧ xDn (xCallM 1 x__law_question (agCons (gD x) (agCons (gD (xC (.bool sb))) agNil))) e = some (q, LW ns (.own (boxT ds a')) s2 s3 s4) := by
  obtain ⟨q, a', h1, h2, hq⟩ := p_question sb ds a d ha hl h0 h3
  exact ⟨q, a', h1, h2, xDnD' (callM_eq (s := .un) (s0 := t0) (ads := [Ad.d (.int d), Ad.d (.bool sb)]) (t := boxT ds a) (t' := boxT ds a') he (ag2 hx rfl) rfl hq rfl)⟩
theorem same_b (b : Bool) : x__law_same [.own (.dat (.bool b)), .own (.dat (.bool b))] = some (.dat (.bool true), [.un, .un]) := if_pos rfl
theorem same_l {l : List PyData} (h : okm 8 (.list l)) : x__law_same [.own (.dat (.list l)), .own (.dat (.list l))] = some (.dat (.bool true), [.un, .un]) := if_pos (same_self h)
theorem pure_law (ns : List Int) (h : ns.length ≤ 63) : ∃ e, x_law [.lent (.scr ns)] = some (.dat (.bool true), e) := by
  obtain ⟨ds, hl, hd⟩ := p_digits ns
  let BX : Int → Sv := fun a => .own (boxT ds a)
  have k1 : xSetN 1 (xLst (xCons (xDn (xCall x__law_digits (agCons (gL 0 []) (agCons (gD (xC (.int 0))) (agCons (gD (xC (.int 63))) agNil))))) (xCons (xC (.int 0)) xNil))) (LW ns .un .un .un .un) = some (.nx (LW ns (BX 0) .un .un .un)) := by
    refine setN_to (s := .un) (e := LW ns .un .un .un .un) (t := boxT ds 0) ?_ rfl rfl
    have a1 : xCons (xDn (xCall x__law_digits (agCons (gL 0 []) (agCons (gD (xC (.int 0))) (agCons (gD (xC (.int 63))) agNil))))) (xCons (xC (.int 0)) xNil) (LW ns .un .un .un .un) = some ([.list (ds.map .int), .int 0], LW ns .un .un .un .un) := x2T (xDnT (callG (ads := [Ad.l (.scr ns), Ad.d (.int 0), Ad.d (.int 63)]) (x2T rfl (ag2 rfl rfl) rfl) hd)) (one_T rfl) rfl
    exact x1T a1 rfl
  obtain ⟨r1, r10, r11, d1⟩ := draw_q ns ds hl 0 2 (by decide) (by decide) .un .un .un
  have x1q : x2 (xC (.int 1)) (xDn (xCallM 1 x__law_draw (agCons (gD (xC (.int 2))) agNil))) fAdd (LW ns (BX 0) .un .un .un) = some (.int (1 + r1), LW ns (BX (0 + 1)) .un .un .un) := x2T (a := PyData.int 1) (b := PyData.int r1) rfl d1 rfl
  obtain ⟨q1, a1, a10, ok1, e1⟩ := quest_q (t0 := boxT ds 0) true ns ds hl (0 + 1) (1 + r1) (by decide) (by omega) (by omega) x1q rfl
  have k2 : xSet 2 (xDn (xCallM 1 x__law_question (agCons (gD (x2 (xC (.int 1)) (xDn (xCallM 1 x__law_draw (agCons (gD (xC (.int 2))) agNil))) fAdd)) (agCons (gD (xC (.bool true))) agNil)))) (LW ns (BX 0) .un .un .un) = some (.nx (LW ns (BX a1) (.own (.dat q1)) .un .un)) := set_to (s := .un) e1 rfl rfl
  obtain ⟨r2, r20, r21, d2⟩ := draw_q ns ds hl a1 3 a10 (by decide) (.own (.dat q1)) .un .un
  obtain ⟨q2, a2, a20, ok2, e2⟩ := quest_q (t0 := boxT ds a1) true ns ds hl (a1 + 1) r2 (by omega) r20 (by omega) d2 rfl
  have k3 : xSet 3 (xDn (xCallM 1 x__law_question (agCons (gD (xDn (xCallM 1 x__law_draw (agCons (gD (xC (.int 3))) agNil)))) (agCons (gD (xC (.bool true))) agNil)))) (LW ns (BX a1) (.own (.dat q1)) .un .un) = some (.nx (LW ns (BX a2) (.own (.dat q1)) (.own (.dat q2)) .un)) := set_to (s := .un) e2 rfl rfl
  obtain ⟨r3, r30, r31, d3⟩ := draw_q ns ds hl a2 3 a20 (by decide) (.own (.dat q1)) (.own (.dat q2)) .un
  have x3q : x2 (xC (.int 1)) (xDn (xCallM 1 x__law_draw (agCons (gD (xC (.int 3))) agNil))) fAdd (LW ns (BX a2) (.own (.dat q1)) (.own (.dat q2)) .un) = some (.int (1 + r3), LW ns (BX (a2 + 1)) (.own (.dat q1)) (.own (.dat q2)) .un) := x2T (a := PyData.int 1) (b := PyData.int r3) rfl d3 rfl
  obtain ⟨q3, a3, a30, ok3, e3⟩ := quest_q (t0 := boxT ds a2) false ns ds hl (a2 + 1) (1 + r3) (by omega) (by omega) (by omega) x3q rfl
  have k4 : xSet 4 (xDn (xCallM 1 x__law_question (agCons (gD (x2 (xC (.int 1)) (xDn (xCallM 1 x__law_draw (agCons (gD (xC (.int 3))) agNil))) fAdd)) (agCons (gD (xC (.bool false))) agNil)))) (LW ns (BX a2) (.own (.dat q1)) (.own (.dat q2)) .un) = some (.nx (LW ns (BX a3) (.own (.dat q1)) (.own (.dat q2)) (.own (.dat q3)))) := set_to (s := .un) e3 rfl rfl
  obtain ⟨u1, qu1, Q1⟩ := qOk_le (m := 3) (by omega) ok1
  obtain ⟨u2, qu2, Q2⟩ := qOk_le (m := 3) (by omega) ok2
  obtain ⟨u3, qu3, Q3⟩ := qOk_le (m := 4) (by omega) ok3
  have s1 := Q1.s
  have s2 := Q2.s
  have s3 := Q3.s
  have p1 := Q1.p
  have p2 := Q2.p
  have b3 : Bn 3 = 13 := rfl
  have b4 : Bn 4 = 40 := rfl
  have c3 : Pn 3 = 54 := rfl
  have i3 := p_isSimple (n := 8) (qu3 4) (by omega)
  have i1 := p_isSimple (n := 8) (qu1 5) (by omega)
  have t1 : (PP.subsR u1).all row1 = true := List.all_eq_true.mpr (Q1.r rfl)
  rw [t1] at i1
  have j3 := p_lawSimple 8 8 q3 u3 (qu3 4) (Nat.le_refl _) (by omega)
  obtain ⟨L1, m1, l1⟩ := p_lawPats 8 8 q1 u1 (qu1 5) (Nat.le_refl _) (by omega)
  obtain ⟨L2, m2, l2⟩ := p_lawPats 8 8 q2 u2 (qu2 5) (Nat.le_refl _) (by omega)
  have okL : ∀ t ∈ L1 ++ L2, okT t := fun t ht => (List.mem_append.mp ht).elim (fun h => Q1.t t (m1.mem_iff.mp h)) fun h => Q2.t t (m2.mem_iff.mp h)
  have n1 := m1.length_eq
  have n2 := m2.length_eq
  have lc := p_lawCand l1 l2 okL (by rw [List.length_append]; omega)
  obtain ⟨W, mW, wl, pc⟩ := p_candidates qu1 qu2 (by omega) (by omega) (by omega) (by omega) fun t ht => ht.elim (Q1.t t) (Q2.t t)
  have mWL : ∀ x, x ∈ W ↔ x ∈ (L1 ++ L2).map (·.2) := fun x => by
    rw [mW x, List.mem_map]
    constructor
    · rintro ⟨t, ht, e⟩
      exact ⟨t, List.mem_append.mpr (ht.elim (fun h => .inl (m1.mem_iff.mpr h)) fun h => .inr (m2.mem_iff.mpr h)), e⟩
    · rintro ⟨t, ht, e⟩
      exact ⟨t, (List.mem_append.mp ht).elim (fun h => .inl (m1.mem_iff.mp h)) fun h => .inr (m2.mem_iff.mp h), e⟩
  rw [sort_eq (fnd_eq mWL)] at pc
  have okR : okm 8 (.list ((setS (srtW (fndL (L1 ++ L2)))).map .str)) := by
    refine okm_lst ?_ fun d hd => ?_
    · have h1 := foldS_len (srtW (fndL (L1 ++ L2))) []
      have h2 := fndL_len (L1 ++ L2)
      rw [List.length_append] at h2
      rw [List.length_map]
      show ((srtW (fndL (L1 ++ L2))).foldl addS []).length ≤ _
      unfold srtW at h1 ⊢
      rw [List.length_mergeSort, List.length_nil] at h1
      omega
    · obtain ⟨x, hx, rfl⟩ := List.mem_map.mp hd
      have hx2 : x ∈ (srtW (fndL (L1 ++ L2))).foldl addS [] := hx
      rw [fold_mem] at hx2
      refine okm_str (fndL_ok okL x (hx2.elim (fun z => nomatch z) fun z => ?_))
      unfold srtW at z
      rw [(List.mergeSort_perm _ _).mem_iff] at z
      exact z
  generalize (setS (srtW (fndL (L1 ++ L2)))).map PyData.str = R at *
  let E : Env := LW ns (BX a3) (.own (.dat q1)) (.own (.dat q2)) (.own (.dat q3))
  have f1 : xNotT (xB (xDn (xCall x__law_same (agCons (gD (xDn (xCall x_is_simple (agCons (gD (xVar 4)) agNil)))) (agCons (gD (xDn (xCall x__law_simple (agCons (gD (xVar 4)) agNil)))) agNil))))) E = some (false, E) := x1T (boolT (xDnD' (callG (ads := [Ad.d (.bool ((PP.subsR u3).all row1)), Ad.d (.bool ((PP.subsR u3).all row1))]) (ag2 (xDnD' (callG (ads := [Ad.d q3]) (ag1 rfl) i3)) (xDnD' (callG (ads := [Ad.d q3]) (ag1 rfl) j3))) (same_b _)))) rfl
  have f2 : xNotT (xB (xDn (xCall x__law_same (agCons (gD (xDn (xCall x_is_simple (agCons (gD (xVar 2)) agNil)))) (agCons (gD (xC (.bool true))) agNil))))) E = some (false, E) := x1T (boolT (xDnD' (callG (ads := [Ad.d (.bool true), Ad.d (.bool true)]) (ag2 (xDnD' (callG (ads := [Ad.d q1]) (ag1 rfl) i1)) rfl) (same_b _)))) rfl
  have k6 : xRetN (xCall x__law_same (agCons (gD (xDn (xCall x_candidates (agCons (gD (xVar 2)) (agCons (gD (xVar 3)) agNil))))) (agCons (gD (xDn (xCall x__law_candidates (agCons (gD (xVar 2)) (agCons (gD (xVar 3)) agNil))))) agNil))) E = some (.ret (.dat (.bool true)) E) := retNT (callG (ads := [Ad.d (.list R), Ad.d (.list R)]) (ag2 (xDnT (callG (ads := [Ad.d q1, Ad.d q2]) (ag2 rfl rfl) pc)) (xDnT (callG (ads := [Ad.d q1, Ad.d q2]) (ag2 rfl rfl) lc))) (same_l okR))
  unfold x_law
  refine ⟨_, callT (n := 1) (m := 4) (as := [.lent (.scr ns)]) (t := .dat (.bool true)) (e := E) rfl ?_⟩
  show b_law (LW ns .un .un .un .un) = _
  unfold b_law
  rw [seqT k1, seqT k2, seqT k3, seqT k4, seqT (skipF (by unfold xOrT; exact (iteF f1).trans f2))]
  exact k6
end Q

theorem ok_law {P : Program} {w : World} {K : PySem.W.Frag} {mg : Str → Option Value} {base : Heap} {A : Nat → Addr} {D : Nat → FuncData} (T : Txt K mg A D) {P0 : Addr} {P1 : Addr} (TF0 : TbF base mg (D 6) P0) (TF1 : TbF base mg (D 3) P1) : FnOk P w K mg base CX0 13 (A 19) (D 19) ["script"] (ySpLawT K [P0, P1]) := by
  refine (Q.ok_law (Tb := [((P0, none) : Tbl2), ((P1, none) : Tbl2)]) (CA := fun _ => A 0) T TF0 (.head _) TF1 (.tail _ (.head _))).imp fun vs H Q E h => ?_
  obtain ⟨nd, hT, a, ns, rfl, hS, hn, fin⟩ := h
  obtain ⟨e, he⟩ := Z.Q.pure_law ns hn
  exact Z.Q.law_start (TabsG.start (Ps := [((P0, none) : Tbl2), ((P1, none) : Tbl2)]) nd hT) hS he fin
theorem all_mk {l : PySem.W.OpenLaw} {w : World} {K : PySem.W.Frag} {h : Heap} {mg : Str → Option Value} {fa f0 f1 f2 f3 f4 f5 f6 f7 f8 f9 f10 f11 f12 f13 f14 f15 f16 f17 f18 f19 : Addr} (X : K.In h) (G : h.Ns mainGlobals mg) (hfa : mg "law" = some (.ref fa))
    {od0 od1 od2 od3 od4 od5 od6 od7 od8 od9 od10 od11 od12 od13 od14 od15 od16 od17 od18 od19 an0 an1 an2 an3 an4 an5 an6 an7 an8 an9 an10 an11 an12 an13 an14 an15 an16 an17 an18 an19 : Option Addr} {sl0 sl1 sl2 sl3 sl4 sl5 sl6 sl7 sl8 sl9 sl10 sl11 sl12 sl13 sl14 sl15 sl16 sl17 sl18 sl19 : Array (Option Value)} {oc0 oc1 oc2 oc3 oc4 oc5 oc6 oc7 oc8 oc9 oc10 oc11 oc12 oc13 oc14 oc15 oc16 oc17 oc18 oc19 kV0 kV1 kV2 kV3 kV4 kV5 kV6 kV7 kV8 kV9 kV10 kV11 kV12 kV13 kV14 kV15 kV16 kV17 kV18 kV19 dc0 dc1 dc2 dc3 dc4 dc5 dc6 dc7 dc8 dc9 dc10 dc11 dc12 dc13 dc14 dc15 dc16 dc17 dc18 dc19 pm0 pm1 pm2 pm3 pm4 pm5 pm6 pm7 pm8 pm9 pm10 pm11 pm12 pm13 pm14 pm15 pm16 pm17 pm18 pm19 cd0 cd1 cd2 cd3 cd4 cd5 cd6 cd7 cd8 cd9 cd10 cd11 cd12 cd13 cd14 cd15 cd16 cd17 cd18 cd19 ct0 ct1 ct2 ct3 ct4 ct5 ct6 ct7 ct8 ct9 ct10 ct11 ct12 ct13 ct14 ct15 ct16 ct17 ct18 ct19 : Value} {t0 t1 : Tok}
    (a0 : PySem.W.nsIn K mainGlobals "patterns_of" = some (some (.ref f0))) (l0 : K.lookup f0 = some ⟨oc0, od0, .func (PySem.W.fnOf "patterns_of" "patterns_of" (defArgs s_patterns_of) (defBody s_patterns_of) (defScope s_patterns_of) .none kV0 dc0 pm0 an0 cd0 ct0), sl0⟩) (c0 : PySem.W.codeIn K cd0 "patterns_of" = true) (k0 : PySem.W.keepIn K (.ref f0) = true)
    (a1 : PySem.W.nsIn K mainGlobals "questions_in" = some (some (.ref f1))) (l1 : K.lookup f1 = some ⟨oc1, od1, .func (PySem.W.fnOf "questions_in" "questions_in" (defArgs s_questions_in) (defBody s_questions_in) (defScope s_questions_in) .none kV1 dc1 pm1 an1 cd1 ct1), sl1⟩) (c1 : PySem.W.codeIn K cd1 "questions_in" = true) (k1 : PySem.W.keepIn K (.ref f1) = true)
    (a2 : PySem.W.nsIn K mainGlobals "parts_of" = some (some (.ref f2))) (l2 : K.lookup f2 = some ⟨oc2, od2, .func (PySem.W.fnOf "parts_of" "parts_of" (defArgs s_parts_of) (defBody s_parts_of) (defScope s_parts_of) .none kV2 dc2 pm2 an2 cd2 ct2), sl2⟩) (c2 : PySem.W.codeIn K cd2 "parts_of" = true) (k2 : PySem.W.keepIn K (.ref f2) = true)
    (a3 : PySem.W.nsIn K mainGlobals "is_simple" = some (some (.ref f3))) (l3 : K.lookup f3 = some ⟨oc3, od3, .func (PySem.W.fnOf "is_simple" "is_simple" (defArgs s_is_simple) (defBody s_is_simple) (defScope s_is_simple) .none kV3 dc3 pm3 an3 cd3 ct3), sl3⟩) (c3 : PySem.W.codeIn K cd3 "is_simple" = true) (k3 : PySem.W.keepIn K (.ref f3) = true)
    (a4 : PySem.W.nsIn K mainGlobals "candidates" = some (some (.ref f4))) (l4 : K.lookup f4 = some ⟨oc4, od4, .func (PySem.W.fnOf "candidates" "candidates" (defArgs s_candidates) (defBody s_candidates) (defScope s_candidates) .none kV4 dc4 pm4 an4 cd4 ct4), sl4⟩) (c4 : PySem.W.codeIn K cd4 "candidates" = true) (k4 : PySem.W.keepIn K (.ref f4) = true)
    (a5 : PySem.W.nsIn K mainGlobals "difference" = some (some (.ref f5))) (l5 : K.lookup f5 = some ⟨oc5, od5, .func (PySem.W.fnOf "difference" "difference" (defArgs s_difference) (defBody s_difference) (defScope s_difference) .none kV5 dc5 pm5 an5 cd5 ct5), sl5⟩) (c5 : PySem.W.codeIn K cd5 "difference" = true) (k5 : PySem.W.keepIn K (.ref f5) = true)
    (a6 : PySem.W.nsIn K mainGlobals "free_word" = some (some (.ref f6))) (l6 : K.lookup f6 = some ⟨oc6, od6, .func (PySem.W.fnOf "free_word" "free_word" (defArgs s_free_word) (defBody s_free_word) (defScope s_free_word) .none kV6 dc6 pm6 an6 cd6 ct6), sl6⟩) (c6 : PySem.W.codeIn K cd6 "free_word" = true) (k6 : PySem.W.keepIn K (.ref f6) = true)
    (a7 : PySem.W.nsIn K mainGlobals "_law_cell" = some (some (.ref f7))) (l7 : K.lookup f7 = some ⟨oc7, od7, .func (PySem.W.fnOf "_law_cell" "_law_cell" (defArgs s__law_cell) (defBody s__law_cell) (defScope s__law_cell) .none kV7 dc7 pm7 an7 cd7 ct7), sl7⟩) (c7 : PySem.W.codeIn K cd7 "_law_cell" = true) (k7 : PySem.W.keepIn K (.ref f7) = true)
    (a8 : PySem.W.nsIn K mainGlobals "_law_digits" = some (some (.ref f8))) (l8 : K.lookup f8 = some ⟨oc8, od8, .func (PySem.W.fnOf "_law_digits" "_law_digits" (defArgs s__law_digits) (defBody s__law_digits) (defScope s__law_digits) .none kV8 dc8 pm8 an8 cd8 ct8), sl8⟩) (c8 : PySem.W.codeIn K cd8 "_law_digits" = true) (k8 : PySem.W.keepIn K (.ref f8) = true)
    (a9 : PySem.W.nsIn K mainGlobals "_law_draw" = some (some (.ref f9))) (l9 : K.lookup f9 = some ⟨oc9, od9, .func (PySem.W.fnOf "_law_draw" "_law_draw" (defArgs s__law_draw) (defBody s__law_draw) (defScope s__law_draw) .none kV9 dc9 pm9 an9 cd9 ct9), sl9⟩) (c9 : PySem.W.codeIn K cd9 "_law_draw" = true) (k9 : PySem.W.keepIn K (.ref f9) = true)
    (a10 : PySem.W.nsIn K mainGlobals "_law_same" = some (some (.ref f10))) (l10 : K.lookup f10 = some ⟨oc10, od10, .func (PySem.W.fnOf "_law_same" "_law_same" (defArgs s__law_same) (defBody s__law_same) (defScope s__law_same) .none kV10 dc10 pm10 an10 cd10 ct10), sl10⟩) (c10 : PySem.W.codeIn K cd10 "_law_same" = true) (k10 : PySem.W.keepIn K (.ref f10) = true)
    (a11 : PySem.W.nsIn K mainGlobals "_law_word" = some (some (.ref f11))) (l11 : K.lookup f11 = some ⟨oc11, od11, .func (PySem.W.fnOf "_law_word" "_law_word" (defArgs s__law_word) (defBody s__law_word) (defScope s__law_word) .none kV11 dc11 pm11 an11 cd11 ct11), sl11⟩) (c11 : PySem.W.codeIn K cd11 "_law_word" = true) (k11 : PySem.W.keepIn K (.ref f11) = true)
    (a12 : PySem.W.nsIn K mainGlobals "_law_pattern" = some (some (.ref f12))) (l12 : K.lookup f12 = some ⟨oc12, od12, .func (PySem.W.fnOf "_law_pattern" "_law_pattern" (defArgs s__law_pattern) (defBody s__law_pattern) (defScope s__law_pattern) .none kV12 dc12 pm12 an12 cd12 ct12), sl12⟩) (c12 : PySem.W.codeIn K cd12 "_law_pattern" = true) (k12 : PySem.W.keepIn K (.ref f12) = true)
    (a13 : PySem.W.nsIn K mainGlobals "_law_question" = some (some (.ref f13))) (l13 : K.lookup f13 = some ⟨oc13, od13, .func (PySem.W.fnOf "_law_question" "_law_question" (defArgs s__law_question) (defBody s__law_question) (defScope s__law_question) .none kV13 dc13 pm13 an13 cd13 ct13), sl13⟩) (c13 : PySem.W.codeIn K cd13 "_law_question" = true) (k13 : PySem.W.keepIn K (.ref f13) = true)
    (a14 : PySem.W.nsIn K mainGlobals "_law_fits" = some (some (.ref f14))) (l14 : K.lookup f14 = some ⟨oc14, od14, .func (PySem.W.fnOf "_law_fits" "_law_fits" (defArgs s__law_fits) (defBody s__law_fits) (defScope s__law_fits) .none kV14 dc14 pm14 an14 cd14 ct14), sl14⟩) (c14 : PySem.W.codeIn K cd14 "_law_fits" = true) (k14 : PySem.W.keepIn K (.ref f14) = true)
    (a15 : PySem.W.nsIn K mainGlobals "_law_patterns" = some (some (.ref f15))) (l15 : K.lookup f15 = some ⟨oc15, od15, .func (PySem.W.fnOf "_law_patterns" "_law_patterns" (defArgs s__law_patterns) (defBody s__law_patterns) (defScope s__law_patterns) .none kV15 dc15 pm15 an15 cd15 ct15), sl15⟩) (c15 : PySem.W.codeIn K cd15 "_law_patterns" = true) (k15 : PySem.W.keepIn K (.ref f15) = true)
    (a16 : PySem.W.nsIn K mainGlobals "_law_is_new" = some (some (.ref f16))) (l16 : K.lookup f16 = some ⟨oc16, od16, .func (PySem.W.fnOf "_law_is_new" "_law_is_new" (defArgs s__law_is_new) (defBody s__law_is_new) (defScope s__law_is_new) .none kV16 dc16 pm16 an16 cd16 ct16), sl16⟩) (c16 : PySem.W.codeIn K cd16 "_law_is_new" = true) (k16 : PySem.W.keepIn K (.ref f16) = true)
    (a17 : PySem.W.nsIn K mainGlobals "_law_candidates" = some (some (.ref f17))) (l17 : K.lookup f17 = some ⟨oc17, od17, .func (PySem.W.fnOf "_law_candidates" "_law_candidates" (defArgs s__law_candidates) (defBody s__law_candidates) (defScope s__law_candidates) .none kV17 dc17 pm17 an17 cd17 ct17), sl17⟩) (c17 : PySem.W.codeIn K cd17 "_law_candidates" = true) (k17 : PySem.W.keepIn K (.ref f17) = true)
    (a18 : PySem.W.nsIn K mainGlobals "_law_simple" = some (some (.ref f18))) (l18 : K.lookup f18 = some ⟨oc18, od18, .func (PySem.W.fnOf "_law_simple" "_law_simple" (defArgs s__law_simple) (defBody s__law_simple) (defScope s__law_simple) .none kV18 dc18 pm18 an18 cd18 ct18), sl18⟩) (c18 : PySem.W.codeIn K cd18 "_law_simple" = true) (k18 : PySem.W.keepIn K (.ref f18) = true)
    (a19 : PySem.W.nsIn K mainGlobals "law" = some (some (.ref f19))) (l19 : K.lookup f19 = some ⟨oc19, od19, .func (PySem.W.fnOf "law" "law" (defArgs s_law) (defBody s_law) (defScope s_law) .none kV19 dc19 pm19 an19 cd19 ct19), sl19⟩) (c19 : PySem.W.codeIn K cd19 "law" = true) (k19 : PySem.W.keepIn K (.ref f19) = true)
    (gc0 : PySem.W.nsIn K mainGlobals "SMALL" = some (some (.str "0123456789abcdefghijklmnopqrstuvwxyz" t0)))
    (gc1 : PySem.W.nsIn K mainGlobals "LONGEST" = some (some (.int 12 t1)))
    (z0 : PySem.W.nsIn K mainGlobals "all" = some none)
    (z1 : PySem.W.nsIn K mainGlobals "any" = some none)
    (z2 : PySem.W.nsIn K mainGlobals "bool" = some none)
    (z3 : PySem.W.nsIn K mainGlobals "int" = some none)
    (z4 : PySem.W.nsIn K mainGlobals "isinstance" = some none)
    (z5 : PySem.W.nsIn K mainGlobals "len" = some none)
    (z6 : PySem.W.nsIn K mainGlobals "list" = some none)
    (z7 : PySem.W.nsIn K mainGlobals "range" = some none)
    (z8 : PySem.W.nsIn K mainGlobals "set" = some none)
    (z9 : PySem.W.nsIn K mainGlobals "sorted" = some none)
    (z10 : PySem.W.nsIn K mainGlobals "str" = some none)
    (z11 : PySem.W.nsIn K mainGlobals "tuple" = some none)
    {cG0 pG0 : Addr} (hG0 : cd6 = .ref cG0)
    {cG1 pG1 : Addr} (hG1 : cd3 = .ref cG1)
    : ∃ fd : FuncData, (∀ (s : Shared) (v : Value), BindsTo s fd ⟨[v], []⟩ [("script", v)]) ∧ ∀ base : Heap, K.In base → base.Ns mainGlobals mg → (∀ p ∈ [(cG0, pG0), (cG1, pG1)], LamX.TabB base mg p.1 p.2) → FnOk l.prog w K mg base CX0 13 fa fd ["script"] (ySpLawT K ([(cG0, pG0), (cG1, pG1)].map (·.2))) := by
  have e := hfa.symm.trans (PySem.W.mg_of X G a19)
  cases e
  have F0 := fun_mk (st := s_patterns_of) l0 c0 k0
  have F1 := fun_mk (st := s_questions_in) l1 c1 k1
  have F2 := fun_mk (st := s_parts_of) l2 c2 k2
  have F3 := fun_mk (st := s_is_simple) l3 c3 k3
  have F4 := fun_mk (st := s_candidates) l4 c4 k4
  have F5 := fun_mk (st := s_difference) l5 c5 k5
  have F6 := fun_mk (st := s_free_word) l6 c6 k6
  have F7 := fun_mk (st := s__law_cell) l7 c7 k7
  have F8 := fun_mk (st := s__law_digits) l8 c8 k8
  have F9 := fun_mk (st := s__law_draw) l9 c9 k9
  have F10 := fun_mk (st := s__law_same) l10 c10 k10
  have F11 := fun_mk (st := s__law_word) l11 c11 k11
  have F12 := fun_mk (st := s__law_pattern) l12 c12 k12
  have F13 := fun_mk (st := s__law_question) l13 c13 k13
  have F14 := fun_mk (st := s__law_fits) l14 c14 k14
  have F15 := fun_mk (st := s__law_patterns) l15 c15 k15
  have F16 := fun_mk (st := s__law_is_new) l16 c16 k16
  have F17 := fun_mk (st := s__law_candidates) l17 c17 k17
  have F18 := fun_mk (st := s__law_simple) l18 c18 k18
  have F19 := fun_mk (st := s_law) l19 c19 k19
  have b0 := F0.binds (ps := ["question"]) fun _ _ _ _ _ _ us hl => match us, hl with | [_], _ => rfl
  have b1 := F1.binds (ps := ["question"]) fun _ _ _ _ _ _ us hl => match us, hl with | [_], _ => rfl
  have b2 := F2.binds (ps := ["question"]) fun _ _ _ _ _ _ us hl => match us, hl with | [_], _ => rfl
  have b3 := F3.binds (ps := ["question"]) fun _ _ _ _ _ _ us hl => match us, hl with | [_], _ => rfl
  have b4 := F4.binds (ps := ["one", "other"]) fun _ _ _ _ _ _ us hl => match us, hl with | [_, _], _ => rfl
  have b5 := F5.binds (ps := ["one", "other"]) fun _ _ _ _ _ _ us hl => match us, hl with | [_, _], _ => rfl
  have b6 := F6.binds (ps := ["word", "words"]) fun _ _ _ _ _ _ us hl => match us, hl with | [_, _], _ => rfl
  have b7 := F7.binds (ps := ["script", "k"]) fun _ _ _ _ _ _ us hl => match us, hl with | [_, _], _ => rfl
  have b8 := F8.binds (ps := ["script", "first", "last"]) fun _ _ _ _ _ _ us hl => match us, hl with | [_, _, _], _ => rfl
  have b9 := F9.binds (ps := ["box", "many"]) fun _ _ _ _ _ _ us hl => match us, hl with | [_, _], _ => rfl
  have b10 := F10.binds (ps := ["actual", "due"]) fun _ _ _ _ _ _ us hl => match us, hl with | [_, _], _ => rfl
  have b11 := F11.binds (ps := ["box"]) fun _ _ _ _ _ _ us hl => match us, hl with | [_], _ => rfl
  have b12 := F12.binds (ps := ["box"]) fun _ _ _ _ _ _ us hl => match us, hl with | [_], _ => rfl
  have b13 := F13.binds (ps := ["box", "depth", "simple"]) fun _ _ _ _ _ _ us hl => match us, hl with | [_, _, _], _ => rfl
  have b14 := F14.binds (ps := ["word", "pattern"]) fun _ _ _ _ _ _ us hl => match us, hl with | [_, _], _ => rfl
  have b15 := F15.binds (ps := ["question"]) fun _ _ _ _ _ _ us hl => match us, hl with | [_], _ => rfl
  have b16 := F16.binds (ps := ["word", "patterns"]) fun _ _ _ _ _ _ us hl => match us, hl with | [_, _], _ => rfl
  have b17 := F17.binds (ps := ["one", "other"]) fun _ _ _ _ _ _ us hl => match us, hl with | [_, _], _ => rfl
  have b18 := F18.binds (ps := ["question"]) fun _ _ _ _ _ _ us hl => match us, hl with | [_], _ => rfl
  have b19 := F19.binds (ps := ["script"]) fun _ _ _ _ _ _ us hl => match us, hl with | [_], _ => rfl
  let AA : Nat → Addr := fun i => match i with | 0 => f0 | 1 => f1 | 2 => f2 | 3 => f3 | 4 => f4 | 5 => f5 | 6 => f6 | 7 => f7 | 8 => f8 | 9 => f9 | 10 => f10 | 11 => f11 | 12 => f12 | 13 => f13 | 14 => f14 | 15 => f15 | 16 => f16 | 17 => f17 | 18 => f18 | 19 => fa | _ => fa
  let DD : Nat → FuncData := fun i => match i with | 0 => PySem.W.fnOf "patterns_of" "patterns_of" (defArgs s_patterns_of) (defBody s_patterns_of) (defScope s_patterns_of) .none kV0 dc0 pm0 an0 cd0 ct0 | 1 => PySem.W.fnOf "questions_in" "questions_in" (defArgs s_questions_in) (defBody s_questions_in) (defScope s_questions_in) .none kV1 dc1 pm1 an1 cd1 ct1 | 2 => PySem.W.fnOf "parts_of" "parts_of" (defArgs s_parts_of) (defBody s_parts_of) (defScope s_parts_of) .none kV2 dc2 pm2 an2 cd2 ct2 | 3 => PySem.W.fnOf "is_simple" "is_simple" (defArgs s_is_simple) (defBody s_is_simple) (defScope s_is_simple) .none kV3 dc3 pm3 an3 cd3 ct3 | 4 => PySem.W.fnOf "candidates" "candidates" (defArgs s_candidates) (defBody s_candidates) (defScope s_candidates) .none kV4 dc4 pm4 an4 cd4 ct4 | 5 => PySem.W.fnOf "difference" "difference" (defArgs s_difference) (defBody s_difference) (defScope s_difference) .none kV5 dc5 pm5 an5 cd5 ct5 | 6 => PySem.W.fnOf "free_word" "free_word" (defArgs s_free_word) (defBody s_free_word) (defScope s_free_word) .none kV6 dc6 pm6 an6 cd6 ct6 | 7 => PySem.W.fnOf "_law_cell" "_law_cell" (defArgs s__law_cell) (defBody s__law_cell) (defScope s__law_cell) .none kV7 dc7 pm7 an7 cd7 ct7 | 8 => PySem.W.fnOf "_law_digits" "_law_digits" (defArgs s__law_digits) (defBody s__law_digits) (defScope s__law_digits) .none kV8 dc8 pm8 an8 cd8 ct8 | 9 => PySem.W.fnOf "_law_draw" "_law_draw" (defArgs s__law_draw) (defBody s__law_draw) (defScope s__law_draw) .none kV9 dc9 pm9 an9 cd9 ct9 | 10 => PySem.W.fnOf "_law_same" "_law_same" (defArgs s__law_same) (defBody s__law_same) (defScope s__law_same) .none kV10 dc10 pm10 an10 cd10 ct10 | 11 => PySem.W.fnOf "_law_word" "_law_word" (defArgs s__law_word) (defBody s__law_word) (defScope s__law_word) .none kV11 dc11 pm11 an11 cd11 ct11 | 12 => PySem.W.fnOf "_law_pattern" "_law_pattern" (defArgs s__law_pattern) (defBody s__law_pattern) (defScope s__law_pattern) .none kV12 dc12 pm12 an12 cd12 ct12 | 13 => PySem.W.fnOf "_law_question" "_law_question" (defArgs s__law_question) (defBody s__law_question) (defScope s__law_question) .none kV13 dc13 pm13 an13 cd13 ct13 | 14 => PySem.W.fnOf "_law_fits" "_law_fits" (defArgs s__law_fits) (defBody s__law_fits) (defScope s__law_fits) .none kV14 dc14 pm14 an14 cd14 ct14 | 15 => PySem.W.fnOf "_law_patterns" "_law_patterns" (defArgs s__law_patterns) (defBody s__law_patterns) (defScope s__law_patterns) .none kV15 dc15 pm15 an15 cd15 ct15 | 16 => PySem.W.fnOf "_law_is_new" "_law_is_new" (defArgs s__law_is_new) (defBody s__law_is_new) (defScope s__law_is_new) .none kV16 dc16 pm16 an16 cd16 ct16 | 17 => PySem.W.fnOf "_law_candidates" "_law_candidates" (defArgs s__law_candidates) (defBody s__law_candidates) (defScope s__law_candidates) .none kV17 dc17 pm17 an17 cd17 ct17 | 18 => PySem.W.fnOf "_law_simple" "_law_simple" (defArgs s__law_simple) (defBody s__law_simple) (defScope s__law_simple) .none kV18 dc18 pm18 an18 cd18 ct18 | 19 => PySem.W.fnOf "law" "law" (defArgs s_law) (defBody s_law) (defScope s_law) .none kV19 dc19 pm19 an19 cd19 ct19 | _ => PySem.W.fnOf "law" "law" (defArgs s_law) (defBody s_law) (defScope s_law) .none kV19 dc19 pm19 an19 cd19 ct19
  have T : Txt K mg AA DD := { F_patterns_of := F0, b_patterns_of := b0, m_patterns_of := PySem.W.mg_of X G a0, F_questions_in := F1, b_questions_in := b1, m_questions_in := PySem.W.mg_of X G a1, F_parts_of := F2, b_parts_of := b2, m_parts_of := PySem.W.mg_of X G a2, F_is_simple := F3, b_is_simple := b3, m_is_simple := PySem.W.mg_of X G a3, F_candidates := F4, b_candidates := b4, m_candidates := PySem.W.mg_of X G a4, F_difference := F5, b_difference := b5, m_difference := PySem.W.mg_of X G a5, F_free_word := F6, b_free_word := b6, m_free_word := PySem.W.mg_of X G a6, F__law_cell := F7, b__law_cell := b7, m__law_cell := PySem.W.mg_of X G a7, F__law_digits := F8, b__law_digits := b8, m__law_digits := PySem.W.mg_of X G a8, F__law_draw := F9, b__law_draw := b9, m__law_draw := PySem.W.mg_of X G a9, F__law_same := F10, b__law_same := b10, m__law_same := PySem.W.mg_of X G a10, F__law_word := F11, b__law_word := b11, m__law_word := PySem.W.mg_of X G a11, F__law_pattern := F12, b__law_pattern := b12, m__law_pattern := PySem.W.mg_of X G a12, F__law_question := F13, b__law_question := b13, m__law_question := PySem.W.mg_of X G a13, F__law_fits := F14, b__law_fits := b14, m__law_fits := PySem.W.mg_of X G a14, F__law_patterns := F15, b__law_patterns := b15, m__law_patterns := PySem.W.mg_of X G a15, F__law_is_new := F16, b__law_is_new := b16, m__law_is_new := PySem.W.mg_of X G a16, F__law_candidates := F17, b__law_candidates := b17, m__law_candidates := PySem.W.mg_of X G a17, F__law_simple := F18, b__law_simple := b18, m__law_simple := PySem.W.mg_of X G a18, F_law := F19, b_law := b19, m_law := PySem.W.mg_of X G a19, c_SMALL := ⟨t0, PySem.W.mg_of X G gc0⟩, c_LONGEST := ⟨t1, PySem.W.mg_of X G gc1⟩, z_all := PySem.W.mg_none_of X G z0, z_any := PySem.W.mg_none_of X G z1, z_bool := PySem.W.mg_none_of X G z2, z_int := PySem.W.mg_none_of X G z3, z_isinstance := PySem.W.mg_none_of X G z4, z_len := PySem.W.mg_none_of X G z5, z_list := PySem.W.mg_none_of X G z6, z_range := PySem.W.mg_none_of X G z7, z_set := PySem.W.mg_none_of X G z8, z_sorted := PySem.W.mg_none_of X G z9, z_str := PySem.W.mg_none_of X G z10, z_tuple := PySem.W.mg_none_of X G z11 }
  exact ⟨DD 19, fun s v => .of_eq rfl, fun base _ _ TB => ok_law (A := AA) (D := DD) T ⟨cG0, hG0, TB (cG0, pG0) (.head _)⟩ ⟨cG1, hG1, TB (cG1, pG1) (.tail _ (.head _))⟩⟩
theorem walk {l : PySem.W.OpenLaw} {q : Program} {loose : List Str} {XP : (Str → Option Value) → Heap → Prop} {YP : World → Heap → Prop} {d : DefRec} {K : Params → PySem.W.Frag} (cs : List (Addr × Addr)) (hnd : (cs.map (·.2)).Nodup) (hn : l.most = some 63) (hdf : d.params.defaults = [])
    (hY : ∀ (w : World) (h : Heap), YP w h → (K w.params).In h) (hT : ∀ (w : World) (h : Heap), YP w h → ∀ p ∈ cs, h.get? p.2 = some { cls := .none, data := .fields #[] }) (nT : ∀ w : World, ∀ p ∈ cs, (K w.params).lookup p.2 = none) (cT : ∀ w : World, ∀ p ∈ cs, PySem.W.codeHdIn (K w.params) p.1 p.2 = true)
    (F : ∀ (w : World) (mg : Str → Option Value) (fa : Addr) (h : Heap), (K w.params).In h → h.Ns mainGlobals mg → mg d.name = some (.ref fa) →
      ∃ fd : FuncData, (∀ (s : Shared) (u : Value), BindsTo s fd ⟨[u], []⟩ [("script", u)]) ∧ ∀ base : Heap, (K w.params).In base → base.Ns mainGlobals mg → (∀ p ∈ cs, LamX.TabB base mg p.1 p.2) → FnOk l.prog w (K w.params) mg base CX0 13 fa fd ["script"] (ySpLawT (K w.params) (cs.map (·.2)))) :
    PySem.W.WalkO q loose XP YP l.row.toRowW d [] (fun f vs => PySem.call f vs) := by
  refine LamX.walk_ofTs (n := 63) (k := 13) (x := "script") (CX := fun _ => CX0) hn (by decide) hdf ⟨rfl, by decide, by decide⟩ hY (fun w mg fa h Y KX G hm => ?_) fun _ _ _ _ _ z => z
  obtain ⟨fd, hb, hF⟩ := F w mg fa h KX G hm
  exact ⟨fd, cs, ySpLawT (K w.params) (cs.map (·.2)), hT w h Y, nT w, fun p hp => PySem.W.codeHd_of_K KX (cT w p hp), hb, fun H a ns hl _ hH hS => ⟨hnd, fun P hP => by obtain ⟨p, hp, e⟩ := List.mem_map.mp hP; rw [← e]; exact hH p hp, a, ns, rfl, hS, hl, fun _ => rfl⟩, hF⟩
end Z
open PySem PySem.W PyProof.Rows
set_option maxRecDepth 100000 in
set_option maxHeartbeats 0 in
theorem PySem.Challenge.cw_timeshelf_k14_candidates_holds : PySem.Challenge.rw_timeshelf_k14_candidates.Holds := by
  w_on; o_law; k_head; (case hw => w_witness2)
  k_fill
  refine Z.walk (l := PySem.Challenge.rw_timeshelf_k14_candidates) [(58, 54), (39, 35)] (by decide) rfl rfl (fun w h Y => PySem.W.km_in_of Y) (fun w h Y p hp => PySem.W.km_tabs_of Y _ (List.mem_map_of_mem (f := Prod.snd) hp)) (fun w => (Z.fa_cons ?nT0 (Z.fa_cons ?nT1 Z.fa_nil))) (fun w => (Z.fa_cons ?cT0 (Z.fa_cons ?cT1 Z.fa_nil))) ?F
  (case nT0 => first | k_is | rfl | kernel_rfl)
  (case nT1 => first | k_is | rfl | kernel_rfl)
  (case cT0 => first | k_is | rfl | kernel_rfl)
  (case cT1 => first | k_is | rfl | kernel_rfl)
  case F =>
    intro w mg fa h KX G hmg
    refine' Z.all_mk (cG0 := 58) (pG0 := 54) (cG1 := 39) (pG1 := 35) KX G hmg ?a0 ?l0 ?c0 ?k0 ?a1 ?l1 ?c1 ?k1 ?a2 ?l2 ?c2 ?k2 ?a3 ?l3 ?c3 ?k3 ?a4 ?l4 ?c4 ?k4 ?a5 ?l5 ?c5 ?k5 ?a6 ?l6 ?c6 ?k6 ?a7 ?l7 ?c7 ?k7 ?a8 ?l8 ?c8 ?k8 ?a9 ?l9 ?c9 ?k9 ?a10 ?l10 ?c10 ?k10 ?a11 ?l11 ?c11 ?k11 ?a12 ?l12 ?c12 ?k12 ?a13 ?l13 ?c13 ?k13 ?a14 ?l14 ?c14 ?k14 ?a15 ?l15 ?c15 ?k15 ?a16 ?l16 ?c16 ?k16 ?a17 ?l17 ?c17 ?k17 ?a18 ?l18 ?c18 ?k18 ?a19 ?l19 ?c19 ?k19 ?gc0 ?gc1 ?z0 ?z1 ?z2 ?z3 ?z4 ?z5 ?z6 ?z7 ?z8 ?z9 ?z10 ?z11 ?hG0 ?hG1
    (case a0 => first | k_is | rfl | decide +kernel)
    (case l0 => first | k_is | rfl | decide +kernel)
    (case c0 => first | k_is | rfl | decide +kernel)
    (case k0 => first | k_is | rfl | decide +kernel)
    (case a1 => first | k_is | rfl | decide +kernel)
    (case l1 => first | k_is | rfl | decide +kernel)
    (case c1 => first | k_is | rfl | decide +kernel)
    (case k1 => first | k_is | rfl | decide +kernel)
    (case a2 => first | k_is | rfl | decide +kernel)
    (case l2 => first | k_is | rfl | decide +kernel)
    (case c2 => first | k_is | rfl | decide +kernel)
    (case k2 => first | k_is | rfl | decide +kernel)
    (case a3 => first | k_is | rfl | decide +kernel)
    (case l3 => first | k_is | rfl | decide +kernel)
    (case c3 => first | k_is | rfl | decide +kernel)
    (case k3 => first | k_is | rfl | decide +kernel)
    (case a4 => first | k_is | rfl | decide +kernel)
    (case l4 => first | k_is | rfl | decide +kernel)
    (case c4 => first | k_is | rfl | decide +kernel)
    (case k4 => first | k_is | rfl | decide +kernel)
    (case a5 => first | k_is | rfl | decide +kernel)
    (case l5 => first | k_is | rfl | decide +kernel)
    (case c5 => first | k_is | rfl | decide +kernel)
    (case k5 => first | k_is | rfl | decide +kernel)
    (case a6 => first | k_is | rfl | decide +kernel)
    (case l6 => first | k_is | rfl | decide +kernel)
    (case c6 => first | k_is | rfl | decide +kernel)
    (case k6 => first | k_is | rfl | decide +kernel)
    (case a7 => first | k_is | rfl | decide +kernel)
    (case l7 => first | k_is | rfl | decide +kernel)
    (case c7 => first | k_is | rfl | decide +kernel)
    (case k7 => first | k_is | rfl | decide +kernel)
    (case a8 => first | k_is | rfl | decide +kernel)
    (case l8 => first | k_is | rfl | decide +kernel)
    (case c8 => first | k_is | rfl | decide +kernel)
    (case k8 => first | k_is | rfl | decide +kernel)
    (case a9 => first | k_is | rfl | decide +kernel)
    (case l9 => first | k_is | rfl | decide +kernel)
    (case c9 => first | k_is | rfl | decide +kernel)
    (case k9 => first | k_is | rfl | decide +kernel)
    (case a10 => first | k_is | rfl | decide +kernel)
    (case l10 => first | k_is | rfl | decide +kernel)
    (case c10 => first | k_is | rfl | decide +kernel)
    (case k10 => first | k_is | rfl | decide +kernel)
    (case a11 => first | k_is | rfl | decide +kernel)
    (case l11 => first | k_is | rfl | decide +kernel)
    (case c11 => first | k_is | rfl | decide +kernel)
    (case k11 => first | k_is | rfl | decide +kernel)
    (case a12 => first | k_is | rfl | decide +kernel)
    (case l12 => first | k_is | rfl | decide +kernel)
    (case c12 => first | k_is | rfl | decide +kernel)
    (case k12 => first | k_is | rfl | decide +kernel)
    (case a13 => first | k_is | rfl | decide +kernel)
    (case l13 => first | k_is | rfl | decide +kernel)
    (case c13 => first | k_is | rfl | decide +kernel)
    (case k13 => first | k_is | rfl | decide +kernel)
    (case a14 => first | k_is | rfl | decide +kernel)
    (case l14 => first | k_is | rfl | decide +kernel)
    (case c14 => first | k_is | rfl | decide +kernel)
    (case k14 => first | k_is | rfl | decide +kernel)
    (case a15 => first | k_is | rfl | decide +kernel)
    (case l15 => first | k_is | rfl | decide +kernel)
    (case c15 => first | k_is | rfl | decide +kernel)
    (case k15 => first | k_is | rfl | decide +kernel)
    (case a16 => first | k_is | rfl | decide +kernel)
    (case l16 => first | k_is | rfl | decide +kernel)
    (case c16 => first | k_is | rfl | decide +kernel)
    (case k16 => first | k_is | rfl | decide +kernel)
    (case a17 => first | k_is | rfl | decide +kernel)
    (case l17 => first | k_is | rfl | decide +kernel)
    (case c17 => first | k_is | rfl | decide +kernel)
    (case k17 => first | k_is | rfl | decide +kernel)
    (case a18 => first | k_is | rfl | decide +kernel)
    (case l18 => first | k_is | rfl | decide +kernel)
    (case c18 => first | k_is | rfl | decide +kernel)
    (case k18 => first | k_is | rfl | decide +kernel)
    (case a19 => first | k_is | rfl | decide +kernel)
    (case l19 => first | k_is | rfl | decide +kernel)
    (case c19 => first | k_is | rfl | decide +kernel)
    (case k19 => first | k_is | rfl | decide +kernel)
    (case gc0 => first | k_is | rfl | decide +kernel)
    (case gc1 => first | k_is | rfl | decide +kernel)
    (case z0 => first | k_is | rfl | decide +kernel)
    (case z1 => first | k_is | rfl | decide +kernel)
    (case z2 => first | k_is | rfl | decide +kernel)
    (case z3 => first | k_is | rfl | decide +kernel)
    (case z4 => first | k_is | rfl | decide +kernel)
    (case z5 => first | k_is | rfl | decide +kernel)
    (case z6 => first | k_is | rfl | decide +kernel)
    (case z7 => first | k_is | rfl | decide +kernel)
    (case z8 => first | k_is | rfl | decide +kernel)
    (case z9 => first | k_is | rfl | decide +kernel)
    (case z10 => first | k_is | rfl | decide +kernel)
    (case z11 => first | k_is | rfl | decide +kernel)
    (case hG0 => first | rfl | k_is)
    (case hG1 => first | rfl | k_is)
