import PyProof.Rows.All
import Wide.All
import OpenK.AllK
import Wide.FinOn
import HandS.ForMost
import HandS.IsInst
import HandS.TupAny
import HandS.Comp
import HandS.Iter
import HandS.Walk
import KE.SortData
import PySem.Challenge.RW_timeshelf_k38_sides_of_stretches
set_option Elab.async false
set_option linter.all false
set_option maxRecDepth 100000
set_option maxHeartbeats 2000000
namespace Z
open PySem L2
def top (i : Nat) : Stmt := PySem.Challenge.pw_timeshelf_k38_sides_of_stretches.main.body.getD i (.Pass ⟨0, 0, 0, 0⟩)
abbrev s_sum_of : Stmt := top 3
abbrev N_sum_of : List Str := ["row", "modulus", "total", "number"]
theorem sc_sum_of : FnScope ["row", "modulus", "total", "number"] ["row", "modulus"] (defScope s_sum_of) := ⟨rfl, rfl, rfl, by decide +kernel, rfl, by decide +kernel, by decide +kernel⟩
abbrev s_node_of : Stmt := top 6
abbrev N_node_of : List Str := ["row", "modulus"]
theorem sc_node_of : FnScope ["row", "modulus"] ["row", "modulus"] (defScope s_node_of) := ⟨rfl, rfl, rfl, by decide +kernel, rfl, by decide +kernel, by decide +kernel⟩
abbrev s_level_above : Stmt := top 7
abbrev N_level_above : List Str := ["nodes", "modulus", "above", "at"]
theorem sc_level_above : FnScope ["nodes", "modulus", "above", "at"] ["nodes", "modulus"] (defScope s_level_above) := ⟨rfl, rfl, rfl, by decide +kernel, rfl, by decide +kernel, by decide +kernel⟩
abbrev s_sides : Stmt := top 8
abbrev N_sides : List Str := ["levels", "first", "last", "found", "level", "left", "right"]
theorem sc_sides : FnScope ["levels", "first", "last", "found", "level", "left", "right"] ["levels", "first", "last"] (defScope s_sides) := ⟨rfl, rfl, rfl, by decide +kernel, rfl, by decide +kernel, by decide +kernel⟩
abbrev s_has_left : Stmt := top 9
abbrev N_has_left : List Str := ["first"]
theorem sc_has_left : FnScope ["first"] ["first"] (defScope s_has_left) := ⟨rfl, rfl, rfl, by decide +kernel, rfl, by decide +kernel, by decide +kernel⟩
abbrev s_has_right : Stmt := top 10
abbrev N_has_right : List Str := ["last", "count"]
theorem sc_has_right : FnScope ["last", "count"] ["last", "count"] (defScope s_has_right) := ⟨rfl, rfl, rfl, by decide +kernel, rfl, by decide +kernel, by decide +kernel⟩
abbrev s_top_from : Stmt := top 11
abbrev N_top_from : List Str := ["sums", "first", "count", "sides", "modulus", "told", "levels"]
theorem sc_top_from : FnScope ["sums", "first", "count", "sides", "modulus", "told", "levels"] ["sums", "first", "count", "sides", "modulus"] (defScope s_top_from) := ⟨rfl, rfl, rfl, by decide +kernel, rfl, by decide +kernel, by decide +kernel⟩
abbrev s_levels_from : Stmt := top 12
abbrev N_levels_from : List Str := ["nodes", "first", "count", "sides", "modulus", "levels", "left", "right", "last"]
theorem sc_levels_from : FnScope ["nodes", "first", "count", "sides", "modulus", "levels", "left", "right", "last"] ["nodes", "first", "count", "sides", "modulus"] (defScope s_levels_from) := ⟨rfl, rfl, rfl, by decide +kernel, rfl, by decide +kernel, by decide +kernel⟩
abbrev s_node_told : Stmt := top 13
abbrev N_node_told : List Str := ["told"]
theorem sc_node_told : FnScope ["told"] ["told"] (defScope s_node_told) := ⟨rfl, rfl, rfl, by decide +kernel, rfl, by decide +kernel, by decide +kernel⟩
abbrev s__law_cell : Stmt := top 15
abbrev N__law_cell : List Str := ["script", "k"]
theorem sc__law_cell : FnScope ["script", "k"] ["script", "k"] (defScope s__law_cell) := ⟨rfl, rfl, rfl, by decide +kernel, rfl, by decide +kernel, by decide +kernel⟩
abbrev s__law_sum : Stmt := top 18
abbrev N__law_sum : List Str := ["row", "modulus", "total", "n"]
theorem sc__law_sum : FnScope ["row", "modulus", "total", "n"] ["row", "modulus"] (defScope s__law_sum) := ⟨rfl, rfl, rfl, by decide +kernel, rfl, by decide +kernel, by decide +kernel⟩
abbrev s__law_above : Stmt := top 22
abbrev N__law_above : List Str := ["level", "modulus", "found", "k"]
theorem sc__law_above : FnScope ["level", "modulus", "found", "k"] ["level", "modulus"] (defScope s__law_above) := ⟨rfl, rfl, rfl, by decide +kernel, rfl, by decide +kernel, by decide +kernel⟩
abbrev s__law_sides : Stmt := top 23
abbrev N__law_sides : List Str := ["levels", "first", "last", "found", "level", "left", "right"]
theorem sc__law_sides : FnScope ["levels", "first", "last", "found", "level", "left", "right"] ["levels", "first", "last"] (defScope s__law_sides) := ⟨rfl, rfl, rfl, by decide +kernel, rfl, by decide +kernel, by decide +kernel⟩
abbrev s__law_wrong : Stmt := top 24
abbrev N__law_wrong : List Str := ["told", "k", "which", "pair"]
theorem sc__law_wrong : FnScope ["told", "k", "which", "pair"] ["told", "k", "which"] (defScope s__law_wrong) := ⟨rfl, rfl, rfl, by decide +kernel, rfl, by decide +kernel, by decide +kernel⟩
abbrev s_law : Stmt := top 25
abbrev N_law : List Str := ["script", "k", "modulus", "count", "levels", "turn", "first", "last", "told", "sums", "wrong"]
theorem sc_law : FnScope ["script", "k", "modulus", "count", "levels", "turn", "first", "last", "told", "sums", "wrong"] ["script"] (defScope s_law) := ⟨rfl, rfl, rfl, by decide +kernel, rfl, by decide +kernel, by decide +kernel⟩
structure Txt (K : PySem.W.Frag) (mg : Str → Option Value) (A : Nat → Addr) (D : Nat → FuncData) : Prop where
  F_sum_of : Fun K "sum_of" "sum_of" s_sum_of (A 0) (D 0)
  b_sum_of : Binds K (D 0) ["row", "modulus"] []
  m_sum_of : mg "sum_of" = some (.ref (A 0))
  F_node_of : Fun K "node_of" "node_of" s_node_of (A 1) (D 1)
  b_node_of : Binds K (D 1) ["row", "modulus"] []
  m_node_of : mg "node_of" = some (.ref (A 1))
  F_level_above : Fun K "level_above" "level_above" s_level_above (A 2) (D 2)
  b_level_above : Binds K (D 2) ["nodes", "modulus"] []
  m_level_above : mg "level_above" = some (.ref (A 2))
  F_sides : Fun K "sides" "sides" s_sides (A 3) (D 3)
  b_sides : Binds K (D 3) ["levels", "first", "last"] []
  m_sides : mg "sides" = some (.ref (A 3))
  F_has_left : Fun K "has_left" "has_left" s_has_left (A 4) (D 4)
  b_has_left : Binds K (D 4) ["first"] []
  m_has_left : mg "has_left" = some (.ref (A 4))
  F_has_right : Fun K "has_right" "has_right" s_has_right (A 5) (D 5)
  b_has_right : Binds K (D 5) ["last", "count"] []
  m_has_right : mg "has_right" = some (.ref (A 5))
  F_top_from : Fun K "top_from" "top_from" s_top_from (A 6) (D 6)
  b_top_from : Binds K (D 6) ["sums", "first", "count", "sides", "modulus"] []
  m_top_from : mg "top_from" = some (.ref (A 6))
  F_levels_from : Fun K "levels_from" "levels_from" s_levels_from (A 7) (D 7)
  b_levels_from : Binds K (D 7) ["nodes", "first", "count", "sides", "modulus"] []
  m_levels_from : mg "levels_from" = some (.ref (A 7))
  F_node_told : Fun K "node_told" "node_told" s_node_told (A 8) (D 8)
  b_node_told : Binds K (D 8) ["told"] []
  m_node_told : mg "node_told" = some (.ref (A 8))
  F__law_cell : Fun K "_law_cell" "_law_cell" s__law_cell (A 9) (D 9)
  b__law_cell : Binds K (D 9) ["script", "k"] []
  m__law_cell : mg "_law_cell" = some (.ref (A 9))
  F__law_sum : Fun K "_law_sum" "_law_sum" s__law_sum (A 10) (D 10)
  b__law_sum : Binds K (D 10) ["row", "modulus"] []
  m__law_sum : mg "_law_sum" = some (.ref (A 10))
  F__law_above : Fun K "_law_above" "_law_above" s__law_above (A 11) (D 11)
  b__law_above : Binds K (D 11) ["level", "modulus"] []
  m__law_above : mg "_law_above" = some (.ref (A 11))
  F__law_sides : Fun K "_law_sides" "_law_sides" s__law_sides (A 12) (D 12)
  b__law_sides : Binds K (D 12) ["levels", "first", "last"] []
  m__law_sides : mg "_law_sides" = some (.ref (A 12))
  F__law_wrong : Fun K "_law_wrong" "_law_wrong" s__law_wrong (A 13) (D 13)
  b__law_wrong : Binds K (D 13) ["told", "k", "which"] []
  m__law_wrong : mg "_law_wrong" = some (.ref (A 13))
  F_law : Fun K "law" "law" s_law (A 14) (D 14)
  b_law : Binds K (D 14) ["script"] []
  m_law : mg "law" = some (.ref (A 14))
  c_FIRST_SUM : ∃ t, mg "FIRST_SUM" = some (.int 7 t)
  c_FACTOR : ∃ t, mg "FACTOR" = some (.int 31 t)
  c_PAIR : ∃ t, mg "PAIR" = some (.int 3 t)
  z_int : mg "int" = none
  z_len : mg "len" = none
  z_list : mg "list" = none
  z_range : mg "range" = none
  z_tuple : mg "tuple" = none

/-! ### a layer of states: views of the heap, slots with data, owned things -/
namespace Y
open PySem L2
def keyD : Key → PyData
  | .inl i => .int i
  | .inr z => .str z
mutual
/-- immutable or shared data in a view of the heap: lists and dicts there are tracked -/
inductive Dq (K : PySem.W.Frag) (M : Hp) : V → PyData → Prop
  | non : Dq K M .non .none
  | bl (b : Bool) : Dq K M (.bl b) (.bool b)
  | int (i : Int) : Dq K M (.int i) (.int i)
  | str (x : Str) : Dq K M (.str x) (.str x)
  | lst {a : Addr} {xs : List V} {ds : List PyData} : M a = some (.lst xs) → DqAll K M xs ds → Dq K M (.ref a) (.list ds)
  | tup {a : Addr} {xs : List V} {ds : List PyData} : SqT K M a xs → DqAll K M xs ds → Dq K M (.ref a) (.tuple ds)
  | dct {a : Addr} {kvs : List (Key × V)} {ds : List (PyData × PyData)} : M a = some (.dK kvs) → DqKV K M kvs ds → Dq K M (.ref a) (.dict ds)
inductive DqAll (K : PySem.W.Frag) (M : Hp) : List V → List PyData → Prop
  | nil : DqAll K M [] []
  | cons {v : V} {vs : List V} {d : PyData} {ds : List PyData} : Dq K M v d → DqAll K M vs ds → DqAll K M (v :: vs) (d :: ds)
inductive DqKV (K : PySem.W.Frag) (M : Hp) : List (Key × V) → List (PyData × PyData) → Prop
  | nil : DqKV K M [] []
  | cons {k : Key} {v : V} {d : PyData} {kvs : List (Key × V)} {ds : List (PyData × PyData)} : Dq K M v d → DqKV K M kvs ds → DqKV K M ((k, v) :: kvs) ((keyD k, d) :: ds)
end
theorem Same.sqT {K : PySem.W.Frag} {H H' : Hp} (k : Same H H') {a : Addr} {xs : List V} (h : SqT K H a xs) : SqT K H' a xs := by
  rcases h with (h | ⟨o, h⟩) | h
  · exact .inl (.inl (k _ _ h))
  · exact .inl (.inr ⟨o, k _ _ h⟩)
  · exact .inr h
theorem Same.sqL {K : PySem.W.Frag} {H H' : Hp} (k : Same H H') {a : Addr} {xs : List V} (h : SqL K H a xs) : SqL K H' a xs := by
  rcases h with (h | ⟨o, h⟩) | h
  · exact .inl (.inl (k _ _ h))
  · exact .inl (.inr ⟨o, k _ _ h⟩)
  · exact .inr h
section
variable {K : PySem.W.Frag} {H H' M M' : Hp}
mutual
theorem Dq.same (k : Same M M') : ∀ {v : V} {d : PyData}, Dq K M v d → Dq K M' v d
  | _, _, .non => .non
  | _, _, .bl b => .bl b
  | _, _, .int i => .int i
  | _, _, .str x => .str x
  | _, _, .lst h a => .lst (k _ _ h) (DqAll.same k a)
  | _, _, .tup h a => .tup (Same.sqT k h) (DqAll.same k a)
  | _, _, .dct h a => .dct (k _ _ h) (DqKV.same k a)
theorem DqAll.same (k : Same M M') : ∀ {vs : List V} {ds : List PyData}, DqAll K M vs ds → DqAll K M' vs ds
  | _, _, .nil => .nil
  | _, _, .cons a b => .cons (Dq.same k a) (DqAll.same k b)
theorem DqKV.same (k : Same M M') : ∀ {vs : List (Key × V)} {ds : List (PyData × PyData)}, DqKV K M vs ds → DqKV K M' vs ds
  | _, _, .nil => .nil
  | _, _, .cons a b => .cons (Dq.same k a) (DqKV.same k b)
end
mutual
theorem Dq.dp : ∀ {v : V} {d : PyData}, Dq K M v d → d.canLay0 = true → Dp K M v d
  | _, _, .non, _ => .non
  | _, _, .bl b, _ => .bl b
  | _, _, .int i, _ => .int i
  | _, _, .str x, _ => .str x
  | _, _, .lst h a, c => .lst (SqL.of h) (DqAll.dp a (by rw [PyData.canLay0] at c; exact c))
  | _, _, .tup h a, c => .tup h (DqAll.dp a (by rw [PyData.canLay0] at c; exact c))
  | _, _, .dct h a, c => by simp [PyData.canLay0] at c
theorem DqAll.dp : ∀ {vs : List V} {ds : List PyData}, DqAll K M vs ds → PyData.canLayAll0 ds = true → DpAll K M vs ds
  | _, _, .nil, _ => .nil
  | _, _, .cons a b, c => by
    rw [PyData.canLayAll0, Bool.and_eq_true] at c
    exact .cons (Dq.dp a c.1) (DqAll.dp b c.2)
end
theorem DqAll.len : ∀ {vs : List V} {ds : List PyData}, DqAll K M vs ds → vs.length = ds.length
  | _, _, .nil => rfl
  | _, _, .cons a b => by rw [List.length_cons, List.length_cons, DqAll.len b]
theorem DqAll.get : ∀ {vs : List V} {ds : List PyData}, DqAll K M vs ds → ∀ {i : Nat} {d : PyData}, ds[i]? = some d → ∃ v, vs[i]? = some v ∧ Dq K M v d
  | _, _, .nil, i, d, h => by simp at h
  | _, _, .cons a b, 0, d, h => by
    have e := Option.some.inj h
    subst e
    exact ⟨_, rfl, a⟩
  | _, _, .cons a b, i + 1, d, h => DqAll.get b (i := i) (by simpa using h)
theorem DqAll.getV : ∀ {vs : List V} {ds : List PyData}, DqAll K M vs ds → ∀ {i : Nat} {v : V}, vs[i]? = some v → ∃ d, ds[i]? = some d ∧ Dq K M v d
  | _, _, .nil, i, d, h => by simp at h
  | _, _, .cons a b, 0, d, h => by
    have e := Option.some.inj h
    subst e
    exact ⟨_, rfl, a⟩
  | _, _, .cons a b, i + 1, d, h => DqAll.getV b (i := i) (by simpa using h)
theorem DqAll.app : ∀ {vs ws : List V} {ds es : List PyData}, DqAll K M vs ds → DqAll K M ws es → DqAll K M (vs ++ ws) (ds ++ es)
  | _, _, _, _, .nil, h => h
  | _, _, _, _, .cons a b, h => .cons a (DqAll.app b h)
theorem DqAll.drop : ∀ {vs : List V} {ds : List PyData} (n : Nat), DqAll K M vs ds → DqAll K M (vs.drop n) (ds.drop n)
  | _, _, 0, h => h
  | _, _, _ + 1, .nil => .nil
  | _, _, n + 1, .cons _ h => DqAll.drop n h
theorem DqAll.take : ∀ {vs : List V} {ds : List PyData} (n : Nat), DqAll K M vs ds → DqAll K M (vs.take n) (ds.take n)
  | _, _, 0, _ => .nil
  | _, _, _ + 1, .nil => .nil
  | _, _, n + 1, .cons a h => .cons a (DqAll.take n h)
end
/-- what a slot holds: nothing that is known, data, a thing of its own with its addresses -/
inductive Sl where
  | unk
  | val (d : PyData)
  | res (P : V → Hp → Hp → List Addr → Prop)
def SlOk (K : PySem.W.Frag) (M H : Hp) : Sl → Option V → List Addr → Prop
  | .unk, _, fp => fp = []
  | .val d, o, fp => fp = [] ∧ ∃ v, o = some v ∧ Dq K M v d
  | .res P, o, fp => ∃ v, o = some v ∧ P v M H fp
inductive SlsOk (K : PySem.W.Frag) (M H : Hp) : List Sl → L2.St → List (List Addr) → Prop
  | nil : SlsOk K M H [] [] []
  | cons {s : Sl} {o : Option V} {fp : List Addr} {env : List Sl} {σ : L2.St} {fps : List (List Addr)} : SlOk K M H s o fp → SlsOk K M H env σ fps → SlsOk K M H (s :: env) (o :: σ) (fp :: fps)
/-- what of a thing's own stands by itself: it is stable while its addresses hold what they held and the view grows -/
def Stab : Sl → Prop
  | .unk => True
  | .val _ => True
  | .res P => ∀ v M H M' H' fp, Same M M' → (∀ a ∈ fp, H' a = H a) → P v M H fp → P v M' H' fp
structure Ok (K : PySem.W.Frag) (H0 M0 : Hp) (env : List Sl) (fps : List (List Addr)) (σ : L2.St) (H M : Hp) : Prop where
  base : Same H0 H
  sub : Same M H
  grow : Same M0 M
  new : ∀ a o, M a = some o → M0 a = some o ∨ H0 a = none
  sls : SlsOk K M H env σ fps
  nd : fps.flatten.Nodup
  own : ∀ a ∈ fps.flatten, H0 a = none ∧ M a = none ∧ H a ≠ none
  stab : ∀ s ∈ env, Stab s
section
variable {K : PySem.W.Frag} {H0 M0 H M H' M' : Hp} {env : List Sl} {fps : List (List Addr)} {σ : L2.St}
theorem SlOk.mono {s : Sl} {o : Option V} {fp : List Addr} (st : Stab s) (k : Same M M') (h : ∀ a ∈ fp, H' a = H a) (x : SlOk K M H s o fp) : SlOk K M' H' s o fp := by
  cases s with
  | unk => exact x
  | val d =>
    obtain ⟨e, v, e2, e3⟩ := x
    exact ⟨e, v, e2, Dq.same k e3⟩
  | res P =>
    obtain ⟨v, e2, e3⟩ := x
    exact ⟨v, e2, st _ _ _ _ _ _ k h e3⟩
theorem SlsOk.mono (k : Same M M') : ∀ {env : List Sl} {σ : L2.St} {fps : List (List Addr)}, (∀ s ∈ env, Stab s) → (∀ a ∈ fps.flatten, H' a = H a) → SlsOk K M H env σ fps → SlsOk K M' H' env σ fps
  | _, _, _, _, _, .nil => .nil
  | _, _, _, st, h, .cons a b => .cons (SlOk.mono (st _ List.mem_cons_self) k (fun x hx => h x (by rw [List.flatten_cons]; exact List.mem_append_left _ hx)) a)
      (SlsOk.mono k (fun s hs => st s (List.mem_cons_of_mem _ hs)) (fun x hx => h x (by rw [List.flatten_cons]; exact List.mem_append_right _ hx)) b)
/-- the heap and the view have grown -/
theorem Ok.grown (k : Ok K H0 M0 env fps σ H M) (h : Same H H') (m : Same M M') (s : Same M' H') (n : ∀ a o, M' a = some o → M a = some o ∨ H a = none) : Ok K H0 M0 env fps σ H' M' where
  base := k.base.trans h
  sub := s
  grow := k.grow.trans m
  new := fun a o e => by
    rcases n a o e with e | e
    · exact k.new a o e
    · refine .inr ?_
      cases c : H0 a with
      | none => rfl
      | some u => rw [k.base a u c] at e; cases e
  sls := SlsOk.mono m k.stab (fun a ha => by
    obtain ⟨_, _, e⟩ := k.own a ha
    cases c : H a with
    | none => exact absurd c e
    | some u => exact h a u c) k.sls
  nd := k.nd
  own := fun a ha => by
    obtain ⟨e1, e2, e3⟩ := k.own a ha
    refine ⟨e1, ?_, fun z => ?_⟩
    · cases c : M' a with
      | none => rfl
      | some u =>
        rcases n a u c with e | e
        · rw [e2] at e; cases e
        · exact absurd e e3
    · cases c : H a with
      | none => exact e3 c
      | some u => rw [h a u c] at z; cases z
  stab := k.stab
/-- a new object -/
theorem Ok.laid {p : Addr} {o : HO} (k : Ok K H0 M0 env fps σ H M) (hp : H p = none) : Ok K H0 M0 env fps σ (upd H p o) (upd M p o) ∧ Same M (upd M p o) := by
  have mp : M p = none := by
    cases c : M p with
    | none => rfl
    | some u => rw [k.sub p u c] at hp; cases hp
  have s1 : Same M (upd M p o) := fun a u e => by
    rw [upd_ne (fun z => by rw [z, mp] at e; cases e)]; exact e
  have s2 : Same H (upd H p o) := fun a u e => by
    rw [upd_ne (fun z => by rw [z, hp] at e; cases e)]; exact e
  refine ⟨k.grown s2 s1 (fun a u e => ?_) (fun a u e => ?_), s1⟩
  · by_cases z : a = p
    · subst z; rw [upd_same] at e ⊢; exact e
    · rw [upd_ne z] at e ⊢; exact k.sub a u e
  · by_cases z : a = p
    · subst z; exact .inr hp
    · rw [upd_ne z] at e; exact .inl e
theorem SlsOk.get : ∀ {env : List Sl} {σ : L2.St} {fps : List (List Addr)} {i : Nat} {d : PyData}, SlsOk K M H env σ fps → env[i]? = some (.val d) → ∃ v, σ[i]? = some (some v) ∧ Dq K M v d
  | _, _, _, 0, _, .cons a _, h => by
    have e := Option.some.inj h
    subst e
    obtain ⟨_, v, e2, e3⟩ := a
    exact ⟨v, by rw [e2]; rfl, e3⟩
  | _, _, _, i + 1, _, .cons _ b, h => SlsOk.get b (i := i) (by simpa using h)
  | _, _, _, i, _, .nil, h => by simp at h
theorem SlsOk.len : ∀ {env : List Sl} {σ : L2.St} {fps : List (List Addr)}, SlsOk K M H env σ fps → env.length = σ.length ∧ fps.length = σ.length
  | _, _, _, .nil => ⟨rfl, rfl⟩
  | _, _, _, .cons _ b => ⟨by rw [List.length_cons, List.length_cons, (SlsOk.len b).1], by rw [List.length_cons, List.length_cons, (SlsOk.len b).2]⟩
/-- a slot is stored anew -/
theorem SlsOk.set {s : Sl} {o : Option V} {fp : List Addr} (x : SlOk K M H s o fp) : ∀ {env : List Sl} {σ : L2.St} {fps : List (List Addr)} (i : Nat), SlsOk K M H env σ fps → SlsOk K M H (env.set i s) (σ.set i o) (fps.set i fp)
  | _, _, _, _, .nil => .nil
  | _, _, _, 0, .cons _ b => .cons x b
  | _, _, _, i + 1, .cons a b => .cons a (SlsOk.set x i b)
theorem flat_set : ∀ {fps : List (List Addr)} {i : Nat} {a : Addr}, a ∈ (fps.set i []).flatten → a ∈ fps.flatten
  | [], _, _, h => h
  | f :: fps, 0, a, h => by
    rw [List.set_cons_zero, List.flatten_cons, List.nil_append] at h
    rw [List.flatten_cons]; exact List.mem_append_right _ h
  | f :: fps, i + 1, a, h => by
    rw [List.set_cons_succ, List.flatten_cons, List.mem_append] at h
    rw [List.flatten_cons, List.mem_append]
    exact h.imp id flat_set
theorem flat_nodup : ∀ {fps : List (List Addr)} {i : Nat}, fps.flatten.Nodup → (fps.set i []).flatten.Nodup
  | [], _, h => h
  | f :: fps, 0, h => by
    rw [List.flatten_cons, List.nodup_append] at h
    rw [List.set_cons_zero, List.flatten_cons, List.nil_append]; exact h.2.1
  | f :: fps, i + 1, h => by
    rw [List.flatten_cons, List.nodup_append] at h
    rw [List.set_cons_succ, List.flatten_cons, List.nodup_append]
    exact ⟨h.1, flat_nodup h.2.1, fun x hx y hy => h.2.2 x hx y (flat_set hy)⟩
theorem stab_set {s : Sl} (hs : Stab s) {i : Nat} (h : ∀ s ∈ env, Stab s) : ∀ t ∈ env.set i s, Stab t := fun t ht => by
  rcases List.mem_or_eq_of_mem_set ht with ht | rfl
  · exact h t ht
  · exact hs
theorem Ok.setV {i : Nat} {v : V} {d : PyData} (k : Ok K H0 M0 env fps σ H M) (h : Dq K M v d) : Ok K H0 M0 (env.set i (.val d)) (fps.set i []) (σ.set i (some v)) H M where
  base := k.base
  sub := k.sub
  grow := k.grow
  new := k.new
  sls := SlsOk.set (s := .val d) (o := some v) (fp := []) ⟨rfl, v, rfl, h⟩ i k.sls
  nd := flat_nodup k.nd
  own := fun a ha => k.own a (flat_set ha)
  stab := stab_set (s := .val d) True.intro k.stab
theorem Ok.setU {i : Nat} {o : Option V} (k : Ok K H0 M0 env fps σ H M) : Ok K H0 M0 (env.set i .unk) (fps.set i []) (σ.set i o) H M where
  base := k.base
  sub := k.sub
  grow := k.grow
  new := k.new
  sls := SlsOk.set (s := .unk) (o := o) (fp := []) rfl i k.sls
  nd := flat_nodup k.nd
  own := fun a ha => k.own a (flat_set ha)
  stab := stab_set (s := .unk) True.intro k.stab
end
end Y


/-! ### expressions, tests, arguments over such states -/
namespace Y
open PySem L2
structure Ext (H M H' M' : Hp) : Prop where
  h : Same H H'
  m : Same M M'
  s : Same M' H'
  n : ∀ a o, M' a = some o → M a = some o ∨ H a = none
theorem Ext.refl {H M : Hp} (s : Same M H) : Ext H M H M := ⟨Same.refl H, Same.refl M, s, fun _ _ e => .inl e⟩
theorem none_of {H H' : Hp} (k : Same H H') {a : Addr} (e : H' a = none) : H a = none := by
  cases c : H a with
  | none => rfl
  | some u => rw [k a u c] at e; cases e
theorem Ext.trans {H M H1 M1 H2 M2 : Hp} (a : Ext H M H1 M1) (b : Ext H1 M1 H2 M2) : Ext H M H2 M2 :=
  ⟨a.h.trans b.h, a.m.trans b.m, b.s, fun x o e => by
    rcases b.n x o e with e | e
    · exact a.n x o e
    · exact .inr (none_of a.h e)⟩
theorem Ext.laid {H M : Hp} (s : Same M H) {p : Addr} {o : HO} (hp : H p = none) : Ext H M (upd H p o) (upd M p o) := by
  have mp := none_of s hp
  refine ⟨fun a u e => ?_, fun a u e => ?_, fun a u e => ?_, fun a u e => ?_⟩
  · rw [upd_ne (fun z => by rw [z, hp] at e; cases e)]; exact e
  · rw [upd_ne (fun z => by rw [z, mp] at e; cases e)]; exact e
  · by_cases z : a = p
    · subst z; rw [upd_same] at e ⊢; exact e
    · rw [upd_ne z] at e ⊢; exact s a u e
  · by_cases z : a = p
    · subst z; exact .inr hp
    · rw [upd_ne z] at e; exact .inl e
section
variable {K : PySem.W.Frag} {H0 M0 H M H' M' : Hp} {env : List Sl} {fps : List (List Addr)} {σ : L2.St}
theorem Ok.ext (k : Ok K H0 M0 env fps σ H M) (e : Ext H M H' M') : Ok K H0 M0 env fps σ H' M' := k.grown e.h e.m e.s e.n
theorem Ok.out (k : Ok K H0 M0 env fps σ H M) : Ext H0 M0 H M := ⟨k.base, k.grow, k.sub, k.new⟩
end
def Pe (K : PySem.W.Frag) (t : TE) (env : List Sl) (d : PyData) : Prop := ∀ (H0 M0 H M : Hp) (fps : List (List Addr)) (σ : L2.St) (Q : VK), Ok K H0 M0 env fps σ H M →
  (∀ v H' M', Ext H M H' M' → Dq K M' v d → Q v H') → t σ H Q
def Pt (K : PySem.W.Frag) (t : TT) (env : List Sl) (b : Bool) : Prop := ∀ (H0 M0 H M : Hp) (fps : List (List Addr)) (σ : L2.St) (Q : Bool → Hp → Prop), Ok K H0 M0 env fps σ H M →
  (∀ H' M', Ext H M H' M' → Q b H') → t σ H Q
def Pa (K : PySem.W.Frag) (t : TA) (env : List Sl) (ds : List PyData) : Prop := ∀ (H0 M0 H M : Hp) (fps : List (List Addr)) (σ : L2.St) (Q : List V → Hp → Prop), Ok K H0 M0 env fps σ H M →
  (∀ vs H' M', Ext H M H' M' → DqAll K M' vs ds → Q vs H') → t σ H Q
/-- by values -/
def Po (K : PySem.W.Frag) (r : R2) (d e c : PyData) : Prop := ∀ (H M : Hp) (x y : V) (Q : VK), Same M H → Dq K M x d → Dq K M y e → (∀ v H' M', Ext H M H' M' → Dq K M' v c → Q v H') → r x y H Q
def Pc (K : PySem.W.Frag) (r : List V → Hp → VK → Prop) (ds : List PyData) (c : PyData) : Prop := ∀ (H M : Hp) (vs : List V) (Q : VK), Same M H → DqAll K M vs ds → (∀ v H' M', Ext H M H' M' → Dq K M' v c → Q v H') → r vs H Q
def Pm (K : PySem.W.Frag) (r : V → List V → Hp → VK → Prop) (d : PyData) (ds : List PyData) (c : PyData) : Prop := ∀ (H M : Hp) (x : V) (vs : List V) (Q : VK), Same M H → Dq K M x d → DqAll K M vs ds → (∀ v H' M', Ext H M H' M' → Dq K M' v c → Q v H') → r x vs H Q
def Pu (K : PySem.W.Frag) (r : V → Hp → VK → Prop) (d c : PyData) : Prop := ∀ (H M : Hp) (x : V) (Q : VK), Same M H → Dq K M x d → (∀ v H' M', Ext H M H' M' → Dq K M' v c → Q v H') → r x H Q
/-- a def's promise: told data to told data -/
def PF (K : PySem.W.Frag) (R : List PyData → PyData → Prop) : Sp := fun vs H Q _ => ∃ M ds d, Same M H ∧ DqAll K M vs ds ∧ R ds d ∧ ∀ v H' M', Ext H M H' M' → Dq K M' v d → Q v H'
section
variable {K : PySem.W.Frag} {env : List Sl}
theorem e_var {i : Nat} {d : PyData} (h : env[i]? = some (.val d)) : Pe K (tVar i) env d := fun H0 M0 H M fps σ Q k q => by
  obtain ⟨v, e1, e2⟩ := k.sls.get h
  exact ⟨v, e1, q v H M (Ext.refl k.sub) e2⟩
theorem e_int {i : Int} : Pe K (tC (.int i)) env (.int i) := fun H0 M0 H M fps σ Q k q => q _ H M (Ext.refl k.sub) (.int i)
theorem e_str {i : Str} : Pe K (tC (.str i)) env (.str i) := fun H0 M0 H M fps σ Q k q => q _ H M (Ext.refl k.sub) (.str i)
theorem e_bl {i : Bool} : Pe K (tC (.bl i)) env (.bool i) := fun H0 M0 H M fps σ Q k q => q _ H M (Ext.refl k.sub) (.bl i)
theorem e_non : Pe K (tC .non) env .none := fun H0 M0 H M fps σ Q k q => q _ H M (Ext.refl k.sub) .non
theorem e_as {t : TE} {d d' : PyData} (h : Pe K t env d) (e : d = d') : Pe K t env d' := by rw [← e]; exact h
theorem t_as {t : TT} {b b' : Bool} (h : Pt K t env b) (e : b = b') : Pt K t env b' := by rw [← e]; exact h
theorem e_op {r : R2} {ta tb : TE} {d e c : PyData} (ha : Pe K ta env d) (hb : Pe K tb env e) (hr : Po K r d e c) : Pe K (tOp r ta tb) env c := fun H0 M0 H M fps σ Q k q =>
  ha H0 M0 H M fps σ _ k fun x H1 M1 x1 dx => hb H0 M0 H1 M1 fps σ _ (k.ext x1) fun y H2 M2 x2 dy => hr H2 M2 x y Q x2.s (Dq.same x2.m dx) dy fun v H3 M3 x3 dv => q v H3 M3 ((x1.trans x2).trans x3) dv
theorem e_un {r : V → Hp → VK → Prop} {ta : TE} {d c : PyData} (ha : Pe K ta env d) (hr : Pu K r d c) : Pe K (tUn r ta) env c := fun H0 M0 H M fps σ Q k q =>
  ha H0 M0 H M fps σ _ k fun x H1 M1 x1 dx => hr H1 M1 x Q x1.s dx fun v H3 M3 x3 dv => q v H3 M3 (x1.trans x3) dv
theorem a_nil : Pa K tNil env [] := fun H0 M0 H M fps σ Q k q => q [] H M (Ext.refl k.sub) .nil
theorem a_cons {ta : TE} {tr : TA} {d : PyData} {ds : List PyData} (ha : Pe K ta env d) (hb : Pa K tr env ds) : Pa K (tCons ta tr) env (d :: ds) := fun H0 M0 H M fps σ Q k q =>
  ha H0 M0 H M fps σ _ k fun x H1 M1 x1 dx => hb H0 M0 H1 M1 fps σ _ (k.ext x1) fun xs H2 M2 x2 dxs => q _ H2 M2 (x1.trans x2) (.cons (Dq.same x2.m dx) dxs)
theorem e_tup {ta : TA} {ds : List PyData} (ha : Pa K ta env ds) (hl : ds.length ≤ sizeLine) : Pe K (tTup ta) env (.tuple ds) := fun H0 M0 H M fps σ Q k q =>
  ha H0 M0 H M fps σ _ k fun xs H1 M1 x1 dx => ⟨by rw [DqAll.len dx]; exact hl, fun p hp => q _ _ (upd M1 p (.tup xs)) (x1.trans (Ext.laid x1.s hp)) (.tup (SqT.of upd_same) (DqAll.same (Ext.laid x1.s hp).m dx))⟩
theorem e_lst {ta : TA} {ds : List PyData} (ha : Pa K ta env ds) (hl : ds.length ≤ sizeLine) : Pe K (tLst ta) env (.list ds) := fun H0 M0 H M fps σ Q k q =>
  ha H0 M0 H M fps σ _ k fun xs H1 M1 x1 dx => ⟨by rw [DqAll.len dx]; exact hl, fun p hp => q _ _ (upd M1 p (.lst xs)) (x1.trans (Ext.laid x1.s hp)) (.lst upd_same (DqAll.same (Ext.laid x1.s hp).m dx))⟩
theorem e_call {R : List PyData → PyData → Prop} {E : XK} {ta : TA} {ds : List PyData} {d : PyData} (ha : Pa K ta env ds) (hr : R ds d) : Pe K (tCall (PF K R) [] E ta) env d := fun H0 M0 H M fps σ Q k q =>
  ha H0 M0 H M fps σ _ k fun xs H1 M1 x1 dx => ⟨M1, ds, d, x1.s, by rw [List.append_nil]; exact dx, hr, fun v H2 M2 x2 dv => q v H2 M2 (x1.trans x2) dv⟩
theorem e_cb {r : List V → Hp → VK → Prop} {ta : TA} {ds : List PyData} {c : PyData} (ha : Pa K ta env ds) (hr : Pc K r ds c) : Pe K (tCB r ta) env c := fun H0 M0 H M fps σ Q k q =>
  ha H0 M0 H M fps σ _ k fun xs H1 M1 x1 dx => hr H1 M1 xs Q x1.s dx fun v H2 M2 x2 dv => q v H2 M2 (x1.trans x2) dv
theorem e_if {c : TT} {ta tb : TE} {b : Bool} {d e : PyData} (hc : Pt K c env b) (ha : b = true → Pe K ta env d) (hb : b = false → Pe K tb env e) : Pe K (tIf c ta tb) env (if b = true then d else e) := fun H0 M0 H M fps σ Q k q => by
  refine hc H0 M0 H M fps σ _ k fun H1 M1 x1 => ?_
  cases b with
  | true => rw [if_pos rfl] at q ⊢; exact ha rfl H0 M0 H1 M1 fps σ Q (k.ext x1) fun v H2 M2 x2 dv => q v H2 M2 (x1.trans x2) dv
  | false => rw [if_neg Bool.false_ne_true] at q ⊢; exact hb rfl H0 M0 H1 M1 fps σ Q (k.ext x1) fun v H2 M2 x2 dv => q v H2 M2 (x1.trans x2) dv
theorem e_ifS {c : TT} {ta tb : TE} {b : Bool} {d : PyData} (hc : Pt K c env b) (ha : b = true → Pe K ta env d) (hb : b = false → Pe K tb env d) : Pe K (tIf c ta tb) env d := fun H0 M0 H M fps σ Q k q => by
  refine hc H0 M0 H M fps σ _ k fun H1 M1 x1 => ?_
  cases b with
  | true => exact ha rfl H0 M0 H1 M1 fps σ Q (k.ext x1) fun v H2 M2 x2 dv => q v H2 M2 (x1.trans x2) dv
  | false => exact hb rfl H0 M0 H1 M1 fps σ Q (k.ext x1) fun v H2 M2 x2 dv => q v H2 M2 (x1.trans x2) dv
theorem dq_bool {M : Hp} {v : V} {b : Bool} (h : Dq K M v (.bool b)) : v = .bl b := by cases h; rfl
theorem dq_int {M : Hp} {v : V} {b : Int} (h : Dq K M v (.int b)) : v = .int b := by cases h; rfl
theorem dq_str {M : Hp} {v : V} {b : Str} (h : Dq K M v (.str b)) : v = .str b := by cases h; rfl
theorem dq_non {M : Hp} {v : V} (h : Dq K M v .none) : v = .non := by cases h; rfl
theorem t_test {ta : TE} {b : Bool} (ha : Pe K ta env (.bool b)) : Pt K (tTest ta) env b := fun H0 M0 H M fps σ Q k q =>
  ha H0 M0 H M fps σ _ k fun x H1 M1 x1 dx => ⟨b, dq_bool dx, q H1 M1 x1⟩
theorem t_b {ta : TE} {b : Bool} (ha : Pe K ta env (.bool b)) : Pt K (tB ta) env b := fun H0 M0 H M fps σ Q k q =>
  ha H0 M0 H M fps σ _ k fun x H1 M1 x1 dx => ⟨b, dq_bool dx, q H1 M1 x1⟩
theorem t_and {t u : TT} {b c : Bool} (ha : Pt K t env b) (hb : b = true → Pt K u env c) : Pt K (tAnd t u) env (b && c) := fun H0 M0 H M fps σ Q k q => by
  refine ha H0 M0 H M fps σ _ k fun H1 M1 x1 => ?_
  cases b with
  | true => exact hb rfl H0 M0 H1 M1 fps σ Q (k.ext x1) fun H2 M2 x2 => q H2 M2 (x1.trans x2)
  | false => exact q H1 M1 x1
theorem t_or {t u : TT} {b c : Bool} (ha : Pt K t env b) (hb : b = false → Pt K u env c) : Pt K (tOr t u) env (b || c) := fun H0 M0 H M fps σ Q k q => by
  refine ha H0 M0 H M fps σ _ k fun H1 M1 x1 => ?_
  cases b with
  | false => exact hb rfl H0 M0 H1 M1 fps σ Q (k.ext x1) fun H2 M2 x2 => q H2 M2 (x1.trans x2)
  | true => exact q H1 M1 x1
theorem t_not {t : TT} {b : Bool} (ha : Pt K t env b) : Pt K (tNot t) env (!b) := fun H0 M0 H M fps σ Q k q => ha H0 M0 H M fps σ _ k q
theorem t_yes : Pt K tYes env true := fun H0 M0 H M fps σ Q k q => q H M (Ext.refl k.sub)
theorem e_and {ta tb : TE} {b c : Bool} (ha : Pe K ta env (.bool b)) (hb : b = true → Pe K tb env (.bool c)) : Pe K (tAndV ta tb) env (.bool (b && c)) := fun H0 M0 H M fps σ Q k q => by
  refine ha H0 M0 H M fps σ _ k fun x H1 M1 x1 dx => ⟨b, dq_bool dx, ?_⟩
  cases b with
  | true => exact hb rfl H0 M0 H1 M1 fps σ Q (k.ext x1) fun v H2 M2 x2 dv => q v H2 M2 (x1.trans x2) dv
  | false => exact q _ H1 M1 x1 (.bl _)
theorem e_or {ta tb : TE} {b c : Bool} (ha : Pe K ta env (.bool b)) (hb : b = false → Pe K tb env (.bool c)) : Pe K (tOrV ta tb) env (.bool (b || c)) := fun H0 M0 H M fps σ Q k q => by
  refine ha H0 M0 H M fps σ _ k fun x H1 M1 x1 dx => ⟨b, dq_bool dx, ?_⟩
  cases b with
  | false => exact hb rfl H0 M0 H1 M1 fps σ Q (k.ext x1) fun v H2 M2 x2 dv => q v H2 M2 (x1.trans x2) dv
  | true => exact q _ H1 M1 x1 (.bl _)
theorem e_not {ta : TE} {b : Bool} (ha : Pe K ta env (.bool b)) : Pe K (tNotV ta) env (.bool (!b)) := fun H0 M0 H M fps σ Q k q =>
  ha H0 M0 H M fps σ _ k fun x H1 M1 x1 dx => ⟨b, dq_bool dx, q _ H1 M1 x1 (.bl _)⟩
theorem e_chain {r r' : R2} {ta tb tc : TE} {d e f : PyData} {b c : Bool} (ha : Pe K ta env d) (hb : Pe K tb env e) (hr : Po K r d e (.bool b)) (hc : b = true → Pe K tc env f) (hr' : b = true → Po K r' e f (.bool c)) : Pe K (tChain r r' ta tb tc) env (.bool (b && c)) := fun H0 M0 H M fps σ Q k q => by
  refine ha H0 M0 H M fps σ _ k fun x H1 M1 x1 dx => hb H0 M0 H1 M1 fps σ _ (k.ext x1) fun y H2 M2 x2 dy => hr H2 M2 x y _ x2.s (Dq.same x2.m dx) dy fun v H3 M3 x3 dv => ⟨b, dq_bool dv, ?_⟩
  cases b with
  | true => exact hc rfl H0 M0 H3 M3 fps σ _ (k.ext ((x1.trans x2).trans x3)) fun w H4 M4 x4 dw => hr' rfl H4 M4 y w Q x4.s (Dq.same (x3.m.trans x4.m) dy) dw fun z H5 M5 x5 dz => q z H5 M5 ((((x1.trans x2).trans x3).trans x4).trans x5) dz
  | false => exact q _ H3 M3 ((x1.trans x2).trans x3) (.bl _)
end
/-! ### operators -/
section
variable {K : PySem.W.Frag}
theorem o_i0 {f : Int → Int → Int} {i j : Int} : Po K (rI0 fun i j => .int (f i j)) (.int i) (.int j) (.int (f i j)) := fun H M x y Q s hx hy q => ⟨i, j, dq_int hx, dq_int hy, q _ H M (Ext.refl s) (.int _)⟩
theorem o_b0 {f : Int → Int → Bool} {i j : Int} : Po K (rI0 fun i j => .bl (f i j)) (.int i) (.int j) (.bool (f i j)) := fun H M x y Q s hx hy q => ⟨i, j, dq_int hx, dq_int hy, q _ H M (Ext.refl s) (.bl _)⟩
theorem o_iC {C : Int → Int → Prop} {f : Int → Int → Int} {i j : Int} (h : C i j) : Po K (rI C fun i j => .int (f i j)) (.int i) (.int j) (.int (f i j)) := fun H M x y Q s hx hy q => ⟨i, j, dq_int hx, dq_int hy, h, q _ H M (Ext.refl s) (.int _)⟩
theorem o_eqI {i j : Int} : Po K rEq (.int i) (.int j) (.bool (decide (i = j))) := fun H M x y Q s hx hy q => by
  rw [dq_int hx, dq_int hy]
  refine ⟨rfl, ?_⟩
  rw [show decide (V.int i = V.int j) = decide (i = j) by
    by_cases c : i = j
    · subst c; simp
    · rw [decide_eq_false c]; exact decide_eq_false fun z => c (V.int.inj z)]
  exact q _ H M (Ext.refl s) (.bl _)
theorem o_neI {i j : Int} : Po K rNe (.int i) (.int j) (.bool (!decide (i = j))) := fun H M x y Q s hx hy q => by
  rw [dq_int hx, dq_int hy]
  refine ⟨rfl, ?_⟩
  rw [show decide (V.int i = V.int j) = decide (i = j) by
    by_cases c : i = j
    · subst c; simp
    · rw [decide_eq_false c]; exact decide_eq_false fun z => c (V.int.inj z)]
  exact q _ H M (Ext.refl s) (.bl _)
theorem o_eqS {i j : Str} : Po K rEq (.str i) (.str j) (.bool (decide (i = j))) := fun H M x y Q s hx hy q => by
  rw [dq_str hx, dq_str hy]
  refine ⟨rfl, ?_⟩
  rw [show decide (V.str i = V.str j) = decide (i = j) by
    by_cases c : i = j
    · subst c; simp
    · rw [decide_eq_false c]; exact decide_eq_false fun z => c (V.str.inj z)]
  exact q _ H M (Ext.refl s) (.bl _)
theorem o_neS {i j : Str} : Po K rNe (.str i) (.str j) (.bool (!decide (i = j))) := fun H M x y Q s hx hy q => by
  rw [dq_str hx, dq_str hy]
  refine ⟨rfl, ?_⟩
  rw [show decide (V.str i = V.str j) = decide (i = j) by
    by_cases c : i = j
    · subst c; simp
    · rw [decide_eq_false c]; exact decide_eq_false fun z => c (V.str.inj z)]
  exact q _ H M (Ext.refl s) (.bl _)
theorem o_eqB {i j : Bool} : Po K rEq (.bool i) (.bool j) (.bool (decide (i = j))) := fun H M x y Q s hx hy q => by
  rw [dq_bool hx, dq_bool hy]
  refine ⟨rfl, ?_⟩
  rw [show decide (V.bl i = V.bl j) = decide (i = j) by cases i <;> cases j <;> rfl]
  exact q _ H M (Ext.refl s) (.bl _)
theorem o_neB {i j : Bool} : Po K rNe (.bool i) (.bool j) (.bool (!decide (i = j))) := fun H M x y Q s hx hy q => by
  rw [dq_bool hx, dq_bool hy]
  refine ⟨rfl, ?_⟩
  rw [show decide (V.bl i = V.bl j) = decide (i = j) by cases i <;> cases j <;> rfl]
  exact q _ H M (Ext.refl s) (.bl _)
def isN : PyData → Bool
  | .none => true
  | _ => false
theorem isN_iff {M : Hp} {v : V} {d : PyData} (h : Dq K M v d) : decide (v = .non) = isN d := by
  cases h <;> rfl
theorem o_isN {d : PyData} : Po K (fun x y H Q => y = .non ∧ Q (.bl (decide (x = .non))) H) d .none (.bool (isN d)) := fun H M x y Q s hx hy q => ⟨dq_non hy, by rw [isN_iff hx]; exact q _ H M (Ext.refl s) (.bl _)⟩
theorem o_notN {d : PyData} : Po K (fun x y H Q => y = .non ∧ Q (.bl (!decide (x = .non))) H) d .none (.bool (!isN d)) := fun H M x y Q s hx hy q => ⟨dq_non hy, by rw [isN_iff hx]; exact q _ H M (Ext.refl s) (.bl _)⟩
theorem o_addS {a b : Str} (h : a.length + b.length ≤ sizeLine) : Po K (fun x y H Q => ∃ i j, x = .str i ∧ y = .str j ∧ i.length + j.length ≤ sizeLine ∧ Q (.str (i ++ j)) H) (.str a) (.str b) (.str (a ++ b)) := fun H M x y Q s hx hy q =>
  ⟨a, b, dq_str hx, dq_str hy, h, q _ H M (Ext.refl s) (.str _)⟩
theorem o_inS {c : Nat} {z : Str} : Po K (fun x y H Q => ∃ (c : Nat) (z : Str), x = .str ⟨#[c]⟩ ∧ y = .str z ∧ Q (.bl (decide (c ∈ z.cps.toList))) H) (.str ⟨#[c]⟩) (.str z) (.bool (decide (c ∈ z.cps.toList))) := fun H M x y Q s hx hy q =>
  ⟨c, z, dq_str hx, dq_str hy, q _ H M (Ext.refl s) (.bl _)⟩
theorem dq_lstI {M : Hp} {v : V} {ds : List PyData} (h : Dq K M v (.list ds)) : ∃ a xs, v = .ref a ∧ M a = some (.lst xs) ∧ DqAll K M xs ds := by
  cases h with | lst h a => exact ⟨_, _, rfl, h, a⟩
theorem dq_tupI {M : Hp} {v : V} {ds : List PyData} (h : Dq K M v (.tuple ds)) : ∃ a xs, v = .ref a ∧ SqT K M a xs ∧ DqAll K M xs ds := by
  cases h with | tup h a => exact ⟨_, _, rfl, h, a⟩
theorem o_cat {ds es : List PyData} (h : ds.length + es.length ≤ sizeLine) : Po K rCat (.list ds) (.list es) (.list (ds ++ es)) := fun H M x y Q s hx hy q => by
  obtain ⟨a, xs, rfl, h1, h2⟩ := dq_lstI hx
  obtain ⟨b, ys, rfl, h3, h4⟩ := dq_lstI hy
  refine ⟨a, b, xs, ys, rfl, rfl, s _ _ h1, s _ _ h3, by rw [DqAll.len h2, DqAll.len h4]; exact h, fun p hp => ?_⟩
  exact q _ _ _ (Ext.laid s hp) (.lst upd_same (DqAll.same (Ext.laid s hp).m (DqAll.app h2 h4)))
theorem o_catA {ds es : List PyData} (h : ds.length + es.length ≤ sizeLine) : Po K (rCatA K) (.tuple ds) (.tuple es) (.tuple (ds ++ es)) := fun H M x y Q s hx hy q => by
  obtain ⟨a, xs, rfl, h1, h2⟩ := dq_tupI hx
  obtain ⟨b, ys, rfl, h3, h4⟩ := dq_tupI hy
  refine ⟨a, b, xs, ys, rfl, rfl, Same.sqT s h1, Same.sqT s h3, by rw [DqAll.len h2, DqAll.len h4]; exact h, fun e => ?_, fun _ e => ?_, fun _ _ p hp => ?_⟩
  · subst e
    cases h2
    exact q _ H M (Ext.refl s) (.tup h3 h4)
  · subst e
    cases h4
    rw [List.append_nil] at q
    exact q _ H M (Ext.refl s) (.tup h1 h2)
  · exact q _ _ _ (Ext.laid s hp) (.tup (SqT.of upd_same) (DqAll.same (Ext.laid s hp).m (DqAll.app h2 h4)))
theorem dq_at {M : Hp} {vs : List V} {ds : List PyData} {i : Int} {d : PyData} (h : DqAll K M vs ds) (e : atI ds i = some d) : ∃ v, atI vs i = some v ∧ Dq K M v d := by
  unfold atI at e ⊢
  rw [DqAll.len h]
  cases c : ixN ds.length i with
  | none => rw [c] at e; cases e
  | some j =>
    rw [c] at e
    obtain ⟨v, h1, h2⟩ := DqAll.get h (show ds[j]? = some d from e)
    exact ⟨v, h1, h2⟩
theorem o_ixL {ds : List PyData} {i : Int} {d : PyData} (e : atI ds i = some d) : Po K (rIxL K) (.list ds) (.int i) d := fun H M x y Q s hx hy q => by
  obtain ⟨a, xs, rfl, h1, h2⟩ := dq_lstI hx
  obtain ⟨v, e1, e2⟩ := dq_at h2 e
  exact ⟨a, xs, i, v, rfl, dq_int hy, SqL.of (s _ _ h1), e1, q v H M (Ext.refl s) e2⟩
theorem o_ixT {ds : List PyData} {i : Int} {d : PyData} (e : atI ds i = some d) : Po K (rIxT K) (.tuple ds) (.int i) d := fun H M x y Q s hx hy q => by
  obtain ⟨a, xs, rfl, h1, h2⟩ := dq_tupI hx
  obtain ⟨v, e1, e2⟩ := dq_at h2 e
  exact ⟨a, xs, i, v, rfl, dq_int hy, Same.sqT s h1, e1, q v H M (Ext.refl s) e2⟩
theorem o_ixS {z : Str} {i : Int} {c : Nat} (hz : z.length ≤ sizeLine) (e : atI z.cps.toList i = some c) : Po K rIxS (.str z) (.int i) (.str ⟨#[c]⟩) := fun H M x y Q s hx hy q =>
  ⟨z, i, c, dq_str hx, dq_int hy, hz, e, q _ H M (Ext.refl s) (.str _)⟩
theorem o_eqD {d e : PyData} (hd : SeqAt.shaped d = true) (he : SeqAt.shaped e = true) : Po K (rEqD K) d e (.bool (PyData.eqv d e)) := fun H M x y Q s hx hy q =>
  ⟨d, e, Dq.dp (Dq.same s hx) (SeqAt.canLay_of_shaped hd), Dq.dp (Dq.same s hy) (SeqAt.canLay_of_shaped he), hd, he, q _ H M (Ext.refl s) (.bl _)⟩
theorem o_neD {d e : PyData} (hd : SeqAt.shaped d = true) (he : SeqAt.shaped e = true) : Po K (rNeD K) d e (.bool (!PyData.eqv d e)) := fun H M x y Q s hx hy q =>
  ⟨d, e, Dq.dp (Dq.same s hx) (SeqAt.canLay_of_shaped hd), Dq.dp (Dq.same s hy) (SeqAt.canLay_of_shaped he), hd, he, q _ H M (Ext.refl s) (.bl _)⟩
theorem u_i {f : Int → Int} {i : Int} : Pu K (rU fun i => .int (f i)) (.int i) (.int (f i)) := fun H M x Q s hx q => ⟨i, dq_int hx, q _ H M (Ext.refl s) (.int _)⟩
/-! ### builtins -/
theorem dqA_nil {M : Hp} {vs : List V} (h : DqAll K M vs []) : vs = [] := by cases h; rfl
theorem dqA_one {M : Hp} {vs : List V} {d : PyData} (h : DqAll K M vs [d]) : ∃ v, vs = [v] ∧ Dq K M v d := by
  cases h with | cons a b => rw [dqA_nil b]; exact ⟨_, rfl, a⟩
theorem dqA_two {M : Hp} {vs : List V} {d e : PyData} (h : DqAll K M vs [d, e]) : ∃ v w, vs = [v, w] ∧ Dq K M v d ∧ Dq K M w e := by
  cases h with | cons a b =>
    obtain ⟨w, e1, e2⟩ := dqA_one b
    rw [e1]; exact ⟨_, w, rfl, a, e2⟩
theorem c_lenL {ds : List PyData} : Pc K (fun xs H Q => ∃ p ys, xs = [.ref p] ∧ (SqL K H p ys ∨ SqT K H p ys) ∧ Q (.int ys.length) H) [.list ds] (.int ds.length) := fun H M vs Q s h0 q => by
  obtain ⟨v, rfl, h⟩ := dqA_one h0
  obtain ⟨a, xs, rfl, h1, h2⟩ := dq_lstI h
  refine ⟨a, xs, rfl, .inl (SqL.of (s _ _ h1)), ?_⟩
  rw [DqAll.len h2]; exact q _ H M (Ext.refl s) (.int _)
theorem c_lenT {ds : List PyData} : Pc K (fun xs H Q => ∃ p ys, xs = [.ref p] ∧ (SqL K H p ys ∨ SqT K H p ys) ∧ Q (.int ys.length) H) [.tuple ds] (.int ds.length) := fun H M vs Q s h0 q => by
  obtain ⟨v, rfl, h⟩ := dqA_one h0
  obtain ⟨a, xs, rfl, h1, h2⟩ := dq_tupI h
  refine ⟨a, xs, rfl, .inr (Same.sqT s h1), ?_⟩
  rw [DqAll.len h2]; exact q _ H M (Ext.refl s) (.int _)
theorem c_lenS {z : Str} (hz : z.length ≤ sizeLine) : Pc K (fun xs H Q => ∃ z, xs = [.str z] ∧ z.length ≤ sizeLine ∧ Q (.int z.length) H) [.str z] (.int z.length) := fun H M vs Q s h0 q => by
  obtain ⟨v, rfl, h⟩ := dqA_one h0
  rw [dq_str h]
  exact ⟨z, rfl, hz, q _ H M (Ext.refl s) (.int _)⟩
theorem c_int {i : Int} : Pc K (fun xs H Q => (∃ i, xs = [.int i] ∧ Q (.int i) H) ∨ ∃ k, xs = [.bl k] ∧ Q (.int (if k then 1 else 0)) H) [.int i] (.int i) := fun H M vs Q s h0 q => by
  obtain ⟨v, rfl, h⟩ := dqA_one h0
  rw [dq_int h]
  exact .inl ⟨i, rfl, q _ H M (Ext.refl s) (.int _)⟩
theorem c_intB {b : Bool} : Pc K (fun xs H Q => (∃ i, xs = [.int i] ∧ Q (.int i) H) ∨ ∃ k, xs = [.bl k] ∧ Q (.int (if k then 1 else 0)) H) [.bool b] (.int (if b = true then 1 else 0)) := fun H M vs Q s h0 q => by
  obtain ⟨v, rfl, h⟩ := dqA_one h0
  rw [dq_bool h]
  exact .inr ⟨b, rfl, q _ H M (Ext.refl s) (.int _)⟩
theorem c_ord {z : Str} (hz : z.length = 1) : Pc K (fun xs H Q => ∃ x, xs = [.str x] ∧ x.length = 1 ∧ Q (.int (x.cps.getD 0 0 : Nat)) H) [.str z] (.int (z.cps.getD 0 0 : Nat)) := fun H M vs Q s h0 q => by
  obtain ⟨v, rfl, h⟩ := dqA_one h0
  rw [dq_str h]
  exact ⟨z, rfl, hz, q _ H M (Ext.refl s) (.int _)⟩
theorem c_max2 {i j : Int} : Pc K (fun xs H Q => ∃ i j, xs = [.int i, .int j] ∧ Q (.int (if j > i then j else i)) H) [.int i, .int j] (.int (if j > i then j else i)) := fun H M vs Q s h0 q => by
  obtain ⟨v, w, rfl, h, h'⟩ := dqA_two h0
  rw [dq_int h, dq_int h']
  exact ⟨i, j, rfl, q _ H M (Ext.refl s) (.int _)⟩
theorem c_min2 {i j : Int} : Pc K (fun xs H Q => ∃ i j, xs = [.int i, .int j] ∧ Q (.int (if j < i then j else i)) H) [.int i, .int j] (.int (if j < i then j else i)) := fun H M vs Q s h0 q => by
  obtain ⟨v, w, rfl, h, h'⟩ := dqA_two h0
  rw [dq_int h, dq_int h']
  exact ⟨i, j, rfl, q _ H M (Ext.refl s) (.int _)⟩
theorem c_listL {ds : List PyData} : Pc K (fun xs H Q => ∃ p ys, xs = [.ref p] ∧ (SqL K H p ys ∨ SqT K H p ys) ∧ ∀ l, H l = none → Q (.ref l) (upd H l (.lst ys))) [.list ds] (.list ds) := fun H M vs Q s h0 q => by
  obtain ⟨v, rfl, h⟩ := dqA_one h0
  obtain ⟨a, xs, rfl, h1, h2⟩ := dq_lstI h
  exact ⟨a, xs, rfl, .inl (SqL.of (s _ _ h1)), fun p hp => q _ _ _ (Ext.laid s hp) (.lst upd_same (DqAll.same (Ext.laid s hp).m h2))⟩
theorem c_listT {ds : List PyData} : Pc K (fun xs H Q => ∃ p ys, xs = [.ref p] ∧ (SqL K H p ys ∨ SqT K H p ys) ∧ ∀ l, H l = none → Q (.ref l) (upd H l (.lst ys))) [.tuple ds] (.list ds) := fun H M vs Q s h0 q => by
  obtain ⟨v, rfl, h⟩ := dqA_one h0
  obtain ⟨a, xs, rfl, h1, h2⟩ := dq_tupI h
  exact ⟨a, xs, rfl, .inr (Same.sqT s h1), fun p hp => q _ _ _ (Ext.laid s hp) (.lst upd_same (DqAll.same (Ext.laid s hp).m h2))⟩
theorem c_tupL {ds : List PyData} : Pc K (fun xs H Q => ∃ p ys, xs = [.ref p] ∧ ((SqL K H p ys ∧ ∀ l, H l = none → Q (.ref l) (upd H l (.tup ys))) ∨ (SqT K H p ys ∧ Q (.ref p) H))) [.list ds] (.tuple ds) := fun H M vs Q s h0 q => by
  obtain ⟨v, rfl, h⟩ := dqA_one h0
  obtain ⟨a, xs, rfl, h1, h2⟩ := dq_lstI h
  exact ⟨a, xs, rfl, .inl ⟨SqL.of (s _ _ h1), fun p hp => q _ _ _ (Ext.laid s hp) (.tup (SqT.of upd_same) (DqAll.same (Ext.laid s hp).m h2))⟩⟩
theorem c_tupT {ds : List PyData} : Pc K (fun xs H Q => ∃ p ys, xs = [.ref p] ∧ ((SqL K H p ys ∧ ∀ l, H l = none → Q (.ref l) (upd H l (.tup ys))) ∨ (SqT K H p ys ∧ Q (.ref p) H))) [.tuple ds] (.tuple ds) := fun H M vs Q s h0 q => by
  obtain ⟨v, rfl, h⟩ := dqA_one h0
  obtain ⟨a, xs, rfl, h1, h2⟩ := dq_tupI h
  exact ⟨a, xs, rfl, .inr ⟨Same.sqT s h1, q _ H M (Ext.refl s) (.tup h1 h2)⟩⟩
end
end Y


/-! ### statements over such states -/
namespace Y
open PySem L2
abbrev EnvP := List Sl → Prop
def NxOk (K : PySem.W.Frag) (H0 M0 : Hp) (N : L2.St → Hp → Prop) (E : EnvP) : Prop := ∀ env σ H M fps, E env → Ok K H0 M0 env fps σ H M → N σ H
/-- what a def gives: data, or a new list of its own -/
inductive Rt where
  | dat (R : PyData → Prop)
  | lst (R : List PyData → Prop)
def RtOk (K : PySem.W.Frag) (H0 M0 : Hp) (rt : VK) : Rt → Prop
  | .dat R => ∀ v d H' M', R d → Ext H0 M0 H' M' → Dq K M' v d → rt v H'
  | .lst R => ∀ p vs ds H' M', R ds → Ext H0 M0 H' M' → H0 p = none → M' p = none → H' p = some (.lst vs) → DqAll K M' vs ds → rt (.ref p) H'
/-- a block: from env it comes to an env of N, breaks with one of B, goes on with one of C, or returns data of R -/
def Ps (K : PySem.W.Frag) (R : Rt) (B C : EnvP) (t : TS) (env : List Sl) (N : EnvP) : Prop := ∀ (H0 M0 : Hp) (D : Ends) (σ : L2.St) (H M : Hp) (fps : List (List Addr)), Ok K H0 M0 env fps σ H M →
  RtOk K H0 M0 D.rt R → NxOk K H0 M0 D.nx N → NxOk K H0 M0 D.bk B → NxOk K H0 M0 D.ct C → t D σ H
section
variable {K : PySem.W.Frag} {R : Rt} {B C N : EnvP} {env : List Sl} {t u v : TS}
theorem s_assoc (h : Ps K R B C (tSeq t (tSeq u v)) env N) : Ps K R B C (tSeq (tSeq t u) v) env N := fun H0 M0 D σ H M fps k r n b c => h H0 M0 D σ H M fps k r n b c
theorem s_next (h : N env) : Ps K R B C tNext env N := fun H0 M0 D σ H M fps k r n b c => n env σ H M fps h k
theorem s_seq_next (h : Ps K R B C u env N) : Ps K R B C (tSeq tNext u) env N := fun H0 M0 D σ H M fps k r n b c => h H0 M0 D σ H M fps k r n b c
theorem s_brk (h : B env) : Ps K R B C tBreak env N := fun H0 M0 D σ H M fps k r n b c => b env σ H M fps h k
theorem s_cont (h : C env) : Ps K R B C tCont env N := fun H0 M0 D σ H M fps k r n b c => c env σ H M fps h k
theorem s_seq_brk (h : B env) : Ps K R B C (tSeq tBreak u) env N := fun H0 M0 D σ H M fps k r n b c => b env σ H M fps h k
theorem s_seq_cont (h : C env) : Ps K R B C (tSeq tCont u) env N := fun H0 M0 D σ H M fps k r n b c => c env σ H M fps h k
theorem s_ret {R : PyData → Prop} {te : TE} {d : PyData} (he : Pe K te env d) (hR : R d) : Ps K (.dat R) B C (tRet te) env N := fun H0 M0 D σ H M fps k r n b c =>
  he H0 M0 H M fps σ _ k fun v H1 M1 x1 dv => r v d H1 M1 hR (k.out.trans x1) dv
theorem s_seq_ret {R : PyData → Prop} {te : TE} {d : PyData} (he : Pe K te env d) (hR : R d) : Ps K (.dat R) B C (tSeq (tRet te) u) env N := fun H0 M0 D σ H M fps k r n b c =>
  he H0 M0 H M fps σ _ k fun v H1 M1 x1 dv => r v d H1 M1 hR (k.out.trans x1) dv
theorem s_set {i : Nat} {te : TE} {d : PyData} (he : Pe K te env d) (h : N (env.set i (.val d))) : Ps K R B C (tAsg te (gName i)) env N := fun H0 M0 D σ H M fps k r n b c =>
  he H0 M0 H M fps σ _ k fun v H1 M1 x1 dv => n _ _ _ _ _ h ((k.ext x1).setV dv)
theorem s_seq_set {i : Nat} {te : TE} {d : PyData} (he : Pe K te env d) (h : Ps K R B C u (env.set i (.val d)) N) : Ps K R B C (tSeq (tAsg te (gName i)) u) env N := fun H0 M0 D σ H M fps k r n b c =>
  he H0 M0 H M fps σ _ k fun v H1 M1 x1 dv => h H0 M0 D _ _ _ _ ((k.ext x1).setV dv) r n b c
theorem s_drop {te : TE} {d : PyData} (he : Pe K te env d) (h : N env) : Ps K R B C (tDrop te) env N := fun H0 M0 D σ H M fps k r n b c =>
  he H0 M0 H M fps σ _ k fun v H1 M1 x1 dv => n _ _ _ _ _ h (k.ext x1)
theorem s_seq_drop {te : TE} {d : PyData} (he : Pe K te env d) (h : Ps K R B C u env N) : Ps K R B C (tSeq (tDrop te) u) env N := fun H0 M0 D σ H M fps k r n b c =>
  he H0 M0 H M fps σ _ k fun v H1 M1 x1 dv => h H0 M0 D _ _ _ _ (k.ext x1) r n b c
theorem s_if {c : TT} {b : Bool} (hc : Pt K c env b) (ht : b = true → Ps K R B C t env N) (hu : b = false → Ps K R B C u env N) : Ps K R B C (tIfS c t u) env N := fun H0 M0 D σ H M fps k r n bb cc => by
  refine hc H0 M0 H M fps σ _ k fun H1 M1 x1 => ?_
  cases b with
  | true => exact ht rfl H0 M0 D σ H1 M1 fps (k.ext x1) r n bb cc
  | false => exact hu rfl H0 M0 D σ H1 M1 fps (k.ext x1) r n bb cc
theorem s_seq_if {c : TT} {b : Bool} (hc : Pt K c env b) (ht : b = true → Ps K R B C (tSeq t v) env N) (hu : b = false → Ps K R B C (tSeq u v) env N) : Ps K R B C (tSeq (tIfS c t u) v) env N := fun H0 M0 D σ H M fps k r n bb cc => by
  refine hc H0 M0 H M fps σ _ k fun H1 M1 x1 => ?_
  cases b with
  | true => exact ht rfl H0 M0 D σ H1 M1 fps (k.ext x1) r n bb cc
  | false => exact hu rfl H0 M0 D σ H1 M1 fps (k.ext x1) r n bb cc
/-- a cut: what holds behind t -/
theorem s_mid (Mid : EnvP) (h : Ps K R B C t env Mid) (h2 : ∀ e, Mid e → Ps K R B C u e N) : Ps K R B C (tSeq t u) env N := fun H0 M0 D σ H M fps k r n b c =>
  h H0 M0 { D with nx := u D } σ H M fps k r (fun e σ1 H1 M1 fps1 he k1 => h2 e he H0 M0 D σ1 H1 M1 fps1 k1 r n b c) b c
theorem s_aug {i : Nat} {te : TE} {ti : TIp} {d e c : PyData} (hi : env[i]? = some (.val d)) (he : Pe K te env e) (hr : Po K ti d e c) (h : N (env.set i (.val c))) : Ps K R B C (tAug i te ti) env N := fun H0 M0 D σ H M fps k r n b cc => by
  obtain ⟨v, e1, e2⟩ := k.sls.get hi
  refine ⟨v, e1, he H0 M0 H M fps σ _ k fun y H1 M1 x1 dy => hr H1 M1 v y _ x1.s (Dq.same x1.m e2) dy fun z H2 M2 x2 dz => n _ _ _ _ _ h (((k.ext x1).ext x2).setV dz)⟩
theorem s_seq_aug {i : Nat} {te : TE} {ti : TIp} {d e c : PyData} (hi : env[i]? = some (.val d)) (he : Pe K te env e) (hr : Po K ti d e c) (h : Ps K R B C u (env.set i (.val c)) N) : Ps K R B C (tSeq (tAug i te ti) u) env N := fun H0 M0 D σ H M fps k r n b cc => by
  obtain ⟨v, e1, e2⟩ := k.sls.get hi
  refine ⟨v, e1, he H0 M0 H M fps σ _ k fun y H1 M1 x1 dy => hr H1 M1 v y _ x1.s (Dq.same x1.m e2) dy fun z H2 M2 x2 dz => h H0 M0 D _ _ _ _ (((k.ext x1).ext x2).setV dz) r n b cc⟩
theorem o_ip {f : Int → Int → Int} {i j : Int} : Po K (ipI f) (.int i) (.int j) (.int (f i j)) := fun H M x y Q s hx hy q => ⟨i, j, dq_int hx, dq_int hy, q _ H M (Ext.refl s) (.int _)⟩
end
/-! ### own lists -/
def ownL (K : PySem.W.Frag) (ds : List PyData) : Sl := .res fun v M H fp => ∃ p vs, v = .ref p ∧ fp = [p] ∧ H p = some (.lst vs) ∧ DqAll K M vs ds
theorem stab_own {K : PySem.W.Frag} {ds : List PyData} : Stab (ownL K ds) := fun v M H M' H' fp m h ⟨p, vs, e1, e2, e3, e4⟩ => ⟨p, vs, e1, e2, by rw [h p (by rw [e2]; exact List.mem_singleton.mpr rfl)]; exact e3, DqAll.same m e4⟩
section
variable {K : PySem.W.Frag} {H0 M0 H M H' M' : Hp} {env : List Sl} {fps : List (List Addr)} {σ : L2.St}
theorem SlsOk.getR : ∀ {env : List Sl} {σ : L2.St} {fps : List (List Addr)} {i : Nat} {P}, SlsOk K M H env σ fps → env[i]? = some (.res P) → ∃ v fp, σ[i]? = some (some v) ∧ fps[i]? = some fp ∧ P v M H fp
  | _, _, _, 0, _, .cons a _, h => by
    have e := Option.some.inj h
    subst e
    obtain ⟨v, e2, e3⟩ := a
    exact ⟨v, _, by rw [e2]; rfl, rfl, e3⟩
  | _, _, _, i + 1, _, .cons _ b, h => SlsOk.getR b (i := i) (by simpa using h)
  | _, _, _, i, _, .nil, h => by simp at h
theorem mem_flat {fps : List (List Addr)} {i : Nat} {fp : List Addr} {a : Addr} (h : fps[i]? = some fp) (ha : a ∈ fp) : a ∈ fps.flatten := List.mem_flatten.mpr ⟨fp, List.mem_of_getElem? h, ha⟩
/-- the addresses of other slots are others -/
theorem flat_other : ∀ {fps : List (List Addr)} {i : Nat} {fp : List Addr} {a b : Addr}, fps.flatten.Nodup → fps[i]? = some fp → a ∈ fp → b ∈ (fps.set i []).flatten → b ≠ a
  | f :: fps, 0, fp, a, b, nd, h, ha, hb, z => by
    have e := Option.some.inj h
    subst e
    rw [List.set_cons_zero, List.flatten_cons, List.nil_append] at hb
    rw [List.flatten_cons, List.nodup_append] at nd
    exact nd.2.2 a ha b hb z.symm
  | f :: fps, i + 1, fp, a, b, nd, h, ha, hb, z => by
    have h' : fps[i]? = some fp := by simpa using h
    rw [List.set_cons_succ, List.flatten_cons, List.mem_append] at hb
    rw [List.flatten_cons, List.nodup_append] at nd
    rcases hb with hb | hb
    · exact nd.2.2 b hb a (mem_flat h' ha) z
    · exact flat_other nd.2.1 h' ha hb z
theorem SlsOk.monoAt {s : Sl} (k : Same M M') : ∀ {env : List Sl} {σ : L2.St} {fps : List (List Addr)} {i : Nat} {fp' : List Addr}, (∀ s ∈ env, Stab s) → (∀ a ∈ (fps.set i []).flatten, H' a = H a) → SlsOk K M H env σ fps → (∀ o, σ[i]? = some o → SlOk K M' H' s o fp') → SlsOk K M' H' (env.set i s) σ (fps.set i fp')
  | _, _, _, _, _, _, _, .nil, _ => .nil
  | _, _, _, 0, _, st, h, .cons a b, x => .cons (x _ rfl) (SlsOk.mono k (fun s hs => st s (List.mem_cons_of_mem _ hs)) (fun y hy => h y (by rw [List.set_cons_zero, List.flatten_cons, List.nil_append]; exact hy)) b)
  | _, _, _, i + 1, _, st, h, .cons a b, x => .cons (SlOk.mono (st _ List.mem_cons_self) k (fun y hy => h y (by rw [List.set_cons_succ, List.flatten_cons]; exact List.mem_append_left _ hy)) a)
      (SlsOk.monoAt k (fun s hs => st s (List.mem_cons_of_mem _ hs)) (fun y hy => h y (by rw [List.set_cons_succ, List.flatten_cons]; exact List.mem_append_right _ hy)) b (fun o ho => x o (by simpa using ho)))
theorem set_same_mem : ∀ {fps : List (List Addr)} {i : Nat} {fp : List Addr}, fps[i]? = some fp → fps.set i fp = fps
  | f :: fps, 0, fp, h => by rw [List.set_cons_zero, ← Option.some.inj h]
  | f :: fps, i + 1, fp, h => by rw [List.set_cons_succ, set_same_mem (by simpa using h)]
/-- an own list changes -/
theorem Ok.put {i : Nat} {ds es : List PyData} {p : Addr} {vs ws : List V} (k : Ok K H0 M0 env fps σ H M) (hp : σ[i]? = some (some (.ref p))) (hf : fps[i]? = some [p]) (hw : DqAll K M ws es) :
    Ok K H0 M0 (env.set i (ownL K es)) fps σ (upd H p (.lst ws)) M := by
  obtain ⟨e1, e2, e3⟩ := k.own p (mem_flat hf (List.mem_singleton.mpr rfl))
  have hs : Same H0 (upd H p (.lst ws)) := fun a u e => by
    rw [upd_ne (fun z => by rw [z, e1] at e; cases e)]; exact k.base a u e
  refine ⟨hs, fun a u e => ?_, k.grow, k.new, ?_, k.nd, fun a ha => ?_, stab_set stab_own k.stab⟩
  · rw [upd_ne (fun z => by rw [z, e2] at e; cases e)]; exact k.sub a u e
  · have := SlsOk.monoAt (s := ownL K es) (H' := upd H p (.lst ws)) (i := i) (fp' := [p]) (Same.refl M) k.stab (fun a ha => upd_ne (flat_other k.nd hf (List.mem_singleton.mpr rfl) ha)) k.sls (fun o ho => ?_)
    · rw [set_same_mem hf] at this; exact this
    · rw [hp] at ho
      exact ⟨.ref p, (Option.some.inj ho).symm, p, ws, rfl, rfl, upd_same, hw⟩
  · obtain ⟨f1, f2, f3⟩ := k.own a ha
    refine ⟨f1, f2, fun z => ?_⟩
    by_cases c : a = p
    · subst c; rw [upd_same] at z; cases z
    · rw [upd_ne c] at z; exact f3 z
theorem flat_memP {p : Addr} : ∀ {fps : List (List Addr)} {i : Nat} {a : Addr}, a ∈ (fps.set i [p]).flatten → a = p ∨ a ∈ (fps.set i []).flatten := by
    intro fps
    induction fps with
    | nil => intro i a h; exact nomatch h
    | cons f fps ih =>
      intro i a h
      cases i with
      | zero =>
        rw [List.set_cons_zero, List.flatten_cons, List.mem_append] at h
        rw [List.set_cons_zero, List.flatten_cons, List.nil_append]
        exact h.imp List.mem_singleton.mp id
      | succ i =>
        rw [List.set_cons_succ, List.flatten_cons, List.mem_append] at h
        rw [List.set_cons_succ, List.flatten_cons, List.mem_append]
        rcases h with h | h
        · exact .inr (.inl h)
        · exact (ih h).imp id .inr
theorem flat_ndP {p : Addr} : ∀ {fps : List (List Addr)} {i : Nat}, fps.flatten.Nodup → (∀ a ∈ fps.flatten, a ≠ p) → (fps.set i [p]).flatten.Nodup := by
    intro fps
    induction fps with
    | nil => intro i h _; exact h
    | cons f fps ih =>
      intro i h hne
      rw [List.flatten_cons, List.nodup_append] at h
      have hne2 : ∀ a ∈ fps.flatten, a ≠ p := fun a ha => hne a (by rw [List.flatten_cons]; exact List.mem_append_right _ ha)
      cases i with
      | zero =>
        rw [List.set_cons_zero, List.flatten_cons, List.nodup_append]
        exact ⟨List.pairwise_singleton _ _, h.2.1, fun x hx y hy e => hne2 y hy (by rw [← e]; exact List.mem_singleton.mp hx)⟩
      | succ i =>
        rw [List.set_cons_succ, List.flatten_cons, List.nodup_append]
        refine ⟨h.1, ih h.2.1 hne2, fun x hx y hy e => ?_⟩
        rcases flat_memP hy with z | z
        · exact hne x (by rw [List.flatten_cons]; exact List.mem_append_left _ hx) (e.trans z)
        · exact h.2.2 x hx y (flat_set z) e
/-- a new own list goes to slot i -/
theorem Ok.setO {i : Nat} {ds : List PyData} {p : Addr} {vs : List V} (k : Ok K H0 M0 env fps σ H M) (hp : H p = none) (hw : DqAll K M vs ds) (hi : i < σ.length) :
    Ok K H0 M0 (env.set i (ownL K ds)) (fps.set i [p]) (σ.set i (some (.ref p))) (upd H p (.lst vs)) M := by
  have mp := none_of k.sub hp
  have bp := none_of k.base hp
  have hfl : ∀ a ∈ fps.flatten, a ≠ p := fun a ha z => by
    subst z
    exact (k.own a ha).2.2 hp
  have hmem := @flat_memP p
  have hnd := @flat_ndP p
  refine ⟨fun a u e => ?_, fun a u e => ?_, k.grow, k.new, ?_, hnd k.nd hfl, fun a ha => ?_, stab_set stab_own k.stab⟩
  · rw [upd_ne (fun z => by rw [z, bp] at e; cases e)]; exact k.base a u e
  · rw [upd_ne (fun z => by rw [z, mp] at e; cases e)]; exact k.sub a u e
  · have h1 : SlsOk K M (upd H p (.lst vs)) env σ fps := SlsOk.mono (Same.refl M) k.stab (fun a ha => upd_ne (hfl a ha)) k.sls
    exact SlsOk.set (s := ownL K ds) (o := some (.ref p)) (fp := [p]) ⟨.ref p, rfl, p, vs, rfl, rfl, upd_same, hw⟩ i h1
  · rcases hmem ha with z | z
    · subst z; exact ⟨bp, mp, by rw [upd_same]; exact fun z => by cases z⟩
    · obtain ⟨f1, f2, f3⟩ := k.own a (flat_set z)
      refine ⟨f1, f2, ?_⟩
      rw [upd_ne (hfl a (flat_set z))]; exact f3
/-- an own list is handed over: it becomes data -/
theorem Ok.froz {i : Nat} {ds : List PyData} (k : Ok K H0 M0 env fps σ H M) (hi : env[i]? = some (ownL K ds)) : ∃ p vs, σ[i]? = some (some (.ref p)) ∧ H p = some (.lst vs) ∧ M p = none ∧ H0 p = none ∧ DqAll K M vs ds ∧ fps[i]? = some [p] ∧
    Ok K H0 M0 (env.set i (.val (.list ds))) (fps.set i []) σ H (upd M p (.lst vs)) := by
  obtain ⟨v, fp, e1, e2, p, vs, rfl, rfl, e3, e4⟩ := k.sls.getR hi
  obtain ⟨f1, f2, f3⟩ := k.own p (mem_flat e2 (List.mem_singleton.mpr rfl))
  have hM : Same M (upd M p (.lst vs)) := fun a u e => by
    rw [upd_ne (fun z => by rw [z, f2] at e; cases e)]; exact e
  refine ⟨p, vs, e1, e3, f2, f1, e4, e2, ⟨k.base, fun a u e => ?_, k.grow.trans hM, fun a u e => ?_, ?_, flat_nodup k.nd, fun a ha => ?_, stab_set (s := .val (.list ds)) True.intro k.stab⟩⟩
  · by_cases z : a = p
    · subst z; rw [upd_same] at e; rw [← Option.some.inj e]; exact e3
    · rw [upd_ne z] at e; exact k.sub a u e
  · by_cases z : a = p
    · subst z; exact .inr f1
    · rw [upd_ne z] at e; exact k.new a u e
  · refine SlsOk.monoAt (s := .val (.list ds)) hM k.stab (fun a ha => rfl) k.sls fun o ho => ?_
    rw [e1] at ho
    exact ⟨rfl, .ref p, (Option.some.inj ho).symm, .lst upd_same (DqAll.same hM e4)⟩
  · obtain ⟨g1, g2, g3⟩ := k.own a (flat_set ha)
    exact ⟨g1, by rw [upd_ne (flat_other k.nd e2 (List.mem_singleton.mpr rfl) ha)]; exact g2, g3⟩
end
section
variable {K : PySem.W.Frag} {R : Rt} {B C N : EnvP} {env : List Sl} {t u v : TS}
/-- from here on the own list at i is data -/
theorem s_froz (i : Nat) {ds : List PyData} (hi : env[i]? = some (ownL K ds)) (h : Ps K R B C t (env.set i (.val (.list ds))) N) : Ps K R B C t env N := fun H0 M0 D σ H M fps k r n b c => by
  obtain ⟨p, vs, e1, e2, e3, e4, e5, e6, k'⟩ := k.froz hi
  exact h H0 M0 D σ H _ _ k' r n b c
/-- i is forgotten -/
theorem s_forget (i : Nat) (h : Ps K R B C t (env.set i .unk) N) : Ps K R B C t env N := fun H0 M0 D σ H M fps k r n b c => by
  have k' := k.setU (i := i) (o := (σ[i]?).getD none)
  rw [show σ.set i ((σ[i]?).getD none) = σ by
    by_cases c : i < σ.length
    · rw [List.getElem?_eq_getElem c]; exact List.set_getElem_self c
    · exact List.set_eq_of_length_le (by omega)] at k'
  exact h H0 M0 D σ H M _ k' r n b c
theorem s_seq_new {i : Nat} {ta : TA} {ds : List PyData} (ha : Pa K ta env ds) (h : Ps K R B C u (env.set i (ownL K ds)) N) (hi : i < env.length) (hl : ds.length ≤ sizeLine) : Ps K R B C (tSeq (tAsg (tLst ta) (gName i)) u) env N := fun H0 M0 D σ H M fps k r n b c =>
  ha H0 M0 H M fps σ _ k fun xs H1 M1 x1 dx => ⟨by rw [DqAll.len dx]; exact hl, fun p hp => h H0 M0 D _ _ M1 _ ((k.ext x1).setO hp dx (by rw [← k.sls.len.1]; exact hi)) r n b c⟩
theorem s_app {i : Nat} {ds : List PyData} {te : TE} {d : PyData} (hi : env[i]? = some (ownL K ds)) (he : Pe K te env d) (hl : ds.length < sizeLine) (h : N (env.set i (ownL K (ds ++ [d])))) : Ps K R B C (tDrop (tBM K "list" rAppend (tVar i) (tCons te tNil))) env N := fun H0 M0 D σ H M fps k r n b c => by
  obtain ⟨v, fp, e1, e2, p, vs, rfl, rfl, e3, e4⟩ := k.sls.getR hi
  refine ⟨.ref p, e1, .inl ⟨rfl, vs, SqL.of e3⟩, he H0 M0 H M fps σ _ k fun y H1 M1 x1 dy => ?_⟩
  refine ⟨p, vs, y, rfl, rfl, x1.h _ _ e3, by rw [DqAll.len e4]; exact hl, n _ _ _ _ _ h ((k.ext x1).put (ds := ds) (vs := vs) e1 e2 (DqAll.app (DqAll.same x1.m e4) (.cons dy .nil)))⟩
theorem s_seq_app {i : Nat} {ds : List PyData} {te : TE} {d : PyData} (hi : env[i]? = some (ownL K ds)) (he : Pe K te env d) (hl : ds.length < sizeLine) (h : Ps K R B C u (env.set i (ownL K (ds ++ [d]))) N) : Ps K R B C (tSeq (tDrop (tBM K "list" rAppend (tVar i) (tCons te tNil))) u) env N :=
  s_mid (fun e => e = env.set i (ownL K (ds ++ [d]))) (s_app hi he hl rfl) fun e he => by rw [he]; exact h
/-- an own list is returned -/
theorem s_retO {R : List PyData → Prop} {i : Nat} {ds : List PyData} (hi : env[i]? = some (ownL K ds)) (hR : R ds) : Ps K (.lst R) B C (tRet (tVar i)) env N := fun H0 M0 D σ H M fps k r n b c => by
  obtain ⟨v, fp, e1, e2, p, vs, rfl, rfl, e3, e4⟩ := k.sls.getR hi
  obtain ⟨f1, f2, f3⟩ := k.own p (mem_flat e2 (List.mem_singleton.mpr rfl))
  exact ⟨.ref p, e1, r p vs ds H M hR k.out f1 f2 e3 e4⟩
theorem s_seq_retO {R : List PyData → Prop} {i : Nat} {ds : List PyData} (hi : env[i]? = some (ownL K ds)) (hR : R ds) : Ps K (.lst R) B C (tSeq (tRet (tVar i)) u) env N := fun H0 M0 D σ H M fps k r n b c => by
  obtain ⟨v, fp, e1, e2, p, vs, rfl, rfl, e3, e4⟩ := k.sls.getR hi
  obtain ⟨f1, f2, f3⟩ := k.own p (mem_flat e2 (List.mem_singleton.mpr rfl))
  exact ⟨.ref p, e1, r p vs ds H M hR k.out f1 f2 e3 e4⟩
/-- an expression that makes a new list -/
def Pf (K : PySem.W.Frag) (t : TE) (env : List Sl) (ds : List PyData) : Prop := ∀ (H0 M0 H M : Hp) (fps : List (List Addr)) (σ : L2.St) (Q : VK), Ok K H0 M0 env fps σ H M →
  (∀ p vs H' M', Ext H M H' M' → H p = none → M' p = none → H' p = some (.lst vs) → DqAll K M' vs ds → Q (.ref p) H') → t σ H Q
/-- a def's promise: told data to a new list -/
def PFO (K : PySem.W.Frag) (R : List PyData → List PyData → Prop) : Sp := fun vs H Q _ => ∃ M ds es, Same M H ∧ DqAll K M vs ds ∧ R ds es ∧ ∀ p ws H' M', Ext H M H' M' → H p = none → M' p = none → H' p = some (.lst ws) → DqAll K M' ws es → Q (.ref p) H'
theorem f_call {R : List PyData → List PyData → Prop} {E : XK} {ta : TA} {ds es : List PyData} (ha : Pa K ta env ds) (hr : R ds es) : Pf K (tCall (PFO K R) [] E ta) env es := fun H0 M0 H M fps σ Q k q =>
  ha H0 M0 H M fps σ _ k fun xs H1 M1 x1 dx => ⟨M1, ds, es, x1.s, by rw [List.append_nil]; exact dx, hr, fun p ws H2 M2 x2 a1 a2 a3 a4 => q p ws H2 M2 (x1.trans x2) (none_of x1.h a1) a2 a3 a4⟩
theorem froz_ext {H M H' M' : Hp} {p : Addr} {vs : List V} {ds : List PyData} (x : Ext H M H' M') (h1 : H p = none) (h2 : M' p = none) (h3 : H' p = some (.lst vs)) (h4 : DqAll K M' vs ds) : Ext H M H' (upd M' p (.lst vs)) ∧ Dq K (upd M' p (.lst vs)) (.ref p) (.list ds) := by
  have hM : Same M' (upd M' p (.lst vs)) := fun a u e => by
    rw [upd_ne (fun z => by rw [z, h2] at e; cases e)]; exact e
  refine ⟨⟨x.h, x.m.trans hM, fun a u e => ?_, fun a u e => ?_⟩, .lst upd_same (DqAll.same hM h4)⟩
  · by_cases z : a = p
    · subst z; rw [upd_same] at e; rw [← Option.some.inj e]; exact h3
    · rw [upd_ne z] at e; exact x.s a u e
  · by_cases z : a = p
    · subst z; exact .inr h1
    · rw [upd_ne z] at e; exact x.n a u e
/-- a new list as data -/
theorem e_of {te : TE} {ds : List PyData} (h : Pf K te env ds) : Pe K te env (.list ds) := fun H0 M0 H M fps σ Q k q =>
  h H0 M0 H M fps σ Q k fun p vs H' M' x h1 h2 h3 h4 => by
    obtain ⟨a, b⟩ := froz_ext x h1 h2 h3 h4
    exact q _ H' _ a b
theorem f_lst {ta : TA} {ds : List PyData} (ha : Pa K ta env ds) (hl : ds.length ≤ sizeLine) : Pf K (tLst ta) env ds := fun H0 M0 H M fps σ Q k q =>
  ha H0 M0 H M fps σ _ k fun xs H1 M1 x1 dx => ⟨by rw [DqAll.len dx]; exact hl, fun p hp => by
    have mp := none_of x1.s hp
    refine q p xs _ M1 ⟨fun a u e => ?_, x1.m, fun a u e => ?_, x1.n⟩ (none_of x1.h hp) mp upd_same dx
    · have e' := x1.h a u e
      rw [upd_ne (fun z => by rw [z, hp] at e'; cases e')]; exact e'
    · rw [upd_ne (fun z => by rw [z, mp] at e; cases e)]; exact x1.s a u e⟩
theorem f_cat {ta tb : TE} {ds es : List PyData} (ha : Pe K ta env (.list ds)) (hb : Pe K tb env (.list es)) (hl : ds.length + es.length ≤ sizeLine) : Pf K (tOp rCat ta tb) env (ds ++ es) := fun H0 M0 H M fps σ Q k q =>
  ha H0 M0 H M fps σ _ k fun x H1 M1 x1 dx => hb H0 M0 H1 M1 fps σ _ (k.ext x1) fun y H2 M2 x2 dy => by
    obtain ⟨a, xs, rfl, h1, h2⟩ := dq_lstI (Dq.same x2.m dx)
    obtain ⟨b, ys, rfl, h3, h4⟩ := dq_lstI dy
    have x12 := x1.trans x2
    refine ⟨a, b, xs, ys, rfl, rfl, x2.s _ _ h1, x2.s _ _ h3, by rw [DqAll.len h2, DqAll.len h4]; exact hl, fun p hp => ?_⟩
    have mp := none_of x2.s hp
    refine q p _ _ M2 ⟨fun a u e => ?_, x12.m, fun a u e => ?_, x12.n⟩ (none_of x12.h hp) mp upd_same (DqAll.app h2 h4)
    · have e' := x12.h a u e
      rw [upd_ne (fun z => by rw [z, hp] at e'; cases e')]; exact e'
    · rw [upd_ne (fun z => by rw [z, mp] at e; cases e)]; exact x12.s a u e
/-- a new list goes to a name: it is the def's own -/
theorem s_seq_setF {i : Nat} {te : TE} {ds : List PyData} (he : Pf K te env ds) (h : Ps K R B C u (env.set i (ownL K ds)) N) (hi : i < env.length) : Ps K R B C (tSeq (tAsg te (gName i)) u) env N := fun H0 M0 D σ H M fps k r n b c =>
  he H0 M0 H M fps σ _ k fun p vs H1 M1 x1 h1 h2 h3 h4 => by
    have nf : ∀ a ∈ fps.flatten, a ≠ p := fun a ha z => (k.own a ha).2.2 (by rw [z]; exact h1)
    refine h H0 M0 D _ _ M1 (fps.set i [p]) ?_ r n b c
    have k1 := k.ext x1
    have z1 : ∀ a ∈ (fps.set i [p]).flatten, a = p ∨ a ∈ fps.flatten := fun a ha => (flat_memP ha).imp id flat_set
    have z2 := flat_ndP (p := p) (i := i) k.nd nf
    exact ⟨k1.base, k1.sub, k1.grow, k1.new, SlsOk.set (s := ownL K ds) (o := some (.ref p)) (fp := [p]) ⟨.ref p, rfl, p, vs, rfl, rfl, h3, h4⟩ i k1.sls, z2, fun a ha => (z1 a ha).elim (fun e => by rw [e]; exact ⟨none_of k.base h1, h2, by rw [h3]; exact fun z => by cases z⟩) (k1.own a), stab_set stab_own k1.stab⟩
theorem s_seq_new0 {i : Nat} (hi : i < env.length) (h : Ps K R B C u (env.set i (ownL K [])) N) : Ps K R B C (tSeq (tAsg (tLst tNil) (gName i)) u) env N :=
  s_seq_setF (f_lst a_nil (by decide)) h hi
theorem s_seq_callF {i : Nat} {Rl : List PyData → List PyData → Prop} {E : XK} {ta : TA} {ds es : List PyData} (ha : Pa K ta env ds) (hr : Rl ds es) (hi : i < env.length) (h : Ps K R B C u (env.set i (ownL K es)) N) : Ps K R B C (tSeq (tAsg (tCall (PFO K Rl) [] E ta) (gName i)) u) env N :=
  s_seq_setF (f_call ha hr) h hi
/-- data without lists in it -/
inductive Fl : PyData → Prop
  | non : Fl .none
  | bl (b : Bool) : Fl (.bool b)
  | int (i : Int) : Fl (.int i)
  | str (x : Str) : Fl (.str x)
  | tup {ds : List PyData} : (∀ d ∈ ds, Fl d) → Fl (.tuple ds)
mutual
theorem Dq.less {M M' : Hp} {p : Addr} {vs : List V} (hp : M p = some (.lst vs)) (h : ∀ a u, a ≠ p → M a = some u → M' a = some u) : ∀ {v : V} {d : PyData}, Dq K M v d → Fl d → Dq K M' v d
  | _, _, .non, _ => .non
  | _, _, .bl b, _ => .bl b
  | _, _, .int i, _ => .int i
  | _, _, .str x, _ => .str x
  | _, _, .lst _ _, f => nomatch f
  | _, _, .dct _ _, f => nomatch f
  | _, _, .tup s a, f => .tup (by
      rcases s with (s | ⟨o, s⟩) | s
      · exact .inl (.inl (h _ _ (fun z => by rw [z, hp] at s; cases s) s))
      · exact .inl (.inr ⟨o, h _ _ (fun z => by rw [z, hp] at s; cases s) s⟩)
      · exact .inr s) (DqAll.less hp h a (match f with | .tup g => g))
theorem DqAll.less {M M' : Hp} {p : Addr} {vs : List V} (hp : M p = some (.lst vs)) (h : ∀ a u, a ≠ p → M a = some u → M' a = some u) : ∀ {vs : List V} {ds : List PyData}, DqAll K M vs ds → (∀ d ∈ ds, Fl d) → DqAll K M' vs ds
  | _, _, .nil, _ => .nil
  | _, _, .cons a b, f => .cons (Dq.less hp h a (f _ List.mem_cons_self)) (DqAll.less hp h b fun d hd => f d (List.mem_cons_of_mem _ hd))
end
open Classical in
/-- an own list is read: the expression is reckoned as if it were data -/
theorem e_read (i : Nat) {te : TE} {ds : List PyData} {d : PyData} (hi : env[i]? = some (ownL K ds)) (h : Pe K te (env.set i (.val (.list ds))) d) (f : Fl d) : Pe K te env d := fun H0 M0 H M fps σ Q k q => by
  obtain ⟨p, vs, e1, e2, e3, e4, e5, e6, k'⟩ := k.froz hi
  refine h H0 M0 H _ _ σ Q k' fun v H' M' x dv => ?_
  have hp' : M' p = some (.lst vs) := x.m _ _ upd_same
  refine q v H' (fun a => if a = p then none else M' a) ⟨x.h, fun a u e => ?_, fun a u e => ?_, fun a u e => ?_⟩ (Dq.less hp' (fun a u n e => by show (if a = p then none else M' a) = _; rw [if_neg n]; exact e) dv f)
  · have n : a ≠ p := fun z => by rw [z, e3] at e; cases e
    show (if a = p then none else M' a) = _
    rw [if_neg n]; exact x.m a u (by rw [upd_ne n]; exact e)
  · by_cases c : a = p
    · rw [if_pos c] at e; cases e
    · rw [if_neg c] at e; exact x.s a u e
  · by_cases c : a = p
    · rw [if_pos c] at e; cases e
    · rw [if_neg c] at e
      rcases x.n a u e with g | g
      · rw [upd_ne c] at g; exact .inl g
      · exact .inr g
theorem t_read (i : Nat) {te : TT} {ds : List PyData} {b : Bool} (hi : env[i]? = some (ownL K ds)) (h : Pt K te (env.set i (.val (.list ds))) b) : Pt K te env b := fun H0 M0 H M fps σ Q k q => by
  obtain ⟨p, vs, e1, e2, e3, e4, e5, e6, k'⟩ := k.froz hi
  refine h H0 M0 H _ _ σ Q k' fun H' M' x => ?_
  refine q H' (fun a => if a = p then none else M' a) ⟨x.h, fun a u e => ?_, fun a u e => ?_, fun a u e => ?_⟩
  · have n : a ≠ p := fun z => by rw [z, e3] at e; cases e
    show (if a = p then none else M' a) = _
    rw [if_neg n]; exact x.m a u (by rw [upd_ne n]; exact e)
  · by_cases c : a = p
    · rw [if_pos c] at e; cases e
    · rw [if_neg c] at e; exact x.s a u e
  · by_cases c : a = p
    · rw [if_pos c] at e; cases e
    · rw [if_neg c] at e
      rcases x.n a u e with g | g
      · rw [upd_ne c] at g; exact .inl g
      · exact .inr g
end
end Y


/-! ### targets, walks, loops, comprehensions, slices -/
namespace Y
open PySem L2
section
variable {K : PySem.W.Frag} {H0 M0 H M H' M' : Hp} {env : List Sl} {fps : List (List Addr)} {σ : L2.St}
/-- the view as the new start -/
theorem Ok.re (k : Ok K H0 M0 env fps σ H M) : Ok K H0 M env fps σ H M := ⟨k.base, k.sub, Same.refl M, fun _ _ e => .inl e, k.sls, k.nd, k.own, k.stab⟩
theorem Ok.back {M1 : Hp} {env1 : List Sl} {fps1 : List (List Addr)} {σ1 : L2.St} {H1 : Hp} (k : Ok K H0 M0 env fps σ H M) (k1 : Ok K H0 M env1 fps1 σ1 H1 M1) : Ok K H0 M0 env1 fps1 σ1 H1 M1 :=
  ⟨k1.base, k1.sub, k.grow.trans k1.grow, fun a o e => (k1.new a o e).elim (k.new a o) .inr, k1.sls, k1.nd, k1.own, k1.stab⟩
theorem RtOk.re {rt : VK} {R : Rt} (k : Ok K H0 M0 env fps σ H M) (r : RtOk K H0 M0 rt R) : RtOk K H0 M rt R := by
  cases R with
  | dat R => exact fun v d H' M' hR x dv => r v d H' M' hR ⟨x.h, k.grow.trans x.m, x.s, fun a o e => (x.n a o e).elim (k.new a o) .inr⟩ dv
  | lst R => exact fun p vs ds H' M' hR x => r p vs ds H' M' hR ⟨x.h, k.grow.trans x.m, x.s, fun a o e => (x.n a o e).elim (k.new a o) .inr⟩
/-- a thing beside: neither in the view nor owned -/
theorem Ok.side {p : Addr} {o : HO} (k : Ok K H0 M0 env fps σ H M) (h0 : H0 p = none) (hm : M p = none) (hf : p ∉ fps.flatten) : Ok K H0 M0 env fps σ (upd H p o) M := by
  have ne : ∀ a ∈ fps.flatten, a ≠ p := fun a ha z => hf (by rw [← z]; exact ha)
  refine ⟨fun a u e => ?_, fun a u e => ?_, k.grow, k.new, SlsOk.mono (Same.refl M) k.stab (fun a ha => upd_ne (ne a ha)) k.sls, k.nd, fun a ha => ?_, k.stab⟩
  · rw [upd_ne (fun z => by rw [z, h0] at e; cases e)]; exact k.base a u e
  · rw [upd_ne (fun z => by rw [z, hm] at e; cases e)]; exact k.sub a u e
  · obtain ⟨f1, f2, f3⟩ := k.own a ha
    exact ⟨f1, f2, by rw [upd_ne (ne a ha)]; exact f3⟩
end
/-! targets -/
def Pg (K : PySem.W.Frag) (g : TG) (env : List Sl) (d : PyData) (env' : List Sl) (is : List Nat) : Prop := ∀ (H0 M0 H M : Hp) (fps : List (List Addr)) (σ : L2.St) (v : V) (Q : L2.St → Hp → Prop), Ok K H0 M0 env fps σ H M → Dq K M v d →
  (∀ σ' fps', Ok K H0 M0 env' fps' σ' H M → (∀ j, j ∉ is → σ'[j]? = σ[j]?) → σ'.length = σ.length → (∀ a ∈ fps'.flatten, a ∈ fps.flatten) → Q σ' H) → g v σ H Q
def Pgs (K : PySem.W.Frag) (g : TGs) (env : List Sl) (ds : List PyData) (env' : List Sl) (is : List Nat) : Prop := ∀ (H0 M0 H M : Hp) (fps : List (List Addr)) (σ : L2.St) (vs : List V) (Q : L2.St → Hp → Prop), Ok K H0 M0 env fps σ H M → DqAll K M vs ds →
  (∀ σ' fps', Ok K H0 M0 env' fps' σ' H M → (∀ j, j ∉ is → σ'[j]? = σ[j]?) → σ'.length = σ.length → (∀ a ∈ fps'.flatten, a ∈ fps.flatten) → Q σ' H) → g vs σ H Q
section
variable {K : PySem.W.Frag} {env : List Sl}
theorem g_name {i : Nat} {d : PyData} : Pg K (gName i) env d (env.set i (.val d)) [i] := fun H0 M0 H M fps σ v Q k hv q =>
  q _ _ (k.setV hv) (fun j hj => List.getElem?_set_ne (fun e => hj (by rw [e]; exact List.mem_singleton.mpr rfl))) List.length_set (fun a ha => flat_set ha)
theorem gs_nil : Pgs K gNil env [] env [] := fun H0 M0 H M fps σ vs Q k hv q => ⟨dqA_nil hv, q σ fps k (fun _ _ => rfl) rfl (fun _ h => h)⟩
theorem gs_cons {g : TG} {gs : TGs} {d : PyData} {ds : List PyData} {env1 env2 : List Sl} {is1 is2 : List Nat} (h1 : Pg K g env d env1 is1) (h2 : Pgs K gs env1 ds env2 is2) : Pgs K (gCons g gs) env (d :: ds) env2 (is1 ++ is2) := fun H0 M0 H M fps σ vs Q k hv q => by
  cases hv with | cons a b =>
  refine ⟨_, _, rfl, h1 H0 M0 H M fps σ _ _ k a fun σ1 fps1 k1 e1 l1 f1 => h2 H0 M0 H M fps1 σ1 _ _ k1 b fun σ2 fps2 k2 e2 l2 f2 => q σ2 fps2 k2 (fun j hj => ?_) (l2.trans l1) fun a ha => f1 a (f2 a ha)⟩
  rw [List.mem_append, not_or] at hj
  exact (e2 j hj.2).trans (e1 j hj.1)
theorem g_tup {n : Nat} {gs : TGs} {ds : List PyData} {env' : List Sl} {is : List Nat} (h : Pgs K gs env ds env' is) (hn : ds.length = n) : Pg K (gTup K n gs) env (.tuple ds) env' is := fun H0 M0 H M fps σ v Q k hv q => by
  obtain ⟨a, xs, rfl, h1, h2⟩ := dq_tupI hv
  exact ⟨a, xs, rfl, Same.sqT k.sub h1, by rw [DqAll.len h2]; exact hn, h H0 M0 H M fps σ xs Q k h2 q⟩
/-- target = e -/
theorem s_asg {R : Rt} {B C N : EnvP} {te : TE} {g : TG} {d : PyData} {env' : List Sl} {is : List Nat} (he : Pe K te env d) (hg : Pg K g env d env' is) (h : N env') : Ps K R B C (tAsg te g) env N := fun H0 M0 D σ H M fps k r n b c =>
  he H0 M0 H M fps σ _ k fun v H1 M1 x1 dv => hg H0 M0 H1 M1 fps σ v _ (k.ext x1) dv fun σ' fps' k' _ _ _ => n _ _ _ _ _ h k'
theorem s_seq_asg {R : Rt} {B C N : EnvP} {u : TS} {te : TE} {g : TG} {d : PyData} {env' : List Sl} {is : List Nat} (he : Pe K te env d) (hg : Pg K g env d env' is) (h : Ps K R B C u env' N) : Ps K R B C (tSeq (tAsg te g) u) env N := fun H0 M0 D σ H M fps k r n b c =>
  he H0 M0 H M fps σ _ k fun v H1 M1 x1 dv => hg H0 M0 H1 M1 fps σ v _ (k.ext x1) dv fun σ' fps' k' _ _ _ => h H0 M0 D _ _ _ _ k' r n b c
end
/-! walks -/
def Wk (K : PySem.W.Frag) (J : It) (ys : List PyData) (M0 : Hp) : Prop := ∃ (G : Hp → Prop) (Y : Nat → Hp → V → Hp → Prop), Walk J ys.length G Y ∧ (∀ H M, Same M0 M → Same M H → G H) ∧
  ∀ i H M x H', i < ys.length → Same M0 M → Same M H → Y i H x H' → ∃ M' d, Ext H M H' M' ∧ ys[i]? = some d ∧ Dq K M' x d
def Pw (K : PySem.W.Frag) (wi : TI) (env : List Sl) (ys : List PyData) : Prop := ∀ (H0 M0 H M : Hp) (fps : List (List Addr)) (σ : L2.St) (Q : It → Hp → Prop), Ok K H0 M0 env fps σ H M →
  (∀ J H' M', Ext H M H' M' → Wk K J ys M' → Q J H') → wi σ H Q
section
variable {K : PySem.W.Frag} {env : List Sl}
theorem w_list {te : TE} {ds : List PyData} (he : Pe K te env (.list ds)) : Pw K (iList K te) env ds := fun H0 M0 H M fps σ Q k q => by
  refine he H0 M0 H M fps σ _ k fun v H1 M1 x1 dv => ?_
  obtain ⟨a, xs, rfl, h1, h2⟩ := dq_lstI dv
  refine ⟨a, rfl, ⟨xs, SqL.of (x1.s _ _ h1)⟩, q _ _ M1 x1 ⟨_, _, by rw [← DqAll.len h2]; exact walk_list (xs := xs), fun H M a b => SqL.of (b _ _ (a _ _ h1)), ?_⟩⟩
  rintro i H M x H' hi a b ⟨rfl, hx⟩
  obtain ⟨d, e1, e2⟩ := DqAll.getV h2 hx
  exact ⟨M, d, Ext.refl b, e1, Dq.same a e2⟩
theorem w_tup {te : TE} {ds : List PyData} (he : Pe K te env (.tuple ds)) : Pw K (iTup K te) env ds := fun H0 M0 H M fps σ Q k q => by
  refine he H0 M0 H M fps σ _ k fun v H1 M1 x1 dv => ?_
  obtain ⟨a, xs, rfl, h1, h2⟩ := dq_tupI dv
  refine ⟨a, rfl, ⟨xs, Same.sqT x1.s h1⟩, q _ _ M1 x1 ⟨_, _, by rw [← DqAll.len h2]; exact walk_tup (xs := xs), fun H M a b => Same.sqT b (Same.sqT a h1), ?_⟩⟩
  rintro i H M x H' hi a b ⟨rfl, hx⟩
  obtain ⟨d, e1, e2⟩ := DqAll.getV h2 hx
  exact ⟨M, d, Ext.refl b, e1, Dq.same a e2⟩

abbrev encS (c : Nat) : PyData := .str ⟨#[c]⟩
theorem w_str {te : TE} {z : Str} (he : Pe K te env (.str z)) : Pw K (iStr te) env (z.cps.toList.map encS) := fun H0 M0 H M fps σ Q k q => by
  refine he H0 M0 H M fps σ _ k fun v H1 M1 x1 dv => ?_
  rw [dq_str dv]
  refine ⟨z, rfl, q _ _ M1 x1 ⟨_, _, by rw [List.length_map, Array.length_toList]; exact walk_str (z := z), fun _ _ _ _ => True.intro, ?_⟩⟩
  rintro i H M x H' hi a b ⟨rfl, c, e1, rfl⟩
  refine ⟨M, .str ⟨#[c]⟩, Ext.refl b, ?_, .str _⟩
  rw [List.getElem?_map, Array.getElem?_toList, e1]; rfl
abbrev encR (lo : Int) (i : Nat) : PyData := .int (lo + (i : Nat))
abbrev intsD (lo : Int) (n : Nat) : List PyData := (List.range n).map (encR lo)
theorem ints_len (lo : Int) (n : Nat) : (intsD lo n).length = n := by unfold intsD; rw [List.length_map, List.length_range]
theorem wk_range {lo : Int} {n : Nat} {M0 : Hp} : Wk K (Itr lo n) (intsD lo n) M0 := by
  refine ⟨_, _, by rw [ints_len]; exact walk_range, fun _ _ _ _ => True.intro, ?_⟩
  rintro i H M x H' hi a b ⟨rfl, rfl⟩
  rw [ints_len] at hi
  refine ⟨M, .int (lo + (i : Nat)), Ext.refl b, ?_, .int _⟩
  unfold intsD
  rw [List.getElem?_map, List.getElem?_range hi]; rfl
theorem w_range1 {ta : TA} {j : Int} (ha : Pa K ta env [.int j]) (h1 : -(2 ^ 62) ≤ j) (h2 : j < 2 ^ 62) : Pw K (iRng1 ta) env (intsD 0 j.toNat) := fun H0 M0 H M fps σ Q k q => by
  refine ha H0 M0 H M fps σ _ k fun vs H1 M1 x1 dv => ?_
  obtain ⟨v, rfl, h⟩ := dqA_one dv
  rw [dq_int h]
  exact ⟨j, rfl, h1, h2, q _ _ M1 x1 wk_range⟩
theorem w_range2 {ta : TA} {i j : Int} (ha : Pa K ta env [.int i, .int j]) (h1 : -(2 ^ 62) ≤ i) (h2 : i < 2 ^ 62) (h3 : -(2 ^ 62) ≤ j) (h4 : j < 2 ^ 62) : Pw K (iRng2 ta) env (intsD i (j - i).toNat) := fun H0 M0 H M fps σ Q k q => by
  refine ha H0 M0 H M fps σ _ k fun vs H1 M1 x1 dv => ?_
  obtain ⟨v, w, rfl, h, h'⟩ := dqA_two dv
  rw [dq_int h, dq_int h']
  exact ⟨i, j, rfl, ⟨h1, h2, h3, h4⟩, q _ _ M1 x1 wk_range⟩
/-- a new pair in each turn -/
theorem wk_pair {J : It} {n : Nat} {G : Hp → Prop} {xs ys : Nat → Option V} {ds : List PyData} {M0 : Hp} (w : Walk J n G (YPair xs ys)) (hn : ds.length = n) (hG : ∀ H M, Same M0 M → Same M H → G H)
    (h : ∀ i x y, xs i = some x → ys i = some y → ∃ d e, ds[i]? = some (.tuple [d, e]) ∧ Dq K M0 x d ∧ Dq K M0 y e) : Wk K J ds M0 := by
  refine ⟨G, _, by rw [hn]; exact w, hG, ?_⟩
  rintro i H M x H' hi a b ⟨T, u, v, rfl, hT, rfl, e1, e2⟩
  obtain ⟨d, e, h1, h2, h3⟩ := h i u v e1 e2
  have x1 := Ext.laid b (o := .tup [u, v]) hT
  exact ⟨_, _, x1, h1, .tup (SqT.of upd_same) (.cons (Dq.same (a.trans x1.m) h2) (.cons (Dq.same (a.trans x1.m) h3) .nil))⟩
def enums (ds : List PyData) : List PyData := (List.range ds.length).zipWith (fun i d => .tuple [.int (i : Nat), d]) ds
theorem enums_len (ds : List PyData) : (enums ds).length = ds.length := by unfold enums; simp
theorem enums_get {ds : List PyData} {i : Nat} {d : PyData} (h : ds[i]? = some d) : (enums ds)[i]? = some (.tuple [.int (i : Nat), d]) := by
  have hi : i < ds.length := (List.getElem?_eq_some_iff.mp h).1
  unfold enums
  rw [List.getElem?_zipWith, List.getElem?_range hi, h]
theorem w_enum {ta : TA} {ds : List PyData} (ha : Pa K ta env [.list ds]) : Pw K (iEnum K ta) env (enums ds) := fun H0 M0 H M fps σ Q k q => by
  refine ha H0 M0 H M fps σ _ k fun vs H1 M1 x1 dv => ?_
  obtain ⟨v, rfl, h⟩ := dqA_one dv
  obtain ⟨a, xs, rfl, h1, h2⟩ := dq_lstI h
  refine ⟨a, xs, rfl, SqL.of (x1.s _ _ h1), q _ _ M1 x1 (wk_pair (walk_enum (xs := xs)) (by rw [enums_len, DqAll.len h2]) (fun H M a b => SqL.of (b _ _ (a _ _ h1))) ?_)⟩
  intro i x y e1 e2
  obtain ⟨d, f1, f2⟩ := DqAll.getV h2 e2
  rw [← Option.some.inj e1]
  exact ⟨_, d, enums_get f1, .int _, f2⟩
def zips (ds es : List PyData) : List PyData := ds.zipWith (fun d e => .tuple [d, e]) es
theorem zips_get {ds es : List PyData} {i : Nat} {d e : PyData} (h : ds[i]? = some d) (h2 : es[i]? = some e) : (zips ds es)[i]? = some (.tuple [d, e]) := by
  unfold zips
  rw [List.getElem?_zipWith, h, h2]
theorem w_zip {ta : TA} {ds es : List PyData} (ha : Pa K ta env [.list ds, .list es]) : Pw K (iZip K ta) env (zips ds es) := fun H0 M0 H M fps σ Q k q => by
  refine ha H0 M0 H M fps σ _ k fun vs H1 M1 x1 dv => ?_
  obtain ⟨v, w, rfl, h, h'⟩ := dqA_two dv
  obtain ⟨a, xs, rfl, h1, h2⟩ := dq_lstI h
  obtain ⟨b, ys, rfl, h3, h4⟩ := dq_lstI h'
  refine ⟨a, b, xs, ys, rfl, SqL.of (x1.s _ _ h1), SqL.of (x1.s _ _ h3), q _ _ M1 x1 (wk_pair (walk_zip (xs := xs) (ys := ys) rfl) (by unfold zips; rw [List.length_zipWith, DqAll.len h2, DqAll.len h4]) (fun H M a b => ⟨SqL.of (b _ _ (a _ _ h1)), SqL.of (b _ _ (a _ _ h3))⟩) ?_)⟩
  intro i x y e1 e2
  obtain ⟨d, f1, f2⟩ := DqAll.getV h2 e1
  obtain ⟨e, f3, f4⟩ := DqAll.getV h4 e2
  exact ⟨d, e, zips_get f1 f3, f2, f4⟩
end
/-! loops -/
section
variable {K : PySem.W.Frag} {R : Rt} {B C N : EnvP} {env : List Sl}
theorem s_for {wi : TI} {g : TG} {tb : TS} {α : Type} {xs : List α} {enc : α → PyData} (I : Nat → EnvP) (BP : EnvP) (hw : Pw K wi env (xs.map enc)) (h0 : I 0 env)
    (hs : ∀ (i : Nat) (a : α) (env1 : List Sl), xs[i]? = some a → I i env1 → ∃ (env2 : List Sl) (is : List Nat), Pg K g env1 (enc a) env2 is ∧ Ps K R BP (I (i + 1)) tb env2 (I (i + 1))) (hd : ∀ e, I xs.length e → N e) (hb : ∀ e, BP e → N e) : Ps K R B C (tFor wi g tb) env N := fun H0 M0 D σ H M fps k r n b c => by
  refine hw H0 M0 H M fps σ _ k fun J H1 M1 x1 ⟨G, Y, w, hG, hY⟩ => ?_
  rw [List.length_map] at w hY
  have k1 := k.ext x1
  have r1 := r.re k1
  refine for_it w (fun i σ H => ∃ e f M2, I i e ∧ Ok K H0 M1 e f σ H M2) ⟨env, fps, M1, h0, k1.re⟩ ?_ ?_ ?_
  · rintro i σ H hi ⟨e, f, M2, _, k2⟩
    exact hG H M2 k2.grow k2.sub
  · rintro i x σ2 H2 H3 hi ⟨e, f, M2, hI, k2⟩ y
    obtain ⟨M3, d, x3, hd', dv⟩ := hY i H2 M2 x H3 hi k2.grow k2.sub y
    rw [List.getElem?_map] at hd'
    cases ca : xs[i]? with
    | none => rw [ca] at hd'; cases hd'
    | some a =>
    rw [ca] at hd'
    have ed : enc a = d := Option.some.inj hd'
    subst ed
    obtain ⟨env2, is, hg, hbody⟩ := hs i a e ca hI
    refine hg H0 M1 H3 M3 f σ2 x _ (k2.ext x3) dv fun σ4 f4 k4 _ _ _ => ?_
    refine hbody H0 M1 _ σ4 H3 M3 f4 k4 r1 ?_ ?_ ?_
    · exact fun e5 σ5 H5 M5 f5 he5 k5 => ⟨e5, f5, M5, he5, k5⟩
    · exact fun e5 σ5 H5 M5 f5 he5 k5 => n e5 σ5 H5 M5 f5 (hb e5 he5) (k1.back k5)
    · exact fun e5 σ5 H5 M5 f5 he5 k5 => ⟨e5, f5, M5, he5, k5⟩
  · rintro σ2 H2 ⟨e, f, M2, hI, k2⟩
    exact n e σ2 H2 M2 f (hd e hI) (k1.back k2)
theorem s_seq_for {wi : TI} {g : TG} {tb u : TS} {α : Type} {xs : List α} {enc : α → PyData} (I : Nat → EnvP) (BP : EnvP) (hw : Pw K wi env (xs.map enc)) (h0 : I 0 env)
    (hs : ∀ (i : Nat) (a : α) (env1 : List Sl), xs[i]? = some a → I i env1 → ∃ (env2 : List Sl) (is : List Nat), Pg K g env1 (enc a) env2 is ∧ Ps K R BP (I (i + 1)) tb env2 (I (i + 1))) (hd : ∀ e, I xs.length e → Ps K R B C u e N) (hb : ∀ e, BP e → Ps K R B C u e N) : Ps K R B C (tSeq (tFor wi g tb) u) env N :=
  s_mid (fun e => I xs.length e ∨ BP e) (s_for I BP hw h0 hs (fun _ h => .inl h) (fun _ h => .inr h)) fun e h => h.elim (hd e) (hb e)
theorem s_while {c : TT} {tb : TS} (I : Nat → EnvP) (m : Nat) (h0 : I m env)
    (hs : ∀ m e, I m e → ∃ b, Pt K c e b ∧ (b = true → Ps K R N (fun e => ∃ m', m' < m ∧ I m' e) tb e (fun e => ∃ m', m' < m ∧ I m' e)) ∧ (b = false → N e)) : Ps K R B C (tWhile c tb) env N := fun H0 M0 D σ H M fps k r n b c => by
  refine ⟨fun m σ H => ∃ e f M1, I m e ∧ Ok K H0 M0 e f σ H M1, ⟨m, env, fps, M, h0, k⟩, ?_⟩
  rintro m σ H ⟨e, f, M1, hI, k1⟩
  obtain ⟨b', hc, ht, hf⟩ := hs m e hI
  refine hc H0 M0 H M1 f σ _ k1 fun H2 M2 x2 => ?_
  cases b' with
  | true =>
    rw [if_pos rfl]
    refine ⟨fun σ H => ∃ m', m' < m ∧ ∃ e f M1, I m' e ∧ Ok K H0 M0 e f σ H M1, fun _ _ h => h, ht rfl H0 M0 _ σ H2 M2 f (k1.ext x2) r ?_ ?_ ?_⟩
    · exact fun e5 σ5 H5 M5 f5 ⟨m', hm, hI'⟩ k5 => ⟨m', hm, e5, f5, M5, hI', k5⟩
    · exact fun e5 σ5 H5 M5 f5 he5 k5 => n e5 σ5 H5 M5 f5 he5 k5
    · exact fun e5 σ5 H5 M5 f5 ⟨m', hm, hI'⟩ k5 => ⟨m', hm, e5, f5, M5, hI', k5⟩
  | false =>
    rw [if_neg Bool.false_ne_true]
    exact n e σ H2 M2 f (hf rfl) (k1.ext x2)
end
/-! comprehensions -/
def wipeE (env : List Sl) : List Nat → List Sl
  | [] => env
  | v :: vs => (wipeE env vs).set v .unk
section
variable {K : PySem.W.Frag} {H0 M0 H M : Hp} {env : List Sl} {fps : List (List Addr)} {σ : L2.St}
theorem Ok.wiped (k : Ok K H0 M0 env fps σ H M) : ∀ vs : List Nat, ∃ f, Ok K H0 M0 (wipeE env vs) f (wipe σ vs) H M ∧ ∀ a ∈ f.flatten, a ∈ fps.flatten
  | [] => ⟨fps, k, fun _ h => h⟩
  | v :: vs => by
    obtain ⟨f, h, hf⟩ := Ok.wiped k vs
    exact ⟨_, h.setU, fun a ha => hf a (flat_set ha)⟩
theorem wipe_get : ∀ (vs : List Nat) (σ : L2.St) (j : Nat), (wipe σ vs)[j]? = if j ∈ vs then (σ[j]?).map fun _ => none else σ[j]?
  | [], σ, j => by simp [wipe]
  | v :: vs, σ, j => by
    show ((wipe σ vs).set v none)[j]? = _
    rw [List.getElem?_set]
    have ih := wipe_get vs σ j
    by_cases c : v = j
    · subst c
      rw [if_pos rfl, if_pos List.mem_cons_self]
      have hl : (wipe σ vs).length = σ.length := by
        have : ∀ vs : List Nat, (wipe σ vs).length = σ.length := by
          intro vs
          induction vs with
          | nil => rfl
          | cons v vs ih => show ((wipe σ vs).set v none).length = _; rw [List.length_set, ih]
        exact this vs
      by_cases d : v < σ.length
      · rw [if_pos (by rw [hl]; exact d), List.getElem?_eq_getElem d]; rfl
      · rw [if_neg (by rw [hl]; exact d), List.getElem?_eq_none (by omega)]; rfl
    · rw [if_neg c, ih]
      by_cases d : j ∈ vs
      · rw [if_pos d, if_pos (List.mem_cons_of_mem _ d)]
      · rw [if_neg d, if_neg (fun z => (List.mem_cons.mp z).elim (fun e => c e.symm) d)]
theorem wipe_eq {vs is : List Nat} {σ' : L2.St} (h : ∀ j, j ∉ is → σ'[j]? = (wipe σ vs)[j]?) (hl : σ'.length = (wipe σ vs).length) (hi : ∀ j ∈ is, j ∈ vs) : wipe σ' vs = wipe σ vs := by
  refine List.ext_getElem? fun j => ?_
  rw [wipe_get]
  by_cases c : j ∈ vs
  · rw [if_pos c]
    have e1 : (wipe σ vs)[j]? = if j ∈ vs then (σ[j]?).map fun _ => none else σ[j]? := wipe_get vs σ j
    have e3 : j < σ'.length ↔ j < (wipe σ vs).length := by rw [hl]
    rw [e1, if_pos c]
    by_cases d : j < σ'.length
    · have d' := e3.mp d
      rw [List.getElem?_eq_getElem d]
      have e4 := List.getElem?_eq_getElem d'
      rw [e1, if_pos c] at e4
      cases q : σ[j]? with
      | none => rw [q] at e4; cases e4
      | some _ => rfl
    · rw [List.getElem?_eq_none (by omega)]
      have e4 : (wipe σ vs)[j]? = none := List.getElem?_eq_none (by omega)
      rw [e1, if_pos c] at e4
      rw [e4]; rfl
  · rw [if_neg c]
    exact h j fun z => c (hi j z)
end
section
variable {K : PySem.W.Frag} {env : List Sl}
theorem take_snoc {α : Type} {l : List α} {i : Nat} {x : α} (h : l[i]? = some x) : l.take (i + 1) = l.take i ++ [x] := by
  rw [List.take_add_one, h]; rfl
theorem mapget {α β : Type} {f : α → β} {l : List α} {i : Nat} {d : β} (h : (l.map f)[i]? = some d) : ∃ a, l[i]? = some a ∧ d = f a := by
  rw [List.getElem?_map] at h
  cases c : l[i]? with
  | none => rw [c] at h; cases h
  | some a => rw [c] at h; exact ⟨a, rfl, (Option.some.inj h).symm⟩
theorem e_lc {wi : TI} {g : TG} {tt : TT} {te : TE} {vs : List Nat} {α : Type} {xs : List α} {enc : α → PyData} (p : α → Bool) (f : α → PyData) (hw : Pw K wi env (xs.map enc))
    (hs : ∀ (i : Nat) (a : α), xs[i]? = some a → ∃ (env2 : List Sl) (is : List Nat), Pg K g (wipeE env vs) (enc a) env2 is ∧ (∀ j ∈ is, j ∈ vs) ∧ Pt K tt env2 (p a) ∧ (p a = true → Pe K te env2 (f a))) (hl : xs.length < sizeLine) : Pe K (tLc wi g tt te vs) env (.list ((xs.filter p).map f)) := fun H0 M0 H M fps σ Q k q => by
  refine hw H0 M0 H M fps σ _ k fun J H1 M1 x1 ⟨G, Y, w, hG, hY⟩ => ?_
  rw [List.length_map] at w hY
  have k1 := k.ext x1
  intro D hD
  have mD := none_of x1.s hD
  have zD := none_of k1.base hD
  obtain ⟨fw, kw, hfw⟩ := k1.wiped vs
  have nD : D ∉ fw.flatten := fun z => (kw.own D z).2.2 hD
  refine lc_it w (fun i H => ∃ M2 acc, Ext H1 M1 H M2 ∧ M2 D = none ∧ H D = some (.lst acc) ∧ DqAll K M2 acc (((xs.take i).filter p).map f) ∧ Ok K H0 M0 (wipeE env vs) fw (wipe σ vs) H M2) ?_ ?_ ?_ ?_
  · refine ⟨M1, [], ⟨fun a u e => ?_, Same.refl M1, fun a u e => ?_, fun _ _ e => .inl e⟩, mD, upd_same, .nil, kw.side zD mD nD⟩
    · rw [upd_ne (fun z => by rw [z, hD] at e; cases e)]; exact e
    · rw [upd_ne (fun z => by rw [z, mD] at e; cases e)]; exact x1.s a u e
  · rintro i H hi ⟨M2, acc, x2, _⟩
    exact hG H M2 x2.m x2.s
  · rintro i x H2 H3 hi ⟨M2, acc, x2, m2, h2, a2, k2⟩ y
    obtain ⟨M3, d, x3, hd', dv⟩ := hY i H2 M2 x H3 hi x2.m x2.s y
    obtain ⟨a, hda, rfl⟩ := mapget hd'
    clear hd'
    have hd' := hda
    obtain ⟨env2, is, hg, his, ht, he⟩ := hs i a hd'
    refine hg H0 M0 H3 M3 fw (wipe σ vs) x _ (k2.ext x3) dv fun σ4 f4 k4 e4 l4 ff4 => ⟨wipe_eq e4 l4 his, ?_⟩
    have out : ∀ {H' M'}, Ext H2 M2 H' M' → M' D = none := fun {H' M'} z => by
      cases c : M' D with
      | none => rfl
      | some u =>
        rcases z.n D u c with e | e
        · rw [m2] at e; cases e
        · rw [h2] at e; cases e
    refine ht H0 M0 H3 M3 f4 σ4 _ k4 fun H5 M5 x5 => ?_
    cases c : p a with
    | false =>
      rw [if_neg Bool.false_ne_true]
      have x35 := x3.trans x5
      refine ⟨M5, acc, x2.trans x35, out x35, x35.h _ _ h2, ?_, k2.ext x35⟩
      rw [take_snoc hd', List.filter_append, List.filter_cons_of_neg (by rw [c]; exact Bool.false_ne_true), List.filter_nil, List.append_nil]
      exact DqAll.same x35.m a2
    | true =>
      rw [if_pos rfl]
      refine he c H0 M0 H5 M5 f4 σ4 _ (k4.ext x5) fun y H6 M6 x6 dy => ?_
      have x36 := (x3.trans x5).trans x6
      have m6 := out x36
      have hlen : acc.length ≤ i := by
        rw [DqAll.len a2, List.length_map]
        exact Nat.le_trans (List.length_filter_le _ _) (List.length_take_le _ _)
      refine ⟨acc, x36.h _ _ h2, by omega, M6, acc ++ [y], ?_, m6, upd_same, ?_, ?_⟩
      · have z := x2.trans x36
        refine ⟨fun a u e => ?_, z.m, fun a u e => ?_, z.n⟩
        · rw [upd_ne (fun z => by rw [z, hD] at e; cases e)]; exact z.h a u e
        · rw [upd_ne (fun z => by rw [z, m6] at e; cases e)]; exact z.s a u e
      · rw [take_snoc hd', List.filter_append, List.filter_cons_of_pos c, List.filter_nil, List.map_append]
        exact DqAll.app (DqAll.same x36.m a2) (.cons dy .nil)
      · exact (k2.ext x36).side zD m6 nD
  · rintro H2 ⟨M2, acc, x2, m2, h2, a2, k2⟩
    rw [List.take_of_length_le (Nat.le_refl _)] at a2
    refine q _ H2 (upd M2 D (.lst acc)) (x1.trans ⟨x2.h, fun a u e => ?_, fun a u e => ?_, fun a u e => ?_⟩) (.lst upd_same (DqAll.same (fun a u e => ?_) a2))
    · rw [upd_ne (fun z => by rw [z, mD] at e; cases e)]; exact x2.m a u e
    · by_cases z : a = D
      · subst z; rw [upd_same] at e; rw [← Option.some.inj e]; exact h2
      · rw [upd_ne z] at e; exact x2.s a u e
    · by_cases z : a = D
      · subst z; exact .inr hD
      · rw [upd_ne z] at e; exact x2.n a u e
    · rw [upd_ne (fun z => by rw [z, m2] at e; cases e)]; exact e
/-- without a test, all of them -/
theorem e_map {wi : TI} {g : TG} {te : TE} {vs : List Nat} {α : Type} {xs : List α} {enc : α → PyData} (f : α → PyData) (hw : Pw K wi env (xs.map enc))
    (hs : ∀ (i : Nat) (a : α), xs[i]? = some a → ∃ (env2 : List Sl) (is : List Nat), Pg K g (wipeE env vs) (enc a) env2 is ∧ (∀ j ∈ is, j ∈ vs) ∧ Pe K te env2 (f a)) (hl : xs.length < sizeLine) : Pe K (tLc wi g tYes te vs) env (.list (xs.map f)) := by
  have h := e_lc (K := K) (env := env) (tt := tYes) (fun _ => true) f hw (fun i a ha => by
    obtain ⟨e, is, h1, h2, h3⟩ := hs i a ha
    exact ⟨e, is, h1, h2, (fun H0 M0 H M fps σ Q k q => q H M (Ext.refl k.sub)), fun _ => h3⟩) hl
  rw [List.filter_eq_self.mpr (fun _ _ => rfl)] at h
  exact h
/-! slices -/
def cutG {α : Type} (xs : List α) (lo hi : Option Int) : List α := (xs.drop (HT.sIx xs.length 0 lo)).take (HT.sIx xs.length xs.length hi - HT.sIx xs.length 0 lo)
def Psl (K : PySem.W.Frag) (t : TO) (env : List Sl) (o : Option Int) : Prop := ∀ (H0 M0 H M : Hp) (fps : List (List Addr)) (σ : L2.St) (Q : Option Int → Hp → Prop), Ok K H0 M0 env fps σ H M → (∀ H' M', Ext H M H' M' → Q o H') → t σ H Q
theorem p_no : Psl K tNoPart env none := fun H0 M0 H M fps σ Q k q => q H M (Ext.refl k.sub)
theorem p_at {te : TE} {i : Int} (h : Pe K te env (.int i)) : Psl K (tPart te) env (some i) := fun H0 M0 H M fps σ Q k q =>
  h H0 M0 H M fps σ _ k fun v H1 M1 x1 dv => ⟨i, dq_int dv, q H1 M1 x1⟩
def Psr (K : PySem.W.Frag) (r : V → Option Int → Option Int → Hp → VK → Prop) (d : PyData) (lo hi : Option Int) (c : PyData) : Prop := ∀ (H M : Hp) (x : V) (Q : VK), Same M H → Dq K M x d → (∀ v H' M', Ext H M H' M' → Dq K M' v c → Q v H') → r x lo hi H Q
theorem e_sl {r : V → Option Int → Option Int → Hp → VK → Prop} {te : TE} {tl th : TO} {d c : PyData} {lo hi : Option Int} (he : Pe K te env d) (hl : Psl K tl env lo) (hh : Psl K th env hi) (hr : Psr K r d lo hi c) : Pe K (tSl r te tl th) env c := fun H0 M0 H M fps σ Q k q =>
  he H0 M0 H M fps σ _ k fun x H1 M1 x1 dx => hl H0 M0 H1 M1 fps σ _ (k.ext x1) fun H2 M2 x2 => hh H0 M0 H2 M2 fps σ _ (k.ext (x1.trans x2)) fun H3 M3 x3 => hr H3 M3 x Q x3.s (Dq.same (x2.m.trans x3.m) dx) fun v H4 M4 x4 dv => q v H4 M4 (((x1.trans x2).trans x3).trans x4) dv
theorem dqA_cut {M : Hp} {vs : List V} {ds : List PyData} {lo hi : Option Int} (h : DqAll K M vs ds) : DqAll K M (cutV vs lo hi) (cutG ds lo hi) := by
  unfold cutV cutG
  rw [DqAll.len h]
  exact DqAll.take _ (DqAll.drop _ h)
theorem sl_L {ds : List PyData} {lo hi : Option Int} : Psr K (rSlL K) (.list ds) lo hi (.list (cutG ds lo hi)) := fun H M x Q s hx q => by
  obtain ⟨a, xs, rfl, h1, h2⟩ := dq_lstI hx
  exact ⟨a, xs, rfl, SqL.of (s _ _ h1), fun p hp => q _ _ _ (Ext.laid s hp) (.lst upd_same (DqAll.same (Ext.laid s hp).m (dqA_cut h2)))⟩
theorem sl_T {ds : List PyData} {lo hi : Option Int} : Psr K (rSlA K) (.tuple ds) lo hi (.tuple (cutG ds lo hi)) := fun H M x Q s hx q => by
  obtain ⟨a, xs, rfl, h1, h2⟩ := dq_tupI hx
  refine ⟨a, xs, rfl, Same.sqT s h1, fun ⟨e1, e2⟩ => ?_, fun _ p hp => q _ _ _ (Ext.laid s hp) (.tup (SqT.of upd_same) (DqAll.same (Ext.laid s hp).m (dqA_cut h2)))⟩
  have e : cutG ds lo hi = ds := by
    rw [DqAll.len h2] at e1 e2
    unfold cutG
    rw [e1, e2, List.drop_zero, Nat.sub_zero, List.take_of_length_le (Nat.le_refl _)]
  rw [e] at q
  exact q _ H M (Ext.refl s) (.tup h1 h2)
theorem sl_S {z : Str} {lo hi : Option Int} (hz : z.length ≤ sizeLine) : Psr K rSlS (.str z) lo hi (.str (cutS z lo hi)) := fun H M x Q s hx q => by
  rw [dq_str hx]
  exact ⟨z, rfl, hz, q _ H M (Ext.refl s) (.str _)⟩
end
/-! a def -/
theorem slots_ok {K : PySem.W.Frag} {M H : Hp} : ∀ {vs : List V} {ds : List PyData} (n : Nat), DqAll K M vs ds → SlsOk K M H (ds.map Sl.val ++ List.replicate n .unk) (vs.map some ++ List.replicate n none) ((ds.map fun _ => []) ++ List.replicate n [])
  | _, _, 0, .nil => .nil
  | _, _, n + 1, .nil => .cons (s := .unk) rfl (slots_ok n .nil)
  | _, _, n, .cons a b => .cons (s := .val _) ⟨rfl, _, rfl, a⟩ (slots_ok n b)
theorem stab_vals {ds : List PyData} {n : Nat} : ∀ s ∈ (ds.map Sl.val ++ List.replicate n .unk), Stab s := fun s hs => by
  rcases List.mem_append.mp hs with h | h
  · obtain ⟨d, _, rfl⟩ := List.mem_map.mp h; exact True.intro
  · rw [(List.mem_replicate.mp h).2]; exact True.intro
theorem flat_nil {α : Type} {ds : List α} {n : Nat} : ((ds.map fun _ => ([] : List Addr)) ++ List.replicate n []).flatten = [] := by
  rw [List.flatten_eq_nil_iff]
  intro l hl
  rcases List.mem_append.mp hl with h | h
  · obtain ⟨d, _, rfl⟩ := List.mem_map.mp h; rfl
  · exact (List.mem_replicate.mp h).2
/-- the start of a def's body: its slots hold the arguments' data -/
theorem Ok.start {K : PySem.W.Frag} {H M : Hp} {vs : List V} {ds : List PyData} (n : Nat) (s : Same M H) (h : DqAll K M vs ds) : Ok K H M (ds.map Sl.val ++ List.replicate n .unk) ((ds.map fun _ => []) ++ List.replicate n []) (vs.map some ++ List.replicate n none) H M :=
  ⟨Same.refl H, s, Same.refl M, fun _ _ e => .inl e, slots_ok n h, (by rw [flat_nil]; exact List.nodup_nil), (fun a ha => by rw [flat_nil] at ha; exact (nomatch ha)), stab_vals⟩
/-- a body is walked from told data to the promise -/
theorem run {K : PySem.W.Frag} {R : List PyData → PyData → Prop} {t : TS} {vs : List V} {H : Hp} {Q : VK} {E : XK} {N : List Str} (h : PF K R vs H Q E)
    (hb : ∀ ds d, R ds d → Ps K (.dat fun d' => d' = d) (fun _ => False) (fun _ => False) t (ds.map Sl.val ++ List.replicate (N.length - ds.length) .unk) (fun _ => d = .none)) : t { nx := fun _ H' => Q .non H', rt := Q } (L2.start N vs) H := by
  obtain ⟨M, ds, d, s, hv, hR, q⟩ := h
  unfold L2.start
  rw [DqAll.len hv]
  refine hb ds d hR H M _ _ H M _ (Ok.start _ s hv) (fun v d' H' M' e x dv => by rw [e] at dv; exact q v H' M' x dv) (fun env σ H' M' f e k => q _ H' M' k.out (by rw [e]; exact .non)) (fun _ _ _ _ _ z => z.elim) (fun _ _ _ _ _ z => z.elim)
theorem PF.len {K : PySem.W.Frag} {R : List PyData → PyData → Prop} {n : Nat} (h : ∀ ds d, R ds d → ds.length = n) : ∀ vs H Q E, PF K R vs H Q E → vs.length = n := fun vs H Q E ⟨M, ds, d, s, hv, hR, _⟩ => by rw [DqAll.len hv]; exact h ds d hR
/-- .. of a def that gives a new list -/
theorem runO {K : PySem.W.Frag} {R : List PyData → List PyData → Prop} {t : TS} {vs : List V} {H : Hp} {Q : VK} {E : XK} {N : List Str} {nx : L2.St → Hp → Prop} (h : PFO K R vs H Q E)
    (hb : ∀ ds d, R ds d → Ps K (.lst fun d' => d' = d) (fun _ => False) (fun _ => False) t (ds.map Sl.val ++ List.replicate (N.length - ds.length) .unk) (fun _ => False)) : t { nx := nx, rt := Q } (L2.start N vs) H := by
  obtain ⟨M, ds, d, s, hv, hR, q⟩ := h
  unfold L2.start
  rw [DqAll.len hv]
  refine hb ds d hR H M _ _ H M _ (Ok.start _ s hv) (fun p ws d' H' M' e x h1 h2 h3 h4 => by rw [e] at h4; exact q p ws H' M' x h1 h2 h3 h4) (fun _ _ _ _ _ z => z.elim) (fun _ _ _ _ _ z => z.elim) (fun _ _ _ _ _ z => z.elim)
theorem PFO.len {K : PySem.W.Frag} {R : List PyData → List PyData → Prop} {n : Nat} (h : ∀ ds d, R ds d → ds.length = n) : ∀ vs H Q E, PFO K R vs H Q E → vs.length = n := fun vs H Q E ⟨M, ds, d, s, hv, hR, _⟩ => by rw [DqAll.len hv]; exact h ds d hR
/-! the script: a list of ints that is read -/
def scr (K : PySem.W.Frag) (ns : List Int) : Sl := .res fun v M H fp => fp = [] ∧ ∃ a, v = .ref a ∧ SqL K M a (ns.map V.int)
theorem stab_scr {K : PySem.W.Frag} {ns : List Int} : Stab (scr K ns) := fun v M H M' H' fp m h ⟨e, a, e1, e2⟩ => ⟨e, a, e1, Same.sqL m e2⟩
/-- a promise of a def whose first argument is the script -/
def PFS (K : PySem.W.Frag) (R : List Int → List PyData → PyData → Prop) : Sp := fun vs H Q _ => ∃ M a ns ws ds d, vs = .ref a :: ws ∧ SqL K M a (ns.map V.int) ∧ Same M H ∧ DqAll K M ws ds ∧ R ns ds d ∧ ∀ v H' M', Ext H M H' M' → Dq K M' v d → Q v H'
theorem e_callS {K : PySem.W.Frag} {env : List Sl} {R : List Int → List PyData → PyData → Prop} {E : XK} {ta : TA} {i : Nat} {ns : List Int} {ds : List PyData} {d : PyData} (hi : env[i]? = some (scr K ns)) (ha : Pa K ta env ds) (hr : R ns ds d) : Pe K (tCall (PFS K R) [] E (tCons (tVar i) ta)) env d := fun H0 M0 H M fps σ Q k q => by
  obtain ⟨v, fp, e1, e2, e3, a, rfl, e4⟩ := k.sls.getR hi
  refine ⟨_, e1, ha H0 M0 H M fps σ _ k fun ws H1 M1 x1 dw => ⟨M1, a, ns, ws, ds, d, by rw [List.append_nil], Same.sqL x1.m e4, x1.s, dw, hr, fun v H2 M2 x2 dv => q v H2 M2 (x1.trans x2) dv⟩⟩
theorem runS {K : PySem.W.Frag} {R : List Int → List PyData → PyData → Prop} {t : TS} {vs : List V} {H : Hp} {Q : VK} {E : XK} {N : List Str} (h : PFS K R vs H Q E)
    (hb : ∀ ns ds d, R ns ds d → Ps K (.dat fun d' => d' = d) (fun _ => False) (fun _ => False) t (scr K ns :: (ds.map Sl.val ++ List.replicate (N.length - (ds.length + 1)) .unk)) (fun _ => d = .none)) : t { nx := fun _ H' => Q .non H', rt := Q } (L2.start N vs) H := by
  obtain ⟨M, a, ns, ws, ds, d, rfl, hS, s, hv, hR, q⟩ := h
  unfold L2.start
  rw [List.length_cons, DqAll.len hv]
  have k := Ok.start (N.length - (ds.length + 1)) s hv
  have k' : Ok K H M (scr K ns :: (ds.map Sl.val ++ List.replicate (N.length - (ds.length + 1)) .unk)) ([] :: ((ds.map fun _ => []) ++ List.replicate (N.length - (ds.length + 1)) [])) ((V.ref a :: ws).map some ++ List.replicate (N.length - (ds.length + 1)) none) H M :=
    ⟨k.base, k.sub, k.grow, k.new, .cons (s := scr K ns) ⟨.ref a, rfl, rfl, a, rfl, hS⟩ k.sls, (by rw [List.flatten_cons, List.nil_append]; exact k.nd), (fun b hb => k.own b (by rw [List.flatten_cons, List.nil_append] at hb; exact hb)), (fun s hs => (List.mem_cons.mp hs).elim (fun e => by rw [e]; exact stab_scr) (k.stab s))⟩
  refine hb ns ds d hR H M _ _ H M _ k' (fun v d' H' M' e x dv => by rw [e] at dv; exact q v H' M' x dv) (fun env σ H' M' f e k => q _ H' M' k.out (by rw [e]; exact .non)) (fun _ _ _ _ _ z => z.elim) (fun _ _ _ _ _ z => z.elim)
theorem PFS.len {K : PySem.W.Frag} {R : List Int → List PyData → PyData → Prop} {n : Nat} (h : ∀ ns ds d, R ns ds d → ds.length + 1 = n) : ∀ vs H Q E, PFS K R vs H Q E → vs.length = n := fun vs H Q E ⟨M, a, ns, ws, ds, d, e, hS, s, hv, hR, _⟩ => by rw [e, List.length_cons, DqAll.len hv]; exact h ns ds d hR
theorem e_scrLen {K : PySem.W.Frag} {env : List Sl} {i : Nat} {ns : List Int} (hi : env[i]? = some (scr K ns)) : Pe K (tCB (fun xs H Q => ∃ p ys, xs = [.ref p] ∧ (SqL K H p ys ∨ SqT K H p ys) ∧ Q (.int ys.length) H) (tCons (tVar i) tNil)) env (.int ns.length) := fun H0 M0 H M fps σ Q k q => by
  obtain ⟨v, fp, e1, e2, e3, a, rfl, e4⟩ := k.sls.getR hi
  refine ⟨.ref a, e1, a, _, rfl, .inl (Same.sqL k.sub e4), ?_⟩
  rw [List.length_map]
  exact q _ H M (Ext.refl k.sub) (.int _)
theorem e_scrIx {K : PySem.W.Frag} {env : List Sl} {i : Nat} {ns : List Int} {tb : TE} {j z : Int} (hi : env[i]? = some (scr K ns)) (hb : Pe K tb env (.int j)) (hz : atI ns j = some z) : Pe K (tOp (rIxL K) (tVar i) tb) env (.int z) := fun H0 M0 H M fps σ Q k q => by
  obtain ⟨v, fp, e1, e2, e3, a, rfl, e4⟩ := k.sls.getR hi
  refine ⟨.ref a, e1, hb H0 M0 H M fps σ _ k fun y H1 M1 x1 dy => ⟨a, _, j, .int z, rfl, dq_int dy, Same.sqL (x1.m.trans x1.s) e4, ?_, q _ H1 M1 x1 (.int _)⟩⟩
  unfold atI at hz ⊢
  rw [List.length_map]
  cases c : ixN ns.length j with
  | none => rw [c] at hz; cases hz
  | some n =>
    rw [c] at hz
    show (ns.map V.int)[n]? = _
    rw [List.getElem?_map, show ns[n]? = some z from hz]; rfl
theorem e_ownLen {K : PySem.W.Frag} {env : List Sl} {i : Nat} {ds : List PyData} (hi : env[i]? = some (ownL K ds)) : Pe K (tCB (fun xs H Q => ∃ p ys, xs = [.ref p] ∧ (SqL K H p ys ∨ SqT K H p ys) ∧ Q (.int ys.length) H) (tCons (tVar i) tNil)) env (.int ds.length) := fun H0 M0 H M fps σ Q k q => by
  obtain ⟨v, fp, e1, e2, p, vs, rfl, rfl, e3, e4⟩ := k.sls.getR hi
  refine ⟨.ref p, e1, p, vs, rfl, .inl (SqL.of e3), ?_⟩
  rw [DqAll.len e4]
  exact q _ H M (Ext.refl k.sub) (.int _)
theorem e_ownIx {K : PySem.W.Frag} {env : List Sl} {i : Nat} {ds : List PyData} {tb : TE} {j : Int} {d : PyData} (hi : env[i]? = some (ownL K ds)) (hb : Pe K tb env (.int j)) (hz : atI ds j = some d) : Pe K (tOp (rIxL K) (tVar i) tb) env d := fun H0 M0 H M fps σ Q k q => by
  obtain ⟨v, fp, e1, e2, p, vs, rfl, rfl, e3, e4⟩ := k.sls.getR hi
  refine ⟨.ref p, e1, hb H0 M0 H M fps σ _ k fun y H1 M1 x1 dy => ?_⟩
  obtain ⟨v, f1, f2⟩ := dq_at (DqAll.same x1.m e4) hz
  exact ⟨p, vs, j, v, rfl, dq_int dy, SqL.of (x1.h _ _ e3), f1, q v H1 M1 x1 f2⟩
/-- the law's own promise -/
inductive RLaw (ns : List Int) : List PyData → PyData → Prop
  | mk (h : ns.length ≤ 63) : RLaw ns [] (.bool true)
theorem law_imp {K : PySem.W.Frag} {vs : List V} {H : Hp} {Q : VK} {E : XK} (h : ∃ (a : Addr) (ns : List Int), vs = [.ref a] ∧ SqL K H a (ns.map V.int) ∧ ns.length ≤ 63 ∧ ∀ H', Q (.bl true) H') : PFS K RLaw vs H Q E := by
  obtain ⟨a, ns, rfl, hS, hl, q⟩ := h
  exact ⟨H, a, ns, [], [], .bool true, rfl, hS, Same.refl H, .nil, ⟨hl⟩, fun v H' M' _ dv => by rw [dq_bool dv]; exact q H'⟩
end Y


/-! ### sorted(xs) of data that is told by any relation -/
namespace Y
open PySem L2
open PySem.W (EachIs AllAlike Sortable dataLe)
def rSortQ (K : PySem.W.Frag) : List V → Hp → VK → Prop := fun xs H Q => ∃ (l : Addr) (vs : List V) (ds : List PyData) (W : V → PyData → Prop), xs = [.ref l] ∧ SqL K H l vs ∧ (∀ x d, W x d → Dp K H x d) ∧ EachIs W vs ds ∧ AllAlike ds ∧ Sortable ds ∧ (∀ d ∈ ds, d.depth ≤ 20) ∧
  ∀ (p : Addr) (vs' : List V), H p = none → EachIs W vs' (ds.mergeSort (dataLe false id)) → Q (.ref p) (upd H p (.lst vs'))
section
variable {X : Cx} {pins : List (Addr × Obj)} {σ : L2.St} {H : Hp} {s : Shared} {W : V → PyData → Prop}
theorem eachq_of : ∀ {vs : List V} {us : List Value} {ds : List PyData}, Vals vs us → EachIs W vs ds → EachIs (fun u d => ∃ x, RelV x u ∧ W x d) us ds
  | _, _, _, .nil, .nil => .nil
  | _, _, _, .cons r t, .cons d e => .cons ⟨_, r, d⟩ (eachq_of t e)
theorem eachq_reads (I : Inv X pins σ H s) (hW : ∀ x d, W x d → Dp X.K H x d) : ∀ {us : List Value} {ds : List PyData}, EachIs (fun u d => ∃ x, RelV x u ∧ W x d) us ds → EachIs (fun u d => ∃ as, PySem.Reads s.heap u (id d) as) us ds
  | _, _, .nil => .nil
  | _, _, .cons h t => .cons (by obtain ⟨x, r, d⟩ := h; exact Dp.reads I _ _ _ (hW _ _ d) r) (eachq_reads I hW t)
theorem eachq_back : ∀ {us : List Value} {ds : List PyData}, EachIs (fun u d => ∃ x, RelV x u ∧ W x d) us ds → ∃ vs, Vals vs us ∧ EachIs W vs ds
  | _, _, .nil => ⟨[], .nil, .nil⟩
  | _, _, .cons h t => by
    obtain ⟨x, r, d⟩ := h
    obtain ⟨vs, h1, h2⟩ := eachq_back t
    exact ⟨x :: vs, .cons r h1, .cons d h2⟩
theorem eachq_len : ∀ {vs : List V} {ds : List PyData}, EachIs W vs ds → vs.length = ds.length
  | _, _, .nil => rfl
  | _, _, .cons _ t => by rw [List.length_cons, List.length_cons, eachq_len t]
theorem cr_sortQ (hu : X.A.units + 64 < cLine) : CallR X (.builtin "sorted") (rSortQ X.K) := by
  intro pins s σ H vs us Q I r h
  obtain ⟨a, xs, ds, W, rfl, hs, hW, hd, hal, hso, hdep, q⟩ := h
  obtain ⟨its, rv, hl, hz⟩ := I.list hs
  rw [Vals.ref1 r]
  have hlen : ds.length = xs.length := (eachq_len hd).symm
  have e := eachq_of rv hd
  refine PySem.W.sorted_data (R := fun u d => ∃ x, RelV x u ∧ W x d) (enc := id) (bs := ds) hl.isList e (eachq_reads I hW e) (by rw [List.map_id]; exact hal) (by rw [List.map_id]; exact hso) (by rw [hlen]; exact hz) (fun d hd => ?_) fun out h1 h2 => ?_
  · have := hdep d hd
    show _ + 2 + d.depth < _
    omega
  · obtain ⟨vs', k1, k2⟩ := eachq_back h2
    obtain ⟨ep, he'⟩ := PyProof.Rows.sortedAll_at s.heap its out.toArray
    have hl2 : vs'.length = xs.length := by rw [k1.length, h1, hlen]
    exact ⟨.ref _, upd H (s.heap.objs.size + 1) (.lst vs'), I.laid (t' := s.toks) (fun _ _ => PyProof.Rows.sortedAll_old) (Nat.le_succ _) ⟨by rw [hl2]; exact hz, out, ep, k1, he'⟩, rfl, q _ _ (I.hok.fresh (Nat.le_succ _)) k2⟩
end
theorem dqA_each {K : PySem.W.Frag} {M : Hp} : ∀ {vs : List V} {ds : List PyData}, DqAll K M vs ds → (∀ d ∈ ds, d.canLay0 = true) → EachIs (fun v d => Dq K M v d ∧ d.canLay0 = true) vs ds
  | _, _, .nil, _ => .nil
  | _, _, .cons a b, h => .cons ⟨a, h _ List.mem_cons_self⟩ (dqA_each b fun d hd => h d (List.mem_cons_of_mem _ hd))
theorem each_dqA {K : PySem.W.Frag} {M : Hp} : ∀ {vs : List V} {ds : List PyData}, EachIs (fun v d => Dq K M v d ∧ d.canLay0 = true) vs ds → DqAll K M vs ds
  | _, _, .nil => .nil
  | _, _, .cons a b => .cons a.1 (each_dqA b)
theorem c_sort {K : PySem.W.Frag} {ds es : List PyData} (he : ds.mergeSort (dataLe false id) = es) (hal : AllAlike ds) (hso : Sortable ds) (hdep : ∀ d ∈ ds, d.depth ≤ 20) (hcl : ∀ d ∈ ds, d.canLay0 = true) : Pc K (rSortQ K) [.list ds] (.list es) := fun H M vs Q s h0 q => by
  obtain ⟨v, rfl, h⟩ := dqA_one h0
  obtain ⟨a, xs, rfl, h1, h2⟩ := dq_lstI h
  refine ⟨a, xs, ds, fun v d => Dq K M v d ∧ d.canLay0 = true, rfl, SqL.of (s _ _ h1), fun x d hd => Dq.dp (Dq.same s hd.1) hd.2, dqA_each h2 hcl, hal, hso, hdep, fun p vs' hp hs => ?_⟩
  rw [he] at hs
  exact q _ _ _ (Ext.laid s hp) (.lst upd_same (DqAll.same (Ext.laid s hp).m (each_dqA hs)))
theorem sort_ints {ns : List Int} (h : ns.Pairwise (· ≤ ·)) : (ns.map PyData.int).mergeSort (dataLe false id) = ns.map PyData.int := by
  refine List.mergeSort_of_pairwise ?_
  rw [List.pairwise_map]
  refine h.imp fun {a b} hab => ?_
  have e := PySem.W.dataLe_int (β := Int) id
  have e2 := congrFun (congrFun e a) b
  show dataLe false id (PyData.int a) (PyData.int b) = true
  exact e2.trans (decide_eq_true hab)
theorem alike_intsD (ns : List Int) : AllAlike (ns.map PyData.int) := AllAlike.of fun _ _ => rfl
theorem sortable_intsD (ns : List Int) : Sortable (ns.map PyData.int) := Sortable.others fun b => ⟨fun z => (nomatch z), fun xs z => (nomatch z)⟩
theorem depth_intsD (ns : List Int) : ∀ d ∈ ns.map PyData.int, d.depth ≤ 20 := fun d hd => by
  obtain ⟨b, _, rfl⟩ := List.mem_map.mp hd
  simp [PyData.depth]
theorem c_sortI {K : PySem.W.Frag} {ns : List Int} (h : ns.Pairwise (· ≤ ·)) : Pc K (rSortQ K) [.list (ns.map .int)] (.list (ns.map .int)) := c_sort (sort_ints h) (alike_intsD ns) (sortable_intsD ns) (depth_intsD ns) (fun d hd => by obtain ⟨b, _, rfl⟩ := List.mem_map.mp hd; rfl)
end Y


/-! ### equality of data without bools -/
namespace Y
open PySem L2
mutual
def nb : PyData → Bool
  | .none => true
  | .bool _ => false
  | .int _ => true
  | .str _ => true
  | .list xs => nbAll xs
  | .tuple xs => nbAll xs
  | .dict _ => false
def nbAll : List PyData → Bool
  | [] => true
  | x :: xs => nb x && nbAll xs
end
mutual
theorem eqv_eq : ∀ d e : PyData, nb d = true → nb e = true → (PyData.eqv d e = true ↔ d = e)
  | .none, e, _, _ => by cases e <;> simp [PyData.eqv]
  | .bool _, _, h, _ => by simp [nb] at h
  | .int i, e, _, h => by
    cases e <;> first | (simp [nb] at h; done) | simp [PyData.eqv]
  | .str i, e, _, h => by
    cases e <;> first | (simp [nb] at h; done) | simp [PyData.eqv]
  | .list xs, e, h, h2 => by
    cases e with
    | list ys =>
      simp only [nb] at h h2
      simp only [PyData.eqv]
      rw [eqvAll_eq xs ys h h2]
      exact ⟨fun e => by rw [e], fun e => by injection e⟩
    | _ => first | (simp [nb] at h2; done) | simp [PyData.eqv]
  | .tuple xs, e, h, h2 => by
    cases e with
    | tuple ys =>
      simp only [nb] at h h2
      simp only [PyData.eqv]
      rw [eqvAll_eq xs ys h h2]
      exact ⟨fun e => by rw [e], fun e => by injection e⟩
    | _ => first | (simp [nb] at h2; done) | simp [PyData.eqv]
  | .dict _, _, h, _ => by simp [nb] at h
theorem eqvAll_eq : ∀ xs ys : List PyData, nbAll xs = true → nbAll ys = true → (PyData.eqvAll xs ys = true ↔ xs = ys)
  | [], [], _, _ => by simp [PyData.eqvAll]
  | [], _ :: _, _, _ => by simp [PyData.eqvAll]
  | _ :: _, [], _, _ => by simp [PyData.eqvAll]
  | x :: xs, y :: ys, h, h2 => by
    simp only [nbAll, Bool.and_eq_true] at h h2
    simp only [PyData.eqvAll, Bool.and_eq_true]
    rw [eqv_eq x y h.1 h2.1, eqvAll_eq xs ys h.2 h2.2]
    exact ⟨fun ⟨a, b⟩ => by rw [a, b], fun e => by injection e with a b; exact ⟨a, b⟩⟩
end
/-- data that == can compare and tells apart -/
def okd (d : PyData) : Prop := nb d = true ∧ SeqAt.shaped d = true
section
variable {K : PySem.W.Frag}
theorem o_eqP {d e : PyData} {p : Prop} [Decidable p] (hd : okd d) (he : okd e) (h : d = e ↔ p) : Po K (rEqD K) d e (.bool (decide p)) := by
  have := o_eqD (K := K) hd.2 he.2
  rw [show PyData.eqv d e = decide p by
    rw [Bool.eq_iff_iff, decide_eq_true_iff, eqv_eq d e hd.1 he.1]; exact h] at this
  exact this
theorem o_neP {d e : PyData} {p : Prop} [Decidable p] (hd : okd d) (he : okd e) (h : d = e ↔ p) : Po K (rNeD K) d e (.bool (!decide p)) := by
  have := o_neD (K := K) hd.2 he.2
  rw [show PyData.eqv d e = decide p by
    rw [Bool.eq_iff_iff, decide_eq_true_iff, eqv_eq d e hd.1 he.1]; exact h] at this
  exact this
/-- equal ones -/
theorem o_eqT {d e : PyData} (hd : SeqAt.shaped d = true) (h : d = e) : Po K (rEqD K) d e (.bool true) := by
  subst h
  have := o_eqD (K := K) hd hd
  rw [PySem.SeqAt.eqv_refl d (SeqAt.canLay_of_shaped hd)] at this
  exact this
theorem o_neF {d e : PyData} (hd : SeqAt.shaped d = true) (h : d = e) : Po K (rNeD K) d e (.bool false) := by
  subst h
  have := o_neD (K := K) hd hd
  rw [PySem.SeqAt.eqv_refl d (SeqAt.canLay_of_shaped hd)] at this
  exact this
end
theorem nb_all {xs : List PyData} : nbAll xs = true ↔ ∀ x ∈ xs, nb x = true := by
  induction xs with
  | nil => exact ⟨fun _ x h => (nomatch h), fun _ => rfl⟩
  | cons y xs ih => rw [nbAll, Bool.and_eq_true, ih]; simp
theorem lay_all {xs : List PyData} : PyData.canLayAll0 xs = true ↔ ∀ x ∈ xs, x.canLay0 = true := by
  induction xs with
  | nil => exact ⟨fun _ x h => (nomatch h), fun _ => rfl⟩
  | cons y xs ih => rw [PyData.canLayAll0, Bool.and_eq_true, ih]; simp
theorem depth_all {xs : List PyData} {n : Nat} : PyData.depthAll xs ≤ n ↔ ∀ x ∈ xs, x.depth ≤ n := by
  induction xs with
  | nil => exact ⟨fun _ x h => (nomatch h), fun _ => Nat.zero_le n⟩
  | cons y xs ih => rw [PyData.depthAll, Nat.max_le, ih]; simp
/-- fit to be compared, with a depth of at most n -/
def okn (n : Nat) (d : PyData) : Prop := nb d = true ∧ d.canLay0 = true ∧ d.depth ≤ n
theorem okn.okd {n : Nat} {d : PyData} (h : okn n d) (hn : n ≤ 64 := by decide) : okd d := ⟨h.1, by
  unfold SeqAt.shaped
  rw [Bool.and_eq_true]
  exact ⟨h.2.1, decide_eq_true (Nat.le_trans h.2.2 hn)⟩⟩
theorem okn.sh {n : Nat} {d : PyData} (h : okn n d) (hn : n ≤ 64 := by decide) : SeqAt.shaped d = true := (h.okd hn).2
theorem okn_int {n : Nat} {i : Int} : okn n (.int i) := ⟨by simp [nb], by simp [PyData.canLay0], by simp [PyData.depth]⟩
theorem okn_non {n : Nat} : okn n .none := ⟨by simp [nb], by simp [PyData.canLay0], by simp [PyData.depth]⟩
theorem okn_str {n : Nat} {z : Str} (h : PyData.strOk z = true) : okn n (.str z) := ⟨by simp [nb], by simp [PyData.canLay0, h], by simp [PyData.depth]⟩
theorem okn_tup {n : Nat} {ds : List PyData} (h : ∀ d ∈ ds, okn n d) : okn (n + 1) (.tuple ds) :=
  ⟨by rw [nb]; exact nb_all.mpr fun d hd => (h d hd).1, by rw [PyData.canLay0]; exact lay_all.mpr fun d hd => (h d hd).2.1, by rw [PyData.depth]; exact Nat.succ_le_succ (depth_all.mpr fun d hd => (h d hd).2.2)⟩
theorem okn_lst {n : Nat} {ds : List PyData} (h : ∀ d ∈ ds, okn n d) : okn (n + 1) (.list ds) :=
  ⟨by rw [nb]; exact nb_all.mpr fun d hd => (h d hd).1, by rw [PyData.canLay0]; exact lay_all.mpr fun d hd => (h d hd).2.1, by rw [PyData.depth]; exact Nat.succ_le_succ (depth_all.mpr fun d hd => (h d hd).2.2)⟩
theorem okn_ints {n : Nat} {ns : List Int} : ∀ d ∈ ns.map PyData.int, okn n d := fun d hd => by
  obtain ⟨i, _, rfl⟩ := List.mem_map.mp hd
  exact okn_int
theorem all_nil {p : PyData → Prop} : ∀ d ∈ ([] : List PyData), p d := fun _ h => nomatch h
theorem all_cons {p : PyData → Prop} {x : PyData} {xs : List PyData} (h : p x) (t : ∀ d ∈ xs, p d) : ∀ d ∈ x :: xs, p d := fun d hd => (List.mem_cons.mp hd).elim (fun e => by rw [e]; exact h) (t d)
end Y


/-! ### more: lists that are repeated, copied, stored into -/
namespace Y
open PySem L2
section
variable {K : PySem.W.Frag} {R : Rt} {B C N : EnvP} {env : List Sl} {t u v : TS}
theorem DqAll.rep {M : Hp} {vs : List V} {ds : List PyData} (h : DqAll K M vs ds) : ∀ n : Nat, DqAll K M (List.replicate n vs).flatten (List.replicate n ds).flatten
  | 0 => .nil
  | n + 1 => by
    rw [List.replicate_succ, List.replicate_succ, List.flatten_cons, List.flatten_cons]
    exact DqAll.app h (DqAll.rep h n)
theorem o_rep {ds : List PyData} {k : Int} (h1 : -(2 ^ 63) ≤ k) (h2 : k < 2 ^ 63) (h3 : ds.length * k.toNat ≤ sizeLine) : Po K rRep (.list ds) (.int k) (.list (List.replicate k.toNat ds).flatten) := fun H M x y Q s hx hy q => by
  obtain ⟨a, xs, rfl, e1, e2⟩ := dq_lstI hx
  refine ⟨a, k, xs, rfl, dq_int hy, s _ _ e1, h1, h2, by rw [DqAll.len e2]; exact h3, fun p hp => ?_⟩
  exact q _ _ _ (Ext.laid s hp) (.lst upd_same (DqAll.same (Ext.laid s hp).m (DqAll.rep e2 _)))
/-- list(xs), a new list -/
theorem f_list {te : TE} {ds : List PyData} (he : Pe K te env (.list ds)) : Pf K (tCB (fun xs H Q => ∃ p ys, xs = [.ref p] ∧ (SqL K H p ys ∨ SqT K H p ys) ∧ ∀ l, H l = none → Q (.ref l) (upd H l (.lst ys))) (tCons te tNil)) env ds := fun H0 M0 H M fps σ Q k q => by
  refine he H0 M0 H M fps σ _ k fun v H1 M1 x1 dv => ?_
  obtain ⟨a, xs, rfl, e1, e2⟩ := dq_lstI dv
  refine ⟨a, xs, rfl, .inl (SqL.of (x1.s _ _ e1)), fun p hp => ?_⟩
  have mp := none_of x1.s hp
  refine q p xs _ M1 ⟨fun b u e => ?_, x1.m, fun b u e => ?_, x1.n⟩ (none_of x1.h hp) mp upd_same e2
  · have e' := x1.h b u e
    rw [upd_ne (fun z => by rw [z, hp] at e'; cases e')]; exact e'
  · rw [upd_ne (fun z => by rw [z, mp] at e; cases e)]; exact x1.s b u e
/-- an own list as a new one: list(xs) -/
theorem f_listO {i : Nat} {ds : List PyData} (hi : env[i]? = some (ownL K ds)) : Pf K (tCB (fun xs H Q => ∃ p ys, xs = [.ref p] ∧ (SqL K H p ys ∨ SqT K H p ys) ∧ ∀ l, H l = none → Q (.ref l) (upd H l (.lst ys))) (tCons (tVar i) tNil)) env ds := fun H0 M0 H M fps σ Q k q => by
  obtain ⟨v, fp, e1, e2, a, xs, rfl, rfl, e3, e4⟩ := k.sls.getR hi
  refine ⟨.ref a, e1, a, xs, rfl, .inl (SqL.of e3), fun p hp => ?_⟩
  have mp := none_of k.sub hp
  refine q p xs _ M ⟨fun b u e => ?_, Same.refl M, fun b u e => ?_, fun _ _ e => .inl e⟩ hp mp upd_same e4
  · rw [upd_ne (fun z => by rw [z, hp] at e; cases e)]; exact e
  · rw [upd_ne (fun z => by rw [z, mp] at e; cases e)]; exact k.sub b u e
theorem DqAll.set {M : Hp} {v : V} {d : PyData} (h : Dq K M v d) : ∀ {vs : List V} {ds : List PyData} (n : Nat), DqAll K M vs ds → DqAll K M (vs.set n v) (ds.set n d)
  | _, _, _, .nil => .nil
  | _, _, 0, .cons _ t => .cons h t
  | _, _, n + 1, .cons a t => .cons a (DqAll.set h n t)
/-- xs[j] = e, xs an own list -/
theorem s_setIt {i n : Nat} {ds : List PyData} {te ti : TE} {d : PyData} {j : Int} (hi : env[i]? = some (ownL K ds)) (he : Pe K te env d) (hj : Pe K ti env (.int j)) (hn : ixN ds.length j = some n) (h : N (env.set i (ownL K (ds.set n d)))) : Ps K R B C (tAsg te (gSub (tVar i) ti rSetL)) env N := fun H0 M0 D σ H M fps k r nn b c => by
  refine he H0 M0 H M fps σ _ k fun v H1 M1 x1 dv => ?_
  have k1 := k.ext x1
  obtain ⟨w, fp, e1, e2, p, vs, rfl, rfl, e3, e4⟩ := k1.sls.getR hi
  refine ⟨.ref p, e1, hj H0 M0 H1 M1 fps σ _ k1 fun y H2 M2 x2 dy => ?_⟩
  refine ⟨p, vs, j, n, rfl, dq_int dy, x2.h _ _ e3, by rw [DqAll.len e4]; exact hn, nn _ _ _ _ _ h ((k1.ext x2).put (ds := ds) (vs := vs) e1 e2 (DqAll.set (Dq.same x2.m dv) n (DqAll.same x2.m e4)))⟩
theorem s_seq_setIt {i n : Nat} {ds : List PyData} {te ti : TE} {d : PyData} {j : Int} (hi : env[i]? = some (ownL K ds)) (he : Pe K te env d) (hj : Pe K ti env (.int j)) (hn : ixN ds.length j = some n) (h : Ps K R B C u (env.set i (ownL K (ds.set n d))) N) : Ps K R B C (tSeq (tAsg te (gSub (tVar i) ti rSetL)) u) env N :=
  s_mid (fun e => e = env.set i (ownL K (ds.set n d))) (s_setIt hi he hj hn rfl) fun e he => by rw [he]; exact h
theorem s_seq_listF {i : Nat} {te : TE} {ds : List PyData} (he : Pe K te env (.list ds)) (hi : i < env.length) (h : Ps K R B C u (env.set i (ownL K ds)) N) : Ps K R B C (tSeq (tAsg (tCB (fun xs H Q => ∃ p ys, xs = [.ref p] ∧ (SqL K H p ys ∨ SqT K H p ys) ∧ ∀ l, H l = none → Q (.ref l) (upd H l (.lst ys))) (tCons te tNil)) (gName i)) u) env N :=
  s_seq_setF (f_list he) h hi
/-- .. and from then on it is data -/
theorem s_seq_setItZ {i n : Nat} {ds es : List PyData} {te ti : TE} {d : PyData} {j : Int} (hi : env[i]? = some (ownL K ds)) (he : Pe K te env d) (hj : Pe K ti env (.int j)) (hn : ixN ds.length j = some n) (hs : ds.set n d = es) (hl : i < env.length) (h : Ps K R B C u (env.set i (.val (.list es))) N) : Ps K R B C (tSeq (tAsg te (gSub (tVar i) ti rSetL)) u) env N := by
  refine s_seq_setIt hi he hj hn (s_froz i (ds := es) ?_ ?_)
  · rw [hs, List.getElem?_set_self hl]
  · rw [List.set_set]; exact h
end
end Y


/-! ### ranges with a step, new lists of some things, all but the last -/
namespace Y
open PySem L2
section
variable {K : PySem.W.Frag} {R : Rt} {B C N : EnvP} {env : List Sl} {t u v : TS}
abbrev encR3 (lo c : Int) (i : Nat) : PyData := .int (lo + (i : Nat) * c)
theorem w_range3 {ta : TA} {i j c : Int} {n : Nat} (ha : Pa K ta env [.int i, .int j, .int c]) (hr : RgC i j c n) : Pw K (iRng3 ta) env ((List.range n).map (encR3 i c)) := fun H0 M0 H M fps σ Q k q => by
  refine ha H0 M0 H M fps σ _ k fun vs H1 M1 x1 dv => ?_
  cases dv with | cons a dv =>
  obtain ⟨v, w, rfl, h, h'⟩ := dqA_two dv
  rw [dq_int a, dq_int h, dq_int h']
  refine ⟨i, j, c, n, rfl, hr, q _ _ M1 x1 ⟨_, _, (by rw [List.length_map, List.length_range]; exact walk_rangeC), fun _ _ _ _ => True.intro, ?_⟩⟩
  rintro m H M x H' hi a b ⟨rfl, rfl⟩
  rw [List.length_map, List.length_range] at hi
  refine ⟨M, encR3 i c m, Ext.refl b, ?_, .int _⟩
  rw [List.getElem?_map, List.getElem?_range hi]; rfl
theorem rgc_two {j : Int} (h1 : 0 ≤ j) (h2 : j < 2 ^ 62) : RgC 0 j 2 ((j + 1) / 2).toNat := by
  have e : Builtin.Range.rangeSize 0 j 2 = (j + 1) / 2 := by
    unfold Builtin.Range.rangeSize
    simp only [show (2 : Int) > 0 by decide, if_true]
    split <;> omega
  refine ⟨by decide, by decide, ?_, by rw [e]; omega⟩
  unfold Builtin.Range.small
  rw [e]
  simp only [Builtin.Range.rangeFitsLong, Bool.and_eq_true, Bool.or_eq_true, decide_eq_true_eq, beq_iff_eq, show (2 : Int) > 0 by decide, if_true]
  omega
/-- xs = [.. , ..], an own list -/
theorem s_seq_newL {i : Nat} {ta : TA} {ds : List PyData} (ha : Pa K ta env ds) (hl : ds.length ≤ sizeLine) (hi : i < env.length) (h : Ps K R B C u (env.set i (ownL K ds)) N) : Ps K R B C (tSeq (tAsg (tLst ta) (gName i)) u) env N :=
  s_seq_setF (f_lst ha hl) h hi
end
theorem cutG_init {α : Type} (xs : List α) : cutG xs none (some (-1)) = xs.dropLast := by
  show (xs.drop 0).take ((if (-1 : Int) < 0 then (-1 + (xs.length : Int)).toNat else min (-1 : Int).toNat xs.length) - 0) = _
  rw [if_pos (by decide), List.drop_zero, Nat.sub_zero, List.dropLast_eq_take]
  congr 1
  omega
theorem atI_last {α : Type} {xs : List α} {x : α} : atI (xs ++ [x]) (-1) = some x := by
  unfold atI ixN
  rw [List.length_append, List.length_singleton, if_neg (by decide), if_pos (by omega)]
  show (xs ++ [x])[(-1 + ((xs.length + 1 : Nat) : Int)).toNat]? = _
  rw [show (-1 + ((xs.length + 1 : Nat) : Int)).toNat = xs.length by omega, List.getElem?_concat_length]
end Y


/-! ### steps by themselves -/
open Y
theorem cxK {CX : CXT} {P : Program} {w : World} {K : PySem.W.Frag} {mg : Str → Option Value} {base : Heap} {N : List Str} {q : Str} {sc : Scope} {f : Addr} {cd : Value} {A : Around} {outer : List Env} {s : Shared} {H : Hp} {E : XK} : (cxOf CX P w K mg base N q sc f cd A outer s H E).nox.K = K := rfl
theorem cxK' {CX : CXT} {P : Program} {w : World} {K : PySem.W.Frag} {mg : Str → Option Value} {base : Heap} {N : List Str} {q : Str} {sc : Scope} {f : Addr} {cd : Value} {A : Around} {outer : List Env} {s : Shared} {H : Hp} {E : XK} : (cxOf CX P w K mg base N q sc f cd A outer s H E).K = K := rfl
def ySpLaw (K : PySem.W.Frag) : Sp := fun vs H Q _ => ∃ (a : Addr) (ns : List Int), vs = [.ref a] ∧ SqL K H a (ns.map V.int) ∧ ns.length ≤ 63 ∧ ∀ H', Q (.bl true) H'


open Y
local macro_rules
  | `(tactic| tb_start) => `(tactic| ((try dsimp only [cxK, cxK', List.map, List.length_cons, List.length_nil, List.cons_append, List.nil_append, Nat.reduceAdd, Nat.reduceSub, Nat.zero_add, Nat.add_zero, List.replicate, List.set]); repeat (first | ((with_reducible change Pe _ _ _ _); (first | ((with_reducible apply e_var); rfl) | ((with_reducible change Pe _ (tC _) _ _); (first | (with_reducible apply e_int) | (with_reducible apply e_str) | (with_reducible apply e_bl) | (with_reducible apply e_non))) | ((with_reducible change Pe _ (tOp _ _ _) _ _); (first | ((with_reducible apply e_scrIx); rfl) | ((with_reducible apply e_ownIx); rfl) | (with_reducible apply e_op))) | ((with_reducible change Pe _ (tCall _ _ _ _) _ _); (first | ((with_reducible apply e_callS); rfl) | (with_reducible apply e_call) | ((with_reducible apply e_of); (with_reducible apply f_call)))) | ((with_reducible change Pe _ (tCB _ _) _ _); (first | ((with_reducible apply e_scrLen); rfl) | ((with_reducible apply e_ownLen); rfl) | (with_reducible apply e_cb))) | (with_reducible apply e_tup) | (with_reducible apply e_lst) | (with_reducible apply e_sl) | (with_reducible apply e_ifS) | (with_reducible apply e_un) | (with_reducible apply e_and) | (with_reducible apply e_or) | (with_reducible apply e_not) | (with_reducible apply e_chain) | (with_reducible apply e_dget) | (with_reducible apply e_din) | (with_reducible apply e_m1))) | ((with_reducible change Pa _ _ _ _); (first | (with_reducible apply a_nil) | (with_reducible apply a_cons))) | ((with_reducible change Po _ _ _ _ _); (first | (with_reducible apply o_i0) | (with_reducible apply o_b0) | (with_reducible apply o_iC) | (with_reducible apply o_eqI) | (with_reducible apply o_neI) | (with_reducible apply o_ixL) | (with_reducible apply o_ixT) | (with_reducible apply o_eqS) | (with_reducible apply o_neS) | (with_reducible apply o_eqB) | (with_reducible apply o_neB) | (with_reducible apply o_isN) | (with_reducible apply o_notN) | (with_reducible apply o_ip) | (with_reducible apply o_addS) | (with_reducible apply o_inS) | (with_reducible apply o_cat) | (with_reducible apply o_catA) | (with_reducible apply o_ixS))) | ((with_reducible change Pc _ _ _ _); (first | (with_reducible apply c_int) | (with_reducible apply c_lenL) | (with_reducible apply c_lenT) | (with_reducible apply c_lenS) | (with_reducible apply c_intB) | (with_reducible apply c_ord) | (with_reducible apply c_max2) | (with_reducible apply c_min2) | (with_reducible apply c_listL) | (with_reducible apply c_listT) | (with_reducible apply c_tupL) | (with_reducible apply c_tupT))) | ((with_reducible change Pt _ _ _ _); (first | (with_reducible apply t_test) | (with_reducible apply t_b) | (with_reducible apply t_and) | (with_reducible apply t_or) | (with_reducible apply t_not) | (with_reducible apply t_yes))) | ((with_reducible change Ps _ _ _ _ _ _ _); (first | dsimp only [List.set] | (with_reducible apply s_assoc) | (with_reducible apply s_seq_next) | (with_reducible apply s_next) | ((with_reducible change Ps _ _ _ _ (tSeq (tRet _) _) _ _); (first | ((with_reducible apply s_seq_retO); rfl) | (with_reducible apply s_seq_ret))) | ((with_reducible change Ps _ _ _ _ (tRet _) _ _); (first | ((with_reducible apply s_retO); rfl) | (with_reducible apply s_ret))) | (with_reducible apply s_seq_if) | (with_reducible apply s_if) | tb_rel | (with_reducible apply s_seq_new0) | (with_reducible apply s_seq_callF) | ((with_reducible apply s_seq_app); rfl) | ((with_reducible apply s_app); rfl) | (with_reducible apply s_seq_set) | (with_reducible apply s_set) | ((with_reducible apply s_seq_aug); rfl) | ((with_reducible apply s_aug); rfl) | (with_reducible apply s_seq_asg) | (with_reducible apply s_asg))) | ((with_reducible change Psl _ _ _ _); (first | (with_reducible apply p_no) | (with_reducible apply p_at))) | ((with_reducible change Psr _ _ _ _ _ _); (first | (with_reducible assumption) | (with_reducible apply sl_L) | (with_reducible apply sl_T) | (with_reducible apply sl_S))) | ((with_reducible change Pw _ _ _ _); (first | (with_reducible apply w_list) | (with_reducible apply w_tup) | (with_reducible apply w_str) | (with_reducible apply w_range1) | (with_reducible apply w_range2) | (with_reducible apply w_enum) | (with_reducible apply w_zip))) | ((with_reducible change Pg _ _ _ _ _ _); (first | (with_reducible apply g_name) | (with_reducible apply g_tup))) | ((with_reducible change Pgs _ _ _ _ _ _); (first | (with_reducible apply gs_nil) | (with_reducible apply gs_cons))) | (with_reducible apply u_i) | tb_rel | (with_reducible assumption) | (first | ((change CMul _ _); first | exact .inl ⟨by (first | decide | omega), by (first | decide | omega)⟩ | exact .inr ⟨by (first | decide | omega), by (first | decide | omega)⟩) | ((change CDiv _ _); exact ⟨by (first | decide | omega), by (first | decide | omega)⟩) | ((change CPow _ _); exact ⟨by decide, by decide, by decide⟩) | ((change @Eq PyData _ _); rfl) | ((change List.length _ = _); rfl) | ((change atI _ _ = some _); rfl) | ((change _ < List.length _); simp only [List.length_cons, List.length_nil]; omega) | ((change -(2 ^ 62) ≤ _); (first | decide | omega)) | ((change _ < 2 ^ 62); (first | decide | omega)) | ((change (0 : Int) < _); (first | decide | omega)) | ((change _ ≠ (0 : Int)); (first | decide | omega)) | ((change (0 : Int) ≤ _); (first | decide | omega)) | ((change _ ≤ sizeLine); (first | decide | (unfold sizeLine; first | omega | (simp only [List.length_cons, List.length_nil, List.length_append, List.length_map, List.length_take, List.length_drop, List.length_range]; omega)))) | ((change _ < sizeLine); (first | decide | (unfold sizeLine; first | omega | (simp only [List.length_cons, List.length_nil, List.length_append, List.length_map, List.length_take, List.length_drop, List.length_range]; omega))))) | (first | ((with_reducible intro hb); (first | (exfalso; exact Bool.noConfusion (show true = false from hb)) | (exfalso; exact Bool.noConfusion (show false = true from hb)) | ((try simp only [Bool.and_eq_true, Bool.or_eq_true, Bool.and_eq_false_imp, Bool.or_eq_false_iff, Bool.not_eq_true', Bool.not_eq_false', Bool.not_eq_true, Bool.not_eq_false, decide_eq_true_eq, decide_eq_false_iff_not, Bool.not_not, List.length_map, isN, Bool.false_or, Bool.true_or, Bool.or_false, Bool.true_and, Bool.and_true, Bool.false_and, Bool.not_true, Bool.not_false, Bool.false_eq_true, Bool.true_eq_false, reduceCtorEq] at hb); first | (exfalso; omega) | (exfalso; contradiction) | skip)))) | dsimp only [List.set] | ((with_reducible change Bool); exact false) | ((with_reducible change PyData); exact PyData.none))))


/-! ### cells and digits of the script (laws of the later stages) -/
section
variable {P : Program} {w : World} {K : PySem.W.Frag} {mg : Str → Option Value} {base : Heap} {A : Nat → Addr} {D : Nat → FuncData}
def cellF (ns : List Int) (k : Nat) : Int := ns.getD k 0
inductive RCell (ns : List Int) : List PyData → PyData → Prop
  | mk (k : Nat) : RCell ns [.int (k : Int)] (.int (cellF ns k))
theorem at_cell {ns : List Int} {k : Nat} (h : k < ns.length) : atI ns (k : Int) = some (cellF ns k) := atI_nat (by unfold cellF; rw [List.getD_eq_getElem?_getD, List.getElem?_eq_getElem h]; rfl)
theorem cell_out {ns : List Int} {k : Nat} (h : ¬ k < ns.length) : cellF ns k = 0 := by unfold cellF; rw [List.getD_eq_getElem?_getD, List.getElem?_eq_none (by omega)]; rfl
theorem ok__law_cell (T : Txt K mg A D) : FnOk P w K mg base CX0 1 (A 9) (D 9) ["script", "k"] (PFS K RCell) := by
  refine T.F__law_cell.ok (k := 0) sc__law_cell (PFS.len (by rintro _ _ _ ⟨⟩ <;> rfl)) (fun cdv A' outer s H vs Q E hr h => ?_)
  have hnd := sc__law_cell.nd
  refine ⟨_, (pss_cons (ps_if (pt_cmpR op_lt (pv 1) (pe_callB call_len_seq rfl T.z_len PySem.boot_len (pa_cons (pv 0) pa_nil)) (nomark _)) (pss_one (ps_ret (pe_ix (r := rIxL K) ix_list (pv 0) (pv 1) (fun _ _ => rfl)))) pss_nil) (pss_one (ps_ret pe_int))), runS h ?_⟩
  rintro ns _ _ ⟨k⟩
  by_cases c : k < ns.length
  · tb_start
    · exact at_cell c
    tb_start
  · have e := cell_out c
    tb_start
    rw [e]
end


/-! ### digits -/
section
variable {P : Program} {w : World} {K : PySem.W.Frag} {mg : Str → Option Value} {base : Heap} {A : Nat → Addr} {D : Nat → FuncData}
def stepB (m : Int) (p : Int × List Int) : Int × List Int := if 0 < p.1 ∧ (p.2.length : Int) < m then (p.1 / 1000, p.2 ++ [p.1 % 1000]) else p
def bigN (m c : Int) : Nat → Int × List Int
  | 0 => (c, [])
  | n + 1 => stepB m (bigN m c n)
def seedN (s : Int) : Nat → Int
  | 0 => s
  | n + 1 => (seedN s n * 16807 + 7 * (n : Int) + 1) % 2147483647
def absC (c : Int) : Int := if c < 0 then -1 - c else c
def smallD (s : Int) (n : Nat) : List Int := (List.range n).map fun i => (seedN s (i + 1) / 997) % 1000
def digF0 (c k m : Int) : List Int := if 10 ^ 18 ≤ absC c then (bigN m (absC c) 60).2 else smallD ((absC c * 48271 + k * 69621 + 11) % 2147483647) m.toNat
theorem digF_ex : ∃ f : Int → Int → Int → List Int, ∀ c k m, f c k m = digF0 c k m := ⟨_, fun _ _ _ => rfl⟩
noncomputable def digF : Int → Int → Int → List Int := Classical.choose digF_ex
theorem digF_eq (c k m : Int) : digF c k m = digF0 c k m := Classical.choose_spec digF_ex c k m
theorem smallD_succ (s : Int) (n : Nat) : smallD s (n + 1) = smallD s n ++ [(seedN s (n + 1) / 997) % 1000] := by
  unfold smallD
  rw [List.range_succ, List.map_append]; rfl
theorem bigN_len (m c : Int) : ∀ n, (bigN m c n).2.length ≤ n
  | 0 => Nat.le_refl 0
  | n + 1 => by
    have ih := bigN_len m c n
    show (stepB m (bigN m c n)).2.length ≤ n + 1
    unfold stepB
    split
    · rw [List.length_append]
      exact Nat.succ_le_succ ih
    · omega
theorem bigN_pos (m c : Int) : ∀ n, ∀ d ∈ (bigN m c n).2, 0 ≤ d
  | 0, d, h => nomatch h
  | n + 1, d, h => by
    have ih := bigN_pos m c n
    change d ∈ (stepB m (bigN m c n)).2 at h
    unfold stepB at h
    split at h
    · rcases List.mem_append.mp h with h | h
      · exact ih d h
      · rw [List.mem_singleton.mp h]
        exact Int.emod_nonneg _ (by decide)
    · exact ih d h
theorem digF_pos (c k m : Int) : ∀ d ∈ digF c k m, 0 ≤ d := fun d h => by
  rw [digF_eq] at h
  unfold digF0 at h
  split at h
  · exact bigN_pos _ _ _ d h
  · unfold smallD at h
    obtain ⟨i, _, rfl⟩ := List.mem_map.mp h
    exact Int.emod_nonneg _ (by decide)
theorem digF_len (c k m : Int) (hm : m ≤ 60) : (digF c k m).length ≤ 60 := by
  rw [digF_eq]
  unfold digF0
  split
  · exact bigN_len _ _ _
  · unfold smallD
    rw [List.length_map, List.length_range]; omega
inductive RDig : List PyData → List PyData → Prop
  | mk (c k m : Int) (h0 : 0 ≤ m) (h1 : m ≤ 60) : RDig [.int c, .int k, .int m] ((digF c k m).map .int)
theorem snocI {ds : List Int} {z : Int} : ds.map PyData.int ++ [.int z] = (ds ++ [z]).map .int := by rw [List.map_append]; rfl
theorem seedN_range (s : Int) (h : 0 ≤ s ∧ s < 2147483647) : ∀ n, 0 ≤ seedN s n ∧ seedN s n < 2147483647
  | 0 => h
  | n + 1 => ⟨Int.emod_nonneg _ (by decide), Int.emod_lt_of_pos _ (by decide)⟩
/-! padded digits -/
def zero20 (n : Nat) : List Int := (List.range n).map fun (i : Nat) => Int.ofNat i
theorem zero20_succ (n : Nat) : zero20 (n + 1) = zero20 n ++ [(n : Int)] := by
  unfold zero20
  rw [List.range_succ, List.map_append]; rfl
theorem padF_ex : ∃ f : Int → Int → List Int, ∀ c k, f c k = digF c k 20 ++ zero20 20 := ⟨_, fun _ _ => rfl⟩
noncomputable def padF : Int → Int → List Int := Classical.choose padF_ex
theorem padF_eq (c k : Int) : padF c k = digF c k 20 ++ zero20 20 := Classical.choose_spec padF_ex c k
inductive RPad : List PyData → List PyData → Prop
  | mk (c k : Int) : RPad [.int c, .int k] ((padF c k).map .int)
local macro_rules
  | `(tactic| tb_rel) => `(tactic| ((with_reducible change RDig _ _); exact RDig.mk _ _ _ (by first | decide | omega) (by first | decide | omega)))
theorem padF_len (c k : Int) : 20 ≤ (padF c k).length := by
  rw [padF_eq]
  unfold zero20
  rw [List.length_append, List.length_map, List.length_range]; omega
theorem padF_pos (c k : Int) : ∀ d ∈ padF c k, 0 ≤ d := fun d h => by
  rw [padF_eq] at h
  rcases List.mem_append.mp h with h | h
  · exact digF_pos _ _ _ d h
  · unfold zero20 at h
    obtain ⟨i, _, rfl⟩ := List.mem_map.mp h
    exact Int.natCast_nonneg i
noncomputable def dG (c k : Int) (i : Nat) : Int := (padF c k).getD i 0
theorem at_pad {c k : Int} (i : Nat) (h : i < 20) : atI ((padF c k).map PyData.int) (i : Int) = some (.int (dG c k i)) := by
  have hl := padF_len c k
  refine atI_nat ?_
  unfold dG
  rw [List.getElem?_map, List.getD_eq_getElem?_getD, List.getElem?_eq_getElem (by omega)]; rfl
theorem dG_pos (c k : Int) (i : Nat) : 0 ≤ dG c k i := by
  unfold dG
  rw [List.getD_eq_getElem?_getD]
  cases h : (padF c k)[i]? with
  | none => exact Int.le_refl 0
  | some d => exact padF_pos c k d (List.mem_of_getElem? h)
def pick {α : Type} (l : List α) (r : Int) (d : α) : α := l.getD r.toNat d
theorem atP {α : Type} (f : α → PyData) (l : List α) (d : α) {r : Int} (h0 : 0 ≤ r) (h1 : r < (l.length : Int)) : atI (l.map f) r = some (f (pick l r d)) := by
  obtain ⟨n, rfl⟩ := Int.eq_ofNat_of_zero_le h0
  refine atI_nat ?_
  unfold pick
  rw [Int.toNat_natCast, List.getElem?_map, List.getD_eq_getElem?_getD, List.getElem?_eq_getElem (by omega)]; rfl
theorem pick_mem {α : Type} (l : List α) (d : α) {r : Int} (h0 : 0 ≤ r) (h1 : r < (l.length : Int)) : pick l r d ∈ l := by
  unfold pick
  rw [List.getD_eq_getElem?_getD, List.getElem?_eq_getElem (by omega)]
  exact List.getElem_mem _
theorem mod_r (a : Int) {m : Int} (h : 0 < m) : 0 ≤ a % m ∧ a % m < m := ⟨Int.emod_nonneg _ (by omega), Int.emod_lt_of_pos _ h⟩
theorem cutG_take {α : Type} (xs : List α) {n : Int} (h : 0 ≤ n) : cutG xs none (some n) = xs.take n.toNat := by
  show (xs.drop 0).take ((if n < 0 then (n + (xs.length : Int)).toNat else min n.toNat xs.length) - 0) = _
  rw [if_neg (by omega), List.drop_zero, Nat.sub_zero]
  by_cases c : n.toNat ≤ xs.length
  · rw [Nat.min_eq_left c]
  · rw [Nat.min_eq_right (by omega), List.take_of_length_le (Nat.le_refl _), List.take_of_length_le (by omega)]
theorem cutG_drop {α : Type} (xs : List α) {n : Int} (h : 0 ≤ n) : cutG xs (some n) none = xs.drop n.toNat := by
  show (xs.drop (if n < 0 then (n + (xs.length : Int)).toNat else min n.toNat xs.length)).take (xs.length - (if n < 0 then (n + (xs.length : Int)).toNat else min n.toNat xs.length)) = _
  rw [if_neg (by omega)]
  by_cases c : n.toNat ≤ xs.length
  · rw [Nat.min_eq_left c, List.take_of_length_le (by rw [List.length_drop]; omega)]
  · rw [Nat.min_eq_right (by omega), Nat.sub_self, List.take_zero, List.drop_eq_nil_of_le (by omega)]
end


/-! ### sums and rows of leaves: the program -/
section
variable {P : Program} {w : World} {K : PySem.W.Frag} {mg : Str → Option Value} {base : Heap} {A : Nat → Addr} {D : Nat → FuncData}
def sumG (t m : Int) (row : List Int) : Int := row.foldl (fun t n => (31 * t + n + 1).fmod m) t
theorem sumG_succ {t m n : Int} {row : List Int} {i : Nat} (h : row[i]? = some n) : sumG t m (row.take (i + 1)) = (31 * sumG t m (row.take i) + n + 1).fmod m := by
  unfold sumG
  rw [List.take_add_one, h, List.foldl_append]; rfl
inductive RSum : List PyData → PyData → Prop
  | mk (row : List Int) (m : Int) (h : 0 < m) : RSum [.tuple (row.map .int), .int m] (.int (sumG 7 m row))
theorem ok_sum_of (T : Txt K mg A D) : FnOk P w K mg base CX0 1 (A 0) (D 0) ["row", "modulus"] (PF K RSum) := by
  refine T.F_sum_of.ok (k := 0) sc_sum_of (PF.len (by rintro _ _ ⟨⟩ <;> rfl)) (fun cdv A' outer s H vs Q E hr h => ?_)
  have hnd := sc_sum_of.nd
  obtain ⟨_, hFIRST_SUM⟩ := T.c_FIRST_SUM
  obtain ⟨_, hFACTOR⟩ := T.c_FACTOR
  refine ⟨_, (pss_cons (ps_set (i := 2) hnd rfl (Or.inl rfl) (pe_glob (v := V.int _) rfl hFIRST_SUM ⟨_, rfl⟩)) (pss_cons (ps_for PassesOwn.never rfl (pi_tup (pv 0)) (pg_name (i := 3) hnd rfl (Or.inl rfl)) (pss_one (ps_set (i := 2) hnd rfl (Or.inl rfl) (pe_op op_modN (pe_op op_add (pe_op op_add (pe_op op_mul (pe_glob (v := V.int _) rfl hFACTOR ⟨_, rfl⟩) (pv 2)) (pv 3)) pe_int) (pv 1))))) (pss_one (ps_ret (pv 2))))), run h ?_⟩
  rintro _ _ ⟨row, m, hm⟩
  tb_start
  apply s_seq_for (xs := row) (enc := .int) (fun i e => ∃ c, e = [.val (.tuple (row.map .int)), .val (.int m), .val (.int (sumG 7 m (row.take i))), c]) (fun _ => False)
  · tb_start
  · exact ⟨_, rfl⟩
  · rintro i n _ hn ⟨c, rfl⟩
    refine ⟨_, _, g_name, ?_⟩
    tb_start
    simp only [sumG_succ hn]
    exact ⟨_, rfl⟩
  · rintro _ ⟨c, rfl⟩
    tb_start
    rw [List.take_length]
  · exact fun _ z => z.elim
def oI : Option Int → PyData
  | none => .none
  | some i => .int i
end


section
variable {P : Program} {w : World} {K : PySem.W.Frag} {mg : Str → Option Value} {base : Heap} {A : Nat → Addr} {D : Nat → FuncData}
/-! ### the law's sums and rows -/
inductive RLS : List PyData → PyData → Prop
  | mk (row : List Int) (m : Int) (h : 0 < m) : RLS [.list (row.map .int), .int m] (.int (sumG ((7 : Int).fmod m) m row))
theorem ok__law_sum (T : Txt K mg A D) : FnOk P w K mg base CX0 1 (A 10) (D 10) ["row", "modulus"] (PF K RLS) := by
  refine T.F__law_sum.ok (k := 0) sc__law_sum (PF.len (by rintro _ _ ⟨⟩ <;> rfl)) (fun cdv A' outer s H vs Q E hr h => ?_)
  have hnd := sc__law_sum.nd
  refine ⟨_, (pss_cons (ps_set (i := 2) hnd rfl (Or.inl rfl) (pe_op op_modN (pe_callTy call_int1 rfl T.z_int (by decide +kernel) (pa_cons pe_int pa_nil)) (pv 1))) (pss_cons (ps_for PassesOwn.never rfl (pi_list (pv 0)) (pg_name (i := 3) hnd rfl (Or.inl rfl)) (pss_one (ps_set (i := 2) hnd rfl (Or.inl rfl) (pe_op op_modN (pe_callTy call_int1 rfl T.z_int (by decide +kernel) (pa_cons (pe_op op_add (pe_op op_add (pe_op op_mul pe_int (pv 2)) (pv 3)) pe_int) pa_nil)) (pv 1))))) (pss_one (ps_ret (pv 2))))), run h ?_⟩
  rintro _ _ ⟨row, m, hm⟩
  tb_start
  apply s_seq_for (xs := row) (enc := .int) (fun i e => ∃ c, e = [.val (.list (row.map .int)), .val (.int m), .val (.int (sumG ((7 : Int).fmod m) m (row.take i))), c]) (fun _ => False)
  · tb_start
  · exact ⟨_, rfl⟩
  · rintro i n _ hn ⟨c, rfl⟩
    refine ⟨_, _, g_name, ?_⟩
    simp only [sumG_succ hn]
    tb_start
    exact ⟨_, rfl⟩
  · rintro _ ⟨c, rfl⟩
    tb_start
    rw [List.take_length]
  · exact fun _ z => z.elim
theorem sumG_eq {m : Int} (hm : 0 < m) : ∀ {row : List Int}, row ≠ [] → sumG 7 m row = sumG ((7 : Int).fmod m) m row
  | [], h => absurd rfl h
  | n :: row, _ => by
    unfold sumG
    rw [List.foldl_cons, List.foldl_cons]
    have e : (31 * 7 + n + 1).fmod m = (31 * (7 : Int).fmod m + n + 1).fmod m := by
      rw [Int.fmod_eq_emod_of_nonneg _ (by omega), Int.fmod_eq_emod_of_nonneg _ (by omega), Int.fmod_eq_emod_of_nonneg _ (by omega)]
      have h7 : (7 : Int) % m + m * (7 / m) = 7 := by rw [Int.add_comm]; exact Int.mul_ediv_add_emod 7 m
      have h8 : m * (31 * (7 / m)) = 31 * (m * (7 / m)) := Int.mul_left_comm _ _ _
      rw [show 31 * 7 + n + 1 = (31 * ((7 : Int) % m) + n + 1) + m * (31 * (7 / m)) by rw [h8]; omega, Int.add_mul_emod_self_left]
    rw [e]
end


/-! ### pairs of neighbours -/
section
variable {P : Program} {w : World} {K : PySem.W.Frag} {mg : Str → Option Value} {base : Heap} {A : Nat → Addr} {D : Nat → FuncData}
def prs {α : Type} (f : α → α → α) : List α → List α
  | [] => []
  | [a] => [a]
  | a :: b :: r => f a b :: prs f r
section
variable {α β : Type} {f : α → α → α}
theorem prs_app (ys : List α) : ∀ xs : List α, xs.length % 2 = 0 → prs f (xs ++ ys) = prs f xs ++ prs f ys
  | [], _ => rfl
  | [_], h => by simp at h
  | a :: b :: r, h => by
    show f a b :: prs f (r ++ ys) = _
    rw [prs_app ys r (by simp only [List.length_cons] at h; omega)]; rfl
theorem prs_len : ∀ xs : List α, (prs f xs).length = (xs.length + 1) / 2
  | [] => by simp [prs]
  | [_] => by simp [prs]
  | a :: b :: r => by
    show (prs f r).length + 1 = _
    rw [prs_len r]
    simp only [List.length_cons]
    omega
theorem prs_map {g : α → β} {f' : β → β → β} (h : ∀ a b, g (f a b) = f' (g a) (g b)) : ∀ xs : List α, (prs f xs).map g = prs f' (xs.map g)
  | [] => rfl
  | [_] => rfl
  | a :: b :: r => by
    show g (f a b) :: (prs f r).map g = f' (g a) (g b) :: prs f' (r.map g)
    rw [h, prs_map h r]
theorem prs_split (a : Nat) (xs : List α) (h : 2 * a ≤ xs.length) : prs f xs = prs f (xs.take (2 * a)) ++ prs f (xs.drop (2 * a)) := by
  conv => lhs; rw [← List.take_append_drop (2 * a) xs]
  exact prs_app _ _ (by rw [List.length_take]; omega)
theorem prs_take (a : Nat) (xs : List α) (h : 2 * a ≤ xs.length) : prs f (xs.take (2 * a)) = (prs f xs).take a := by
  have e : (prs f (xs.take (2 * a))).length = a := by rw [prs_len, List.length_take]; omega
  rw [prs_split a xs h, List.take_left' e]
theorem prs_drop (a : Nat) (xs : List α) (h : 2 * a ≤ xs.length) : prs f (xs.drop (2 * a)) = (prs f xs).drop a := by
  have e : (prs f (xs.take (2 * a))).length = a := by rw [prs_len, List.length_take]; omega
  rw [prs_split a xs h, List.drop_left' e]
theorem prs_two {xs : List α} {i : Nat} {a b : α} (h1 : xs[2 * i]? = some a) (h2 : xs[2 * i + 1]? = some b) : prs f (xs.take (2 * i + 2)) = prs f (xs.take (2 * i)) ++ [f a b] := by
  have hl := (List.getElem?_eq_some_iff.mp h2).1
  rw [show 2 * i + 2 = 2 * i + 1 + 1 from rfl, List.take_add_one, h2, List.take_add_one, h1, List.append_assoc, prs_app _ _ (by rw [List.length_take]; omega)]
  rfl
theorem prs_one {xs : List α} {i : Nat} {a : α} (h1 : xs[2 * i]? = some a) (h2 : xs.length = 2 * i + 1) : prs f xs = prs f (xs.take (2 * i)) ++ [a] := by
  have e : xs = xs.take (2 * i) ++ [a] := by
    conv => lhs; rw [← List.take_of_length_le (Nat.le_of_eq h2), List.take_add_one, h1]
    rfl
  conv => lhs; rw [e]
  rw [prs_app _ _ (by rw [List.length_take]; omega)]
  rfl
end
abbrev Node := Int × PyData
abbrev encN (n : Node) : PyData := .tuple [.int n.1, n.2]
abbrev Sd := Option Int × Option Int
abbrev encP (p : Sd) : PyData := .tuple [oI p.1, oI p.2]
abbrev encL (l : List Int) : PyData := .list (l.map .int)
abbrev encNs (l : List Node) : PyData := .list (l.map encN)
def sm (m a b : Int) : Int := sumG 7 m [3, a, b]
def nd (m : Int) (a b : Node) : Node := (sm m a.1 b.1, .tuple [.int 3, .int a.1, .int b.1])
def nabv (m : Int) : List Node → List Node := prs (nd m)
def abv (m : Int) : List Int → List Int := prs (sm m)
theorem nabv_fst (m : Int) (ns : List Node) : (nabv m ns).map Prod.fst = abv m (ns.map Prod.fst) := prs_map (fun _ _ => rfl) ns
inductive RNode : List PyData → PyData → Prop
  | mk (m a b : Int) (h : 0 < m) : RNode [.tuple [.int 3, .int a, .int b], .int m] (.tuple [.int (sm m a b), .tuple [.int 3, .int a, .int b]])
local macro_rules
  | `(tactic| tb_rel) => `(tactic| ((with_reducible change RSum _ _); first | exact RSum.mk [3, _, _] _ (by assumption) | exact RSum.mk _ _ (by assumption)))
theorem ok_node_of (T : Txt K mg A D) : FnOk P w K mg base CX0 2 (A 1) (D 1) ["row", "modulus"] (PF K RNode) := by
  refine T.F_node_of.ok (k := 1) sc_node_of (PF.len (by rintro _ _ ⟨⟩ <;> rfl)) (fun cdv A' outer s H vs Q E hr h => ?_)
  have hnd := sc_node_of.nd
  have G_sum_of := ok_sum_of (P := P) (w := w) (base := base) T
  refine ⟨_, (pss_one (ps_ret (pe_tup (pa_cons (pe_call G_sum_of (hr.mono (by first | decide | omega)) rfl T.m_sum_of T.F_sum_of.kp T.b_sum_of .nil pass0 (pa_cons (pv 0) (pa_cons (pv 1) pa_nil))) (pa_cons (pv 0) pa_nil))))), run h ?_⟩
  rintro _ _ ⟨m, a, b, hm⟩
  tb_start
inductive RHL : List PyData → PyData → Prop
  | mk (f : Int) : RHL [.int f] (.bool (decide (f % 2 = 1)))
theorem ok_has_left (T : Txt K mg A D) : FnOk P w K mg base CX0 1 (A 4) (D 4) ["first"] (PF K RHL) := by
  refine T.F_has_left.ok (k := 0) sc_has_left (PF.len (by rintro _ _ ⟨⟩ <;> rfl)) (fun cdv A' outer s H vs Q E hr h => ?_)
  have hnd := sc_has_left.nd
  refine ⟨_, (pss_one (ps_ret (pe_cmpR op_eq (pe_op op_mod (pv 0) pe_int) pe_int (nomark _)))), run h ?_⟩
  rintro _ _ ⟨f⟩
  tb_start
inductive RHR : List PyData → PyData → Prop
  | mk (l c : Int) : RHR [.int l, .int c] (.bool (decide (l % 2 = 0) && decide (l + 1 < c)))
theorem ok_has_right (T : Txt K mg A D) : FnOk P w K mg base CX0 1 (A 5) (D 5) ["last", "count"] (PF K RHR) := by
  refine T.F_has_right.ok (k := 0) sc_has_right (PF.len (by rintro _ _ ⟨⟩ <;> rfl)) (fun cdv A' outer s H vs Q E hr h => ?_)
  have hnd := sc_has_right.nd
  refine ⟨_, (pss_one (ps_ret (pe_and (pe_cmpR op_eq (pe_op op_mod (pv 0) pe_int) pe_int (nomark _)) (pe_one (pe_cmpR op_lt (pe_op op_add (pv 0) pe_int) (pv 1) (nomark _)))))), run h ?_⟩
  rintro _ _ ⟨l, c⟩
  tb_start
def nt (o : Option Int) : List Node := o.toList.map fun i => (i, .none)
theorem nt_len (o : Option Int) : (nt o).length ≤ 1 := by cases o <;> simp [nt]
inductive RNT : List PyData → PyData → Prop
  | mk (o : Option Int) : RNT [oI o] (.list ((nt o).map encN))
theorem ok_node_told (T : Txt K mg A D) : FnOk P w K mg base CX0 1 (A 8) (D 8) ["told"] (PF K RNT) := by
  refine T.F_node_told.ok (k := 0) sc_node_told (PF.len (by rintro _ _ ⟨⟩ <;> rfl)) (fun cdv A' outer s H vs Q E hr h => ?_)
  have hnd := sc_node_told.nd
  refine ⟨_, (pss_one (ps_ret (pe_ifExp (pt_cmpR op_isN (pv 0) pe_non (nomark _)) (pe_lst pa_nil) (pe_lst (pa_cons (pe_tup (pa_cons (pv 0) (pa_cons pe_non pa_nil))) pa_nil))))), run h ?_⟩
  rintro _ _ ⟨o⟩
  cases o with
  | none => dsimp only [oI]; tb_start
  | some e => dsimp only [oI]; tb_start
inductive RAbv : List PyData → PyData → Prop
  | mk (ns : List Node) (m : Int) (h : 0 < m) (hl : ns.length ≤ 1000) : RAbv [encNs ns, .int m] (encNs (nabv m ns))
local macro_rules
  | `(tactic| tb_rel) => `(tactic| ((with_reducible change RNode _ _); exact RNode.mk _ _ _ (by assumption)))
theorem snocN {ds : List Node} {z : Node} : ds.map encN ++ [encN z] = (ds ++ [z]).map encN := by rw [List.map_append]; rfl
theorem ok_level_above (T : Txt K mg A D) : FnOk P w K mg base CX0 3 (A 2) (D 2) ["nodes", "modulus"] (PF K RAbv) := by
  refine T.F_level_above.ok (k := 2) sc_level_above (PF.len (by rintro _ _ ⟨⟩ <;> rfl)) (fun cdv A' outer s H vs Q E hr h => ?_)
  have hnd := sc_level_above.nd
  obtain ⟨_, hPAIR⟩ := T.c_PAIR
  have G_node_of := ok_node_of (P := P) (w := w) (base := base) T
  refine ⟨_, (pss_cons (ps_set (i := 2) hnd rfl (Or.inl rfl) (pe_lst pa_nil)) (pss_cons (ps_for PassesOwn.never rfl (pi_range3 rfl T.z_range (pa_cons pe_int (pa_cons (pe_callB call_len_seq rfl T.z_len PySem.boot_len (pa_cons (pv 0) pa_nil)) (pa_cons pe_int pa_nil)))) (pg_name (i := 3) hnd rfl (Or.inl rfl)) (pss_one (ps_if (pt_cmpR op_lt (pe_op op_add (pv 3) pe_int) (pe_callB call_len_seq rfl T.z_len PySem.boot_len (pa_cons (pv 0) pa_nil)) (nomark _)) (pss_one (ps_expr (pe_bm PySem.F.plainAttrs_list PySem.F.slot_list_append PySem.F.type_list_append mt_append (pv 2) (pa_cons (pe_call G_node_of (hr.mono (by first | decide | omega)) rfl T.m_node_of T.F_node_of.kp T.b_node_of .nil pass0 (pa_cons (pe_tup (pa_cons (pe_glob (v := V.int _) rfl hPAIR ⟨_, rfl⟩) (pa_cons (pe_ix (r := rIxT K) ix_tup (pe_ix (r := rIxL K) ix_list (pv 0) (pv 3) (fun _ _ => rfl)) pe_int (fun _ _ => rfl)) (pa_cons (pe_ix (r := rIxT K) ix_tup (pe_ix (r := rIxL K) ix_list (pv 0) (pe_op op_add (pv 3) pe_int) (fun _ _ => rfl)) pe_int (fun _ _ => rfl)) pa_nil)))) (pa_cons (pv 1) pa_nil))) pa_nil)))) (pss_one (ps_expr (pe_bm PySem.F.plainAttrs_list PySem.F.slot_list_append PySem.F.type_list_append mt_append (pv 2) (pa_cons (pe_ix (r := rIxL K) ix_list (pv 0) (pv 3) (fun _ _ => rfl)) pa_nil))))))) (pss_one (ps_ret (pv 2))))), run h ?_⟩
  rintro _ _ ⟨ns, m, hm, hl⟩
  tb_start
  apply s_seq_for (xs := List.range ((((ns.map encN).length : Int) + 1) / 2).toNat) (enc := encR3 0 2) (fun i e => ∃ c, e = [.val (encNs ns), .val (.int m), ownL K ((prs (nd m) (ns.take (2 * i))).map encN), c]) (fun _ => False)
  · apply w_range3
    · tb_start
    · exact rgc_two (by omega) (by rw [List.length_map]; omega)
  · exact ⟨_, rfl⟩
  · rintro i j _ hj ⟨c, rfl⟩
    obtain ⟨hi, ea⟩ := List.getElem?_eq_some_iff.mp hj
    rw [List.length_range, List.length_map] at hi
    rw [List.getElem_range] at ea
    subst ea
    refine ⟨_, _, g_name, ?_⟩
    have e0 : encR3 0 2 i = .int ((2 * i : Nat) : Int) := by
      show PyData.int _ = _
      congr 1
      omega
    rw [e0]
    obtain ⟨a, ha⟩ : ∃ a, ns[2 * i]? = some a := ⟨_, List.getElem?_eq_getElem (show 2 * i < ns.length by omega)⟩
    have ea : atI (ns.map encN) ((2 * i : Nat) : Int) = some (encN a) := atI_nat (by rw [List.getElem?_map, ha]; rfl)
    have hpl : (prs (nd m) (ns.take (2 * i))).length ≤ 1000 := by rw [prs_len, List.length_take]; omega
    by_cases c1 : 2 * i + 1 < ns.length
    · obtain ⟨b, hb⟩ : ∃ b, ns[2 * i + 1]? = some b := ⟨_, List.getElem?_eq_getElem c1⟩
      have eb : atI (ns.map encN) (((2 * i : Nat) : Int) + 1) = some (encN b) := atI_nat (j := 2 * i + 1) (by rw [List.getElem?_map, hb]; rfl)
      tb_start
      · simp only [show 2 * (i + 1) = 2 * i + 2 from rfl, prs_two ha hb, List.map_append]
        exact ⟨_, rfl⟩
      · intro hf
        rw [decide_eq_false_iff_not, List.length_map] at hf
        omega
    · have hl2 : ns.length = 2 * i + 1 := by omega
      tb_start
      simp only [List.take_of_length_le (show ns.length ≤ 2 * (i + 1) by omega), prs_one ha hl2, List.map_append]
      exact ⟨_, rfl⟩
  · rintro _ ⟨c, rfl⟩
    rw [List.length_range, List.length_map, List.take_of_length_le (by omega)]
    refine s_froz 2 (ds := (nabv m ns).map encN) rfl ?_
    (try dsimp only [cxK, cxK', List.map, List.length_cons, List.length_nil, List.cons_append, List.nil_append, Nat.reduceAdd, Nat.reduceSub, Nat.zero_add, Nat.add_zero, List.replicate, List.set])
    tb_start
  · exact fun _ z => z.elim
end


section
variable {P : Program} {w : World} {K : PySem.W.Frag} {mg : Str → Option Value} {base : Heap} {A : Nat → Addr} {D : Nat → FuncData}
/-! ### the sides of a stretch -/
def lfS (lv : List Int) (f : Int) : Option Int := if f % 2 = 1 then lv[(f - 1).toNat]? else none
def rtS (lv : List Int) (l : Int) : Option Int := if l % 2 = 0 ∧ l + 1 < lv.length then lv[(l + 1).toNat]? else none
def sdS : List (List Int) → Int → Int → List Sd
  | [], _, _ => []
  | lv :: r, f, l => (lfS lv f, rtS lv l) :: sdS r (f / 2) (l / 2)
def Good : List (List Int) → Int → Int → Prop
  | [], _, _ => True
  | lv :: r, f, l => 0 ≤ f ∧ f < lv.length ∧ 0 ≤ l ∧ l < lv.length ∧ Good r (f / 2) (l / 2)
theorem Good.take {xs : List (List Int)} {f l : Int} : ∀ {n}, Good xs f l → Good (xs.take n) f l := fun {n} => by
  induction xs generalizing f l n with
  | nil => intro _; rw [List.take_nil]; exact True.intro
  | cons x xs ih =>
    rintro ⟨h1, h2, h3, h4, h5⟩
    cases n with
    | zero => exact True.intro
    | succ n => exact ⟨h1, h2, h3, h4, ih h5⟩
inductive RSds : List PyData → PyData → Prop
  | mk (lvs : List (List Int)) (f l : Int) (hg : Good lvs.dropLast f l) (hl : lvs.length ≤ 100) (ht : ∀ lv ∈ lvs, lv.length ≤ 1000) : RSds [.list (lvs.map encL), .int f, .int l] (.tuple ((sdS lvs.dropLast f l).map encP))
theorem sd_len : ∀ (lvs : List (List Int)) (f l : Int), (sdS lvs f l).length = lvs.length
  | [], _, _ => rfl
  | _ :: r, f, l => congrArg (· + 1) (sd_len r (f / 2) (l / 2))
local macro_rules
  | `(tactic| tb_rel) => `(tactic| first | ((with_reducible change RHL _ _); exact RHL.mk _) | ((with_reducible change RHR _ _); exact RHR.mk _ _))
theorem at_j {lv : List Int} {i : Int} {x : Int} (h0 : 0 ≤ i) (h : lv[i.toNat]? = some x) : atI (lv.map PyData.int) i = some (.int x) := by
  obtain ⟨j, rfl⟩ := Int.eq_ofNat_of_zero_le h0
  refine atI_nat ?_
  rw [Int.toNat_natCast] at h
  rw [List.getElem?_map, h]; rfl
theorem pair_L {lv : List Int} {f : Int} (h0 : 0 ≤ f) (h : f % 2 = 1) (h2 : f < lv.length) : ∃ x, lfS lv f = some x ∧ atI (lv.map PyData.int) (f - 1) = some (.int x) := by
  obtain ⟨x, hx⟩ : ∃ x, lv[(f - 1).toNat]? = some x := ⟨_, List.getElem?_eq_getElem (by omega)⟩
  refine ⟨x, ?_, at_j (by omega) hx⟩
  unfold lfS
  rw [if_pos h, hx]
theorem pair_R {lv : List Int} {l : Int} (h0 : 0 ≤ l) (h : l % 2 = 0) (h2 : l + 1 < lv.length) : ∃ x, rtS lv l = some x ∧ atI (lv.map PyData.int) (l + 1) = some (.int x) := by
  obtain ⟨x, hx⟩ : ∃ x, lv[(l + 1).toNat]? = some x := ⟨_, List.getElem?_eq_getElem (by omega)⟩
  refine ⟨x, ?_, at_j (by omega) hx⟩
  unfold rtS
  rw [if_pos ⟨h, h2⟩, hx]
theorem ok_sides (T : Txt K mg A D) : FnOk P w K mg base CX0 2 (A 3) (D 3) ["levels", "first", "last"] (PF K RSds) := by
  refine T.F_sides.ok (k := 1) sc_sides (PF.len (by rintro _ _ ⟨⟩ <;> rfl)) (fun cdv A' outer s H vs Q E hr h => ?_)
  have hnd := sc_sides.nd
  have G_has_left := ok_has_left (P := P) (w := w) (base := base) T
  have G_has_right := ok_has_right (P := P) (w := w) (base := base) T
  refine ⟨_, (pss_cons (ps_set (i := 3) hnd rfl (Or.inl rfl) (pe_lst pa_nil)) (pss_cons (ps_for PassesOwn.never rfl (pi_list (pe_slice sl_list (pv 0) po_none (po_some (pe_un un_neg pe_int)))) (pg_name (i := 4) hnd rfl (Or.inl rfl)) (pss_cons (ps_set (i := 5) hnd rfl (Or.inl rfl) (pe_ifExp (pt_val (pe_call G_has_left (hr.mono (by first | decide | omega)) rfl T.m_has_left T.F_has_left.kp T.b_has_left .nil pass0 (pa_cons (pv 1) pa_nil))) (pe_ix (r := rIxL K) ix_list (pv 4) (pe_op op_sub (pv 1) pe_int) (fun _ _ => rfl)) pe_non)) (pss_cons (ps_set (i := 6) hnd rfl (Or.inl rfl) (pe_ifExp (pt_val (pe_call G_has_right (hr.mono (by first | decide | omega)) rfl T.m_has_right T.F_has_right.kp T.b_has_right .nil pass0 (pa_cons (pv 2) (pa_cons (pe_callB call_len_seq rfl T.z_len PySem.boot_len (pa_cons (pv 4) pa_nil)) pa_nil)))) (pe_ix (r := rIxL K) ix_list (pv 4) (pe_op op_add (pv 2) pe_int) (fun _ _ => rfl)) pe_non)) (pss_cons (ps_expr (pe_bm PySem.F.plainAttrs_list PySem.F.slot_list_append PySem.F.type_list_append mt_append (pv 3) (pa_cons (pe_tup (pa_cons (pv 5) (pa_cons (pv 6) pa_nil))) pa_nil))) (pss_cons (ps_set (i := 1) hnd rfl (Or.inl rfl) (pe_op op_fdiv (pv 1) pe_int)) (pss_one (ps_set (i := 2) hnd rfl (Or.inl rfl) (pe_op op_fdiv (pv 2) pe_int)))))))) (pss_one (ps_ret (pe_callTy call_tuple_of rfl T.z_tuple (by decide +kernel) (pa_cons (pv 3) pa_nil)))))), run h ?_⟩
  rintro _ _ ⟨lvs, f, l, hg, hl, ht⟩
  have hdl : lvs.dropLast.length ≤ 100 := by rw [List.length_dropLast]; omega
  have ht' : ∀ lv ∈ lvs.dropLast, lv.length ≤ 1000 := fun lv h => ht lv (List.mem_of_mem_take (by rwa [List.dropLast_eq_take] at h))
  have esl : Psr K (rSlL K) (.list (lvs.map encL)) none (some (-1)) (.list (lvs.dropLast.map encL)) := by
    rw [List.map_dropLast, ← cutG_init]; exact sl_L
  generalize lvs.dropLast = dl at hg hdl ht' esl
  tb_start
  apply s_seq_for (xs := dl) (enc := encL) (fun i e => ∃ f' l' acc x y z, e = [.val (.list (lvs.map encL)), .val (.int f'), .val (.int l'), ownL K (acc.map encP), x, y, z] ∧ Good (dl.drop i) f' l' ∧ acc.length = i ∧ acc ++ sdS (dl.drop i) f' l' = sdS dl f l) (fun _ => False)
  · tb_start
  · exact ⟨f, l, [], _, _, _, rfl, hg, rfl, rfl⟩
  · rintro i lv _ hi ⟨f', l', acc, x, y, z, rfl, hg', ha, he⟩
    refine ⟨_, _, g_name, ?_⟩
    have hil := (List.getElem?_eq_some_iff.mp hi).1
    have hlv := ht' lv (List.mem_of_getElem? hi)
    have ed : dl.drop i = lv :: dl.drop (i + 1) := by
      rw [List.drop_eq_getElem_cons hil]
      congr 1
      exact (List.getElem?_eq_some_iff.mp hi).2
    rw [ed] at hg' he
    obtain ⟨g1, g2, g3, g4, g5⟩ := hg'
    have fin : ∀ o p, o = oI (lfS lv f') → p = oI (rtS lv l') → ∃ f'' l'' acc' x' y' z', [Sl.val (.list (lvs.map encL)), Sl.val (.int (f' / 2)), Sl.val (.int (l' / 2)), ownL K (acc.map encP ++ [.tuple [o, p]]), Sl.val (encL lv), Sl.val o, Sl.val p] = [.val (.list (lvs.map encL)), .val (.int f''), .val (.int l''), ownL K (acc'.map encP), x', y', z'] ∧ Good (dl.drop (i + 1)) f'' l'' ∧ acc'.length = i + 1 ∧ acc' ++ sdS (dl.drop (i + 1)) f'' l'' = sdS dl f l := by
      rintro _ _ rfl rfl
      refine ⟨f' / 2, l' / 2, acc ++ [(lfS lv f', rtS lv l')], .val (encL lv), .val (oI (lfS lv f')), .val (oI (rtS lv l')), ?_, g5, by rw [List.length_append, ha]; rfl, ?_⟩
      · rw [List.map_append]; rfl
      · rw [List.append_assoc, ← he]; rfl
    have nl : f' % 2 ≠ 1 → lfS lv f' = none := fun h => by unfold lfS; rw [if_neg h]
    have nr : ¬(l' % 2 = 0 ∧ l' + 1 < lv.length) → rtS lv l' = none := fun h => by unfold rtS; rw [if_neg h]
    by_cases c1 : f' % 2 = 1
    · obtain ⟨x1, e1, e2⟩ := pair_L g1 c1 g2
      by_cases c2 : l' % 2 = 0 ∧ l' + 1 < lv.length
      · obtain ⟨c3, c4⟩ := c2
        obtain ⟨x2, e3, e4⟩ := pair_R g3 c3 c4
        tb_start
        exact fin _ _ (by rw [e1]; rfl) (by rw [e3]; rfl)
      · have e3 := nr c2
        tb_start
        exact fin _ _ (by rw [e1]; rfl) (by rw [e3]; rfl)
    · have e1 := nl c1
      by_cases c2 : l' % 2 = 0 ∧ l' + 1 < lv.length
      · obtain ⟨c3, c4⟩ := c2
        obtain ⟨x2, e3, e4⟩ := pair_R g3 c3 c4
        tb_start
        exact fin _ _ (by rw [e1]; rfl) (by rw [e3]; rfl)
      · have e3 := nr c2
        tb_start
        exact fin _ _ (by rw [e1]; rfl) (by rw [e3]; rfl)
  · rintro _ ⟨f', l', acc, x, y, z, rfl, hg', ha, he⟩
    rw [List.drop_length] at he
    change acc ++ [] = _ at he
    rw [List.append_nil] at he
    subst he
    refine s_froz 3 (ds := (sdS dl f l).map encP) rfl ?_
    (try dsimp only [cxK, cxK', List.map, List.length_cons, List.length_nil, List.cons_append, List.nil_append, Nat.reduceAdd, Nat.reduceSub, Nat.zero_add, Nat.add_zero, List.replicate, List.set])
    tb_start
  · exact fun _ z => z.elim
/-! ### the top, by the sides -/
def bad (n : Nat) (f c : Int) (p : Sd) : Bool := decide (c = 1) || (!decide (decide (f % 2 = 1) = !isN (oI p.1)) || !decide ((decide ((f + (n : Int) - 1) % 2 = 0) && decide (f + (n : Int) - 1 + 1 < c)) = !isN (oI p.2)))
theorem bad_fold (n : Nat) (f c : Int) (o1 o2 : Option Int) : (decide (c = 1) || (!decide (decide (f % 2 = 1) = !isN (oI o1)) || !decide ((decide ((f + (n : Int) - 1) % 2 = 0) && decide (f + (n : Int) - 1 + 1 < c)) = !isN (oI o2)))) = bad n f c (o1, o2) := rfl
def lfA (m : Int) : List (List Node) → List Node → Int → Int → List Sd → Option (List (List Node))
  | acc, ns, _, c, [] => if c = 1 then some (acc ++ [ns]) else none
  | acc, ns, f, c, p :: r => if bad ns.length f c p then none else lfA m (acc ++ [ns]) (nabv m (nt p.1 ++ ns ++ nt p.2)) (f / 2) ((c + 1) / 2) r
def oNs : Option (List (List Node)) → PyData
  | none => .none
  | some l => .list (l.map encNs)
inductive RLf : List PyData → PyData → Prop
  | mk (ns : List Node) (f c : Int) (sd : List Sd) (m : Int) (hm : 0 < m) (h1 : ns.length ≠ 0) (h2 : ns.length ≤ 100) (h3 : 0 ≤ f) (h4 : f + ns.length ≤ c) (h5 : sd.length ≤ 100) : RLf [encNs ns, .int f, .int c, .tuple (sd.map encP), .int m] (oNs (lfA m [] ns f c sd))
theorem isN_oI : ∀ o, isN (oI o) = o.isNone
  | none => rfl
  | some _ => rfl
local macro_rules
  | `(tactic| tb_rel) => `(tactic| first
    | ((with_reducible change RAbv _ _); exact RAbv.mk _ _ (by assumption) (by assumption))
    | ((with_reducible change RNT _ _); exact RNT.mk _)
    | (rw [bad_fold, List.length_map]; intro hq)
    | ((with_reducible change Ps _ _ _ _ (tSeq (tAsg (tLst (tCons _ _)) (gName 5)) _) _ _); with_reducible apply s_seq_newL))
theorem ok_levels_from (T : Txt K mg A D) : FnOk P w K mg base CX0 4 (A 7) (D 7) ["nodes", "first", "count", "sides", "modulus"] (PF K RLf) := by
  refine T.F_levels_from.ok (k := 3) sc_levels_from (PF.len (by rintro _ _ ⟨⟩ <;> rfl)) (fun cdv A' outer s H vs Q E hr h => ?_)
  have hnd := sc_levels_from.nd
  have G_level_above := ok_level_above (P := P) (w := w) (base := base) T
  have G_has_left := ok_has_left (P := P) (w := w) (base := base) T
  have G_has_right := ok_has_right (P := P) (w := w) (base := base) T
  have G_node_told := ok_node_told (P := P) (w := w) (base := base) T
  refine ⟨_, (pss_cons (ps_if (PW.pt (pw_or (pt_cmpR op_eq (pe_callB call_len_seq rfl T.z_len PySem.boot_len (pa_cons (pv 0) pa_nil)) pe_int (nomark _)) (pw_or (pt_cmpR op_lt (pv 1) pe_int (nomark _)) (pw_or1 (pt_cmpR op_gt (pe_op op_add (pv 1) (pe_callB call_len_seq rfl T.z_len PySem.boot_len (pa_cons (pv 0) pa_nil))) (pv 2) (nomark _)))))) (pss_one (ps_ret pe_non)) pss_nil) (pss_cons (ps_set (i := 5) hnd rfl (Or.inl rfl) (pe_lst (pa_cons (pv 0) pa_nil))) (pss_cons (ps_for PassesOwn.never rfl (pi_tup (pv 3)) (pg_tup rfl (pgs_cons (pg_name (i := 6) hnd rfl (Or.inl rfl)) (pgs_cons (pg_name (i := 7) hnd rfl (Or.inl rfl)) pgs_nil))) (pss_cons (ps_set (i := 8) hnd rfl (Or.inl rfl) (pe_op op_sub (pe_op op_add (pv 1) (pe_callB call_len_seq rfl T.z_len PySem.boot_len (pa_cons (pv 0) pa_nil))) pe_int)) (pss_cons (ps_if (PW.pt (pw_or (pt_cmpR op_eq (pv 2) pe_int (nomark _)) (pw_or (pt_cmpR op_ne (pe_call G_has_left (hr.mono (by first | decide | omega)) rfl T.m_has_left T.F_has_left.kp T.b_has_left .nil pass0 (pa_cons (pv 1) pa_nil)) (pe_cmpR op_notN (pv 6) pe_non (nomark _)) (nomark _)) (pw_or1 (pt_cmpR op_ne (pe_call G_has_right (hr.mono (by first | decide | omega)) rfl T.m_has_right T.F_has_right.kp T.b_has_right .nil pass0 (pa_cons (pv 8) (pa_cons (pv 2) pa_nil))) (pe_cmpR op_notN (pv 7) pe_non (nomark _)) (nomark _)))))) (pss_one (ps_ret pe_non)) pss_nil) (pss_cons (ps_set (i := 0) hnd rfl (Or.inl rfl) (pe_call G_level_above (hr.mono (by first | decide | omega)) rfl T.m_level_above T.F_level_above.kp T.b_level_above .nil pass0 (pa_cons (pe_op op_cat (pe_op op_cat (pe_call G_node_told (hr.mono (by first | decide | omega)) rfl T.m_node_told T.F_node_told.kp T.b_node_told .nil pass0 (pa_cons (pv 6) pa_nil)) (pv 0)) (pe_call G_node_told (hr.mono (by first | decide | omega)) rfl T.m_node_told T.F_node_told.kp T.b_node_told .nil pass0 (pa_cons (pv 7) pa_nil))) (pa_cons (pv 4) pa_nil)))) (pss_cons (ps_expr (pe_bm PySem.F.plainAttrs_list PySem.F.slot_list_append PySem.F.type_list_append mt_append (pv 5) (pa_cons (pv 0) pa_nil))) (pss_cons (ps_set (i := 1) hnd rfl (Or.inl rfl) (pe_op op_fdiv (pv 1) pe_int)) (pss_one (ps_set (i := 2) hnd rfl (Or.inl rfl) (pe_op op_fdiv (pe_op op_add (pv 2) pe_int) pe_int))))))))) (pss_one (ps_ret (pe_ifExp (pt_cmpR op_eq (pv 2) pe_int (nomark _)) (pv 5) pe_non)))))), run h ?_⟩
  rintro _ _ ⟨ns, f, c, sd, m, hm, h1, h2, h3, h4, h5⟩
  tb_start
  apply s_seq_for (xs := sd) (enc := encP) (fun i e => ∃ acc ns' f' c' x y z, e = [.val (encNs ns'), .val (.int f'), .val (.int c'), .val (.tuple (sd.map encP)), .val (.int m), ownL K ((acc ++ [ns']).map encNs), x, y, z] ∧ acc.length = i ∧ ns'.length ≠ 0 ∧ ns'.length ≤ 100 ∧ lfA m acc ns' f' c' (sd.drop i) = lfA m [] ns f c sd) (fun _ => False)
  · tb_start
  · exact ⟨[], ns, f, c, _, _, _, rfl, rfl, h1, h2, rfl⟩
  · rintro i p _ hi ⟨acc, ns', f', c', x, y, z, rfl, ha, hn1, hn2, he⟩
    have hil := (List.getElem?_eq_some_iff.mp hi).1
    have ed : sd.drop i = p :: sd.drop (i + 1) := by
      rw [List.drop_eq_getElem_cons hil]
      congr 1
      exact (List.getElem?_eq_some_iff.mp hi).2
    rw [ed] at he
    obtain ⟨o1, o2⟩ := p
    refine ⟨_, _, g_tup (gs_cons g_name (gs_cons g_name gs_nil)) rfl, ?_⟩
    have hw1 := nt_len o1
    have hw2 := nt_len o2
    have hR : RAbv [.list (((nt o1).map encN ++ ns'.map encN) ++ (nt o2).map encN), .int m] (encNs (nabv m (nt o1 ++ ns' ++ nt o2))) := by
      rw [← List.map_append, ← List.map_append]
      exact RAbv.mk _ _ hm (by rw [List.length_append, List.length_append]; omega)
    tb_start
    · rename_i hq
      rw [← he]
      unfold lfA
      rw [if_pos hq]; rfl
    · tb_start
      rename_i hq
      refine ⟨acc ++ [ns'], nabv m (nt o1 ++ ns' ++ nt o2), _, _, _, _, _, (by rw [List.map_append (l₁ := acc ++ [ns'])]; rfl), ?_, ?_, ?_, ?_⟩
      · rw [List.length_append, ha]; rfl
      · unfold nabv
        rw [prs_len, List.length_append, List.length_append]
        omega
      · unfold nabv
        rw [prs_len, List.length_append, List.length_append]
        omega
      · rw [← he]
        have hu : lfA m acc ns' f' c' ((o1, o2) :: sd.drop (i + 1)) = if bad ns'.length f' c' (o1, o2) then none else lfA m (acc ++ [ns']) (nabv m (nt o1 ++ ns' ++ nt o2)) (f' / 2) ((c' + 1) / 2) (sd.drop (i + 1)) := rfl
        rw [hu, hq]; rfl
  · rintro _ ⟨acc, ns', f', c', x, y, z, rfl, ha, hn1, hn2, he⟩
    rw [List.drop_length] at he
    have hu : ∀ c0 : Int, lfA m acc ns' f' c0 [] = if c0 = 1 then some (acc ++ [ns']) else none := fun _ => rfl
    rw [hu] at he
    refine s_froz 5 (ds := (acc ++ [ns']).map encNs) rfl ?_
    (try dsimp only [cxK, cxK', List.map, List.length_cons, List.length_nil, List.cons_append, List.nil_append, Nat.reduceAdd, Nat.reduceSub, Nat.zero_add, Nat.add_zero, List.replicate, List.set])
    by_cases hc : c' = 1
    · rw [if_pos hc] at he
      tb_start
      rw [← he]; rfl
    · rw [if_neg hc] at he
      tb_start
      rw [← he]; rfl
  · exact fun _ z => z.elim
end


section
variable {P : Program} {w : World} {K : PySem.W.Frag} {mg : Str → Option Value} {base : Heap} {A : Nat → Addr} {D : Nat → FuncData}
def tp (m : Int) : List Int → Int → Int → List Sd → Option Int
  | s, _, c, [] => if c = 1 then s.head? else none
  | s, f, c, p :: r => if bad s.length f c p then none else tp m (abv m (p.1.toList ++ s ++ p.2.toList)) (f / 2) ((c + 1) / 2) r
theorem nt_fst (o : Option Int) : (nt o).map Prod.fst = o.toList := by cases o <;> rfl
theorem lfA_tp (m : Int) : ∀ (sd : List Sd) (acc : List (List Node)) (ns : List Node) (f c : Int), ns ≠ [] →
    match lfA m acc ns f c sd with
    | none => tp m (ns.map Prod.fst) f c sd = none
    | some L => ∃ pre n r, L = pre ++ [n :: r] ∧ tp m (ns.map Prod.fst) f c sd = some n.1
  | [], acc, ns, f, c, h => by
    obtain ⟨n, r, rfl⟩ := List.exists_cons_of_ne_nil h
    show match (if c = 1 then some (acc ++ [n :: r]) else none) with | none => _ | some L => _
    by_cases hc : c = 1
    · rw [if_pos hc]
      refine ⟨acc, n, r, rfl, ?_⟩
      show (if c = 1 then _ else _) = _
      rw [if_pos hc]; rfl
    · rw [if_neg hc]
      show (if c = 1 then _ else _) = _
      rw [if_neg hc]
  | p :: sd, acc, ns, f, c, h => by
    show match (if bad ns.length f c p then none else lfA m (acc ++ [ns]) (nabv m (nt p.1 ++ ns ++ nt p.2)) (f / 2) ((c + 1) / 2) sd) with | none => _ | some L => _
    have hu : tp m (ns.map Prod.fst) f c (p :: sd) = if bad (ns.map Prod.fst).length f c p then none else tp m (abv m (p.1.toList ++ ns.map Prod.fst ++ p.2.toList)) (f / 2) ((c + 1) / 2) sd := rfl
    rw [hu, List.length_map]
    cases hb : bad ns.length f c p with
    | true => rfl
    | false =>
      rw [if_neg Bool.false_ne_true, if_neg Bool.false_ne_true]
      have e : abv m (p.1.toList ++ ns.map Prod.fst ++ p.2.toList) = (nabv m (nt p.1 ++ ns ++ nt p.2)).map Prod.fst := by
        rw [nabv_fst, List.map_append, List.map_append, nt_fst, nt_fst]
      rw [e]
      refine lfA_tp m sd _ _ _ _ fun z => ?_
      have := congrArg List.length z
      unfold nabv at this
      rw [prs_len, List.length_append, List.length_append] at this
      have h2 : 0 < ns.length := List.length_pos_iff.mpr h
      rw [List.length_nil] at this
      omega
inductive RTop : List PyData → PyData → Prop
  | mk (s : List Int) (f c : Int) (sd : List Sd) (m : Int) (hm : 0 < m) (h1 : s.length ≠ 0) (h2 : s.length ≤ 100) (h3 : 0 ≤ f) (h4 : f + s.length ≤ c) (h5 : sd.length ≤ 100) : RTop [encL s, .int f, .int c, .tuple (sd.map encP), .int m] (oI (tp m s f c sd))
local macro_rules
  | `(tactic| tb_rel) => `(tactic| first
    | ((with_reducible change RLf _ _); with_reducible assumption)
    | ((with_reducible change Po _ _ (.list _) (.int (-1)) _); exact o_ixL (by first | assumption | exact atI_last)))
def nd0 (i : Int) : Node := (i, .none)
theorem ok_top_from (T : Txt K mg A D) : FnOk P w K mg base CX0 5 (A 6) (D 6) ["sums", "first", "count", "sides", "modulus"] (PF K RTop) := by
  refine T.F_top_from.ok (k := 4) sc_top_from (PF.len (by rintro _ _ ⟨⟩ <;> rfl)) (fun cdv A' outer s H vs Q E hr h => ?_)
  have hnd := sc_top_from.nd
  have G_levels_from := ok_levels_from (P := P) (w := w) (base := base) T
  refine ⟨_, (pss_cons (ps_set (i := 6) hnd rfl (Or.inl rfl) (pe_call G_levels_from (hr.mono (by first | decide | omega)) rfl T.m_levels_from T.F_levels_from.kp T.b_levels_from .nil pass0 (pa_cons (pe_lc (own := [("told", 5)]) rfl hnd (pi_list (pv 0)) (blkOk_by (own := [("told", 5)]) (N := N_top_from) (sc := defScope s_top_from) (by decide +kernel)) (fun _ _ _ _ _ => (pg_name (i := 5) hnd rfl (Or.inl rfl))) (fun _ _ _ _ _ => pts_nil) (fun _ _ _ _ _ => (pe_tup (pa_cons (pv 5) (pa_cons pe_non pa_nil))))) (pa_cons (pv 1) (pa_cons (pv 2) (pa_cons (pv 3) (pa_cons (pv 4) pa_nil))))))) (pss_cons (ps_if (pt_cmpR op_isN (pv 6) pe_non (nomark _)) (pss_one (ps_ret pe_non)) pss_nil) (pss_one (ps_ret (pe_ix (r := rIxT K) ix_tup (pe_ix (r := rIxL K) ix_list (pe_ix (r := rIxL K) ix_list (pv 6) (pe_un un_neg pe_int) (fun _ _ => rfl)) pe_int (fun _ _ => rfl)) pe_int (fun _ _ => rfl)))))), run h ?_⟩
  rintro _ _ ⟨s0, f, c, sd, m, hm, h1, h2, h3, h4, h5⟩
  have e1 : RLf [encNs (s0.map nd0), .int f, .int c, .tuple (sd.map encP), .int m] (oNs (lfA m [] (s0.map nd0) f c sd)) := RLf.mk _ f c sd m hm (by rw [List.length_map]; exact h1) (by rw [List.length_map]; exact h2) h3 (by rw [List.length_map]; exact h4) h5
  have hne : s0.map nd0 ≠ [] := fun z => h1 (by rw [← List.length_map (f := nd0), z]; rfl)
  have e2 := lfA_tp m sd [] (s0.map nd0) f c hne
  rw [show (s0.map nd0).map Prod.fst = s0 by rw [List.map_map]; exact List.map_id s0] at e2
  generalize lfA m [] (s0.map nd0) f c sd = res at e1 e2
  cases res with
  | none =>
    dsimp only at e2
    rw [e2]
    dsimp only [oNs] at e1
    tb_start
    · refine e_as (d := .list (s0.map fun c => .tuple [.int c, .none])) (d' := encNs (s0.map nd0)) ?_ (by unfold encNs; rw [List.map_map]; rfl)
      apply e_map (xs := s0) (enc := .int)
      · tb_start
      · intro j c hc
        (refine ⟨_, _, g_name, fun _ h => h, ?_⟩; dsimp only [wipeE, List.set])
        tb_start
      · (unfold sizeLine; first | omega | (simp only [List.length_cons, List.length_nil, List.length_append, List.length_map, List.length_take, List.length_drop, List.length_range]; omega))
    tb_start
  | some L =>
    obtain ⟨pre, n, r, rfl, e4⟩ := e2
    rw [e4]
    dsimp only [oNs] at e1
    have e6 : atI ((n :: r).map encN) 0 = some (encN n) := atI_nat (j := 0) rfl
    have e5 : atI ((pre ++ [n :: r]).map encNs) (-1) = some (encNs (n :: r)) := by rw [List.map_append]; exact atI_last
    tb_start
    · refine e_as (d := .list (s0.map fun c => .tuple [.int c, .none])) (d' := encNs (s0.map nd0)) ?_ (by unfold encNs; rw [List.map_map]; rfl)
      apply e_map (xs := s0) (enc := .int)
      · tb_start
      · intro j c hc
        (refine ⟨_, _, g_name, fun _ h => h, ?_⟩; dsimp only [wipeE, List.set])
        tb_start
      · (unfold sizeLine; first | omega | (simp only [List.length_cons, List.length_nil, List.length_append, List.length_map, List.length_take, List.length_drop, List.length_range]; omega))
    tb_start
/-! ### the law's levels and sides -/
theorem rls3 {m a b : Int} (hm : 0 < m) : RLS [.list [.int 3, .int a, .int b], .int m] (.int (sm m a b)) := by
  unfold sm
  rw [sumG_eq hm (by simp)]
  exact RLS.mk [3, a, b] m hm
inductive RLab : List PyData → PyData → Prop
  | mk (l : List Int) (m : Int) (hm : 0 < m) (hl : l.length ≤ 1000) : RLab [encL l, .int m] (encL (abv m l))
local macro_rules
  | `(tactic| tb_rel) => `(tactic| first
    | ((with_reducible change RLS _ _); exact rls3 (by assumption)))
def qT (n i : Nat) : Nat := if i = n then n else 2 * (i / 2)
theorem ok__law_above (T : Txt K mg A D) : FnOk P w K mg base CX0 2 (A 11) (D 11) ["level", "modulus"] (PF K RLab) := by
  refine T.F__law_above.ok (k := 1) sc__law_above (PF.len (by rintro _ _ ⟨⟩ <;> rfl)) (fun cdv A' outer s H vs Q E hr h => ?_)
  have hnd := sc__law_above.nd
  have G__law_sum := ok__law_sum (P := P) (w := w) (base := base) T
  refine ⟨_, (pss_cons (ps_set (i := 2) hnd rfl (Or.inl rfl) (pe_lst pa_nil)) (pss_cons (ps_for PassesOwn.never rfl (pi_range1 rfl T.z_range (pa_cons (pe_callB call_len_seq rfl T.z_len PySem.boot_len (pa_cons (pv 0) pa_nil)) pa_nil)) (pg_name (i := 3) hnd rfl (Or.inl rfl)) (pss_one (ps_if (pt_cmpR op_eq (pe_op op_mod (pe_callTy call_int1 rfl T.z_int (by decide +kernel) (pa_cons (pv 3) pa_nil)) pe_int) pe_int (nomark _)) (pss_one (ps_expr (pe_bm PySem.F.plainAttrs_list PySem.F.slot_list_append PySem.F.type_list_append mt_append (pv 2) (pa_cons (pe_call G__law_sum (hr.mono (by first | decide | omega)) rfl T.m__law_sum T.F__law_sum.kp T.b__law_sum .nil pass0 (pa_cons (pe_lst (pa_cons pe_int (pa_cons (pe_ix (r := rIxL K) ix_list (pv 0) (pe_op op_sub (pv 3) pe_int) (fun _ _ => rfl)) (pa_cons (pe_ix (r := rIxL K) ix_list (pv 0) (pv 3) (fun _ _ => rfl)) pa_nil)))) (pa_cons (pv 1) pa_nil))) pa_nil)))) (pss_one (ps_if (pt_cmpR op_eq (pv 3) (pe_op op_sub (pe_callB call_len_seq rfl T.z_len PySem.boot_len (pa_cons (pv 0) pa_nil)) pe_int) (nomark _)) (pss_one (ps_expr (pe_bm PySem.F.plainAttrs_list PySem.F.slot_list_append PySem.F.type_list_append mt_append (pv 2) (pa_cons (pe_ix (r := rIxL K) ix_list (pv 0) (pv 3) (fun _ _ => rfl)) pa_nil)))) pss_nil))))) (pss_one (ps_ret (pv 2))))), run h ?_⟩
  rintro _ _ ⟨l, m, hm, hl⟩
  tb_start
  apply s_seq_for (xs := List.range l.length) (enc := encR 0) (fun i e => ∃ c, e = [.val (encL l), .val (.int m), ownL K ((prs (sm m) (l.take (qT l.length i))).map .int), c]) (fun _ => False)
  · have := w_range1 (K := K) (env := [.val (encL l), .val (.int m), ownL K [], .unk]) (ta := tCons (tCB (fun xs H Q => ∃ p ys, xs = [.ref p] ∧ (SqL K H p ys ∨ SqT K H p ys) ∧ Q (.int ys.length) H) (tCons (tVar 0) tNil)) tNil) (j := ((l.map PyData.int).length : Nat)) (by tb_start) (by omega) (by rw [List.length_map]; omega)
    rw [Int.toNat_natCast, List.length_map] at this
    exact this
  · refine ⟨.unk, ?_⟩
    have e : prs (sm m) (l.take (qT l.length 0)) = [] := by
      unfold qT
      split
      · rename_i h; rw [← h]; rfl
      · rfl
    rw [e]; rfl
  · rintro i j _ hj ⟨c, rfl⟩
    obtain ⟨hi, ea⟩ := List.getElem?_eq_some_iff.mp hj
    rw [List.length_range] at hi
    rw [List.getElem_range] at ea
    subst ea
    refine ⟨_, _, g_name, ?_⟩
    simp only [encR, Int.zero_add]
    have hpl : (prs (sm m) (l.take (qT l.length i))).length ≤ 1000 := by rw [prs_len, List.length_take]; omega
    have eq0 : qT l.length i = 2 * (i / 2) := if_neg (by omega)
    obtain ⟨a, ha⟩ : ∃ a, l[i]? = some a := ⟨_, List.getElem?_eq_getElem hi⟩
    have ea : atI (l.map PyData.int) ((i : Nat) : Int) = some (.int a) := atI_nat (by rw [List.getElem?_map, ha]; rfl)
    by_cases c1 : i % 2 = 1
    · obtain ⟨b, hb⟩ : ∃ b, l[i - 1]? = some b := ⟨_, List.getElem?_eq_getElem (by omega)⟩
      have eb : atI (l.map PyData.int) ((i : Int) - 1) = some (.int b) := by
        rw [show (i : Int) - 1 = ((i - 1 : Nat) : Int) by omega]
        exact atI_nat (by rw [List.getElem?_map, hb]; rfl)
      have e2 : prs (sm m) (l.take (qT l.length (i + 1))) = prs (sm m) (l.take (qT l.length i)) ++ [sm m b a] := by
        have e3 : qT l.length (i + 1) = 2 * (i / 2) + 2 := by unfold qT; split <;> omega
        rw [eq0, e3]
        refine prs_two ?_ ?_
        · rw [show 2 * (i / 2) = i - 1 by omega]; exact hb
        · rw [show 2 * (i / 2) + 1 = i by omega]; exact ha
      tb_start
      · simp only [e2, List.map_append]
        exact ⟨_, rfl⟩
      tb_start
    · by_cases c2 : i = l.length - 1
      · have e2 : prs (sm m) (l.take (qT l.length (i + 1))) = prs (sm m) (l.take (qT l.length i)) ++ [a] := by
          have e3 : qT l.length (i + 1) = l.length := by unfold qT; split <;> omega
          rw [eq0, e3, List.take_length]
          refine prs_one ?_ ?_
          · rw [show 2 * (i / 2) = i by omega]; exact ha
          · omega
        tb_start
        · simp only [e2, List.map_append]
          exact ⟨_, rfl⟩
        tb_start
      · have e2 : prs (sm m) (l.take (qT l.length (i + 1))) = prs (sm m) (l.take (qT l.length i)) := by
          have e3 : qT l.length (i + 1) = 2 * (i / 2) := by unfold qT; split <;> omega
          rw [eq0, e3]
        tb_start
        simp only [e2]
        exact ⟨_, rfl⟩
  · rintro _ ⟨c, rfl⟩
    rw [List.length_range]
    have e : l.take (qT l.length l.length) = l := by unfold qT; rw [if_pos rfl, List.take_length]
    rw [e]
    refine s_froz 2 (ds := (abv m l).map .int) rfl ?_
    (try dsimp only [cxK, cxK', List.map, List.length_cons, List.length_nil, List.cons_append, List.nil_append, Nat.reduceAdd, Nat.reduceSub, Nat.zero_add, Nat.add_zero, List.replicate, List.set])
    tb_start
  · exact fun _ z => z.elim
end


section
variable {P : Program} {w : World} {K : PySem.W.Frag} {mg : Str → Option Value} {base : Heap} {A : Nat → Addr} {D : Nat → FuncData}
theorem ok__law_sides (T : Txt K mg A D) : FnOk P w K mg base CX0 1 (A 12) (D 12) ["levels", "first", "last"] (PF K RSds) := by
  refine T.F__law_sides.ok (k := 0) sc__law_sides (PF.len (by rintro _ _ ⟨⟩ <;> rfl)) (fun cdv A' outer s H vs Q E hr h => ?_)
  have hnd := sc__law_sides.nd
  refine ⟨_, (pss_cons (ps_set (i := 3) hnd rfl (Or.inl rfl) (pe_lst pa_nil)) (pss_cons (ps_for PassesOwn.never rfl (pi_list (pe_slice sl_list (pv 0) po_none (po_some (pe_un un_neg pe_int)))) (pg_name (i := 4) hnd rfl (Or.inl rfl)) (pss_cons (ps_set (i := 5) hnd rfl (Or.inl rfl) pe_non) (pss_cons (ps_set (i := 6) hnd rfl (Or.inl rfl) pe_non) (pss_cons (ps_if (pt_cmpR op_eq (pe_op op_mod (pe_callTy call_int1 rfl T.z_int (by decide +kernel) (pa_cons (pv 1) pa_nil)) pe_int) pe_int (nomark _)) (pss_one (ps_set (i := 5) hnd rfl (Or.inl rfl) (pe_ix (r := rIxL K) ix_list (pv 4) (pe_op op_sub (pv 1) pe_int) (fun _ _ => rfl)))) pss_nil) (pss_cons (ps_if (PW.pt (pw_and (pt_cmpR op_eq (pe_op op_mod (pe_callTy call_int1 rfl T.z_int (by decide +kernel) (pa_cons (pv 2) pa_nil)) pe_int) pe_int (nomark _)) (pw_and1 (pt_cmpR op_lt (pv 2) (pe_op op_sub (pe_callB call_len_seq rfl T.z_len PySem.boot_len (pa_cons (pv 4) pa_nil)) pe_int) (nomark _))))) (pss_one (ps_set (i := 6) hnd rfl (Or.inl rfl) (pe_ix (r := rIxL K) ix_list (pv 4) (pe_op op_add (pv 2) pe_int) (fun _ _ => rfl)))) pss_nil) (pss_cons (ps_expr (pe_bm PySem.F.plainAttrs_list PySem.F.slot_list_append PySem.F.type_list_append mt_append (pv 3) (pa_cons (pe_tup (pa_cons (pv 5) (pa_cons (pv 6) pa_nil))) pa_nil))) (pss_cons (ps_set (i := 1) hnd rfl (Or.inl rfl) (pe_op op_fdiv (pv 1) pe_int)) (pss_one (ps_set (i := 2) hnd rfl (Or.inl rfl) (pe_op op_fdiv (pv 2) pe_int)))))))))) (pss_one (ps_ret (pe_callTy call_tuple_of rfl T.z_tuple (by decide +kernel) (pa_cons (pv 3) pa_nil)))))), run h ?_⟩
  rintro _ _ ⟨lvs, f, l, hg, hl, ht⟩
  have hdl : lvs.dropLast.length ≤ 100 := by rw [List.length_dropLast]; omega
  have ht' : ∀ lv ∈ lvs.dropLast, lv.length ≤ 1000 := fun lv h => ht lv (List.mem_of_mem_take (by rwa [List.dropLast_eq_take] at h))
  have esl : Psr K (rSlL K) (.list (lvs.map encL)) none (some (-1)) (.list (lvs.dropLast.map encL)) := by
    rw [List.map_dropLast, ← cutG_init]; exact sl_L
  generalize lvs.dropLast = dl at hg hdl ht' esl
  tb_start
  apply s_seq_for (xs := dl) (enc := encL) (fun i e => ∃ f' l' acc x y z, e = [.val (.list (lvs.map encL)), .val (.int f'), .val (.int l'), ownL K (acc.map encP), x, y, z] ∧ Good (dl.drop i) f' l' ∧ acc.length = i ∧ acc ++ sdS (dl.drop i) f' l' = sdS dl f l) (fun _ => False)
  · tb_start
  · exact ⟨f, l, [], _, _, _, rfl, hg, rfl, rfl⟩
  · rintro i lv _ hi ⟨f', l', acc, x, y, z, rfl, hg', ha, he⟩
    refine ⟨_, _, g_name, ?_⟩
    have hil := (List.getElem?_eq_some_iff.mp hi).1
    have hlv := ht' lv (List.mem_of_getElem? hi)
    have ed : dl.drop i = lv :: dl.drop (i + 1) := by
      rw [List.drop_eq_getElem_cons hil]
      congr 1
      exact (List.getElem?_eq_some_iff.mp hi).2
    rw [ed] at hg' he
    obtain ⟨g1, g2, g3, g4, g5⟩ := hg'
    have fin : ∀ o p, o = oI (lfS lv f') → p = oI (rtS lv l') → ∃ f'' l'' acc' x' y' z', [Sl.val (.list (lvs.map encL)), Sl.val (.int (f' / 2)), Sl.val (.int (l' / 2)), ownL K (acc.map encP ++ [.tuple [o, p]]), Sl.val (encL lv), Sl.val o, Sl.val p] = [.val (.list (lvs.map encL)), .val (.int f''), .val (.int l''), ownL K (acc'.map encP), x', y', z'] ∧ Good (dl.drop (i + 1)) f'' l'' ∧ acc'.length = i + 1 ∧ acc' ++ sdS (dl.drop (i + 1)) f'' l'' = sdS dl f l := by
      rintro _ _ rfl rfl
      refine ⟨f' / 2, l' / 2, acc ++ [(lfS lv f', rtS lv l')], .val (encL lv), .val (oI (lfS lv f')), .val (oI (rtS lv l')), ?_, g5, by rw [List.length_append, ha]; rfl, ?_⟩
      · rw [List.map_append]; rfl
      · rw [List.append_assoc, ← he]; rfl
    have nl : f' % 2 ≠ 1 → lfS lv f' = none := fun h => by unfold lfS; rw [if_neg h]
    have nr : ¬(l' % 2 = 0 ∧ l' + 1 < lv.length) → rtS lv l' = none := fun h => by unfold rtS; rw [if_neg h]
    by_cases c1 : f' % 2 = 1
    · obtain ⟨x1, e1, e2⟩ := pair_L g1 c1 g2
      by_cases c2 : l' % 2 = 0 ∧ l' + 1 < lv.length
      · obtain ⟨c3, c4⟩ := c2
        obtain ⟨x2, e3, e4⟩ := pair_R g3 c3 c4
        tb_start
        · exact fin _ _ (by rw [e1]; rfl) (by rw [e3]; rfl)
        all_goals tb_start
      · have e3 := nr c2
        tb_start
        · exact fin _ _ (by rw [e1]; rfl) (by rw [e3]; rfl)
        all_goals tb_start
    · have e1 := nl c1
      by_cases c2 : l' % 2 = 0 ∧ l' + 1 < lv.length
      · obtain ⟨c3, c4⟩ := c2
        obtain ⟨x2, e3, e4⟩ := pair_R g3 c3 c4
        tb_start
        · exact fin _ _ (by rw [e1]; rfl) (by rw [e3]; rfl)
        all_goals tb_start
      · have e3 := nr c2
        tb_start
        · exact fin _ _ (by rw [e1]; rfl) (by rw [e3]; rfl)
        all_goals tb_start
  · rintro _ ⟨f', l', acc, x, y, z, rfl, hg', ha, he⟩
    rw [List.drop_length] at he
    change acc ++ [] = _ at he
    rw [List.append_nil] at he
    subst he
    refine s_froz 3 (ds := (sdS dl f l).map encP) rfl ?_
    (try dsimp only [cxK, cxK', List.map, List.length_cons, List.length_nil, List.cons_append, List.nil_append, Nat.reduceAdd, Nat.reduceSub, Nat.zero_add, Nat.add_zero, List.replicate, List.set])
    tb_start
  · exact fun _ z => z.elim
/-! ### one side wrong -/
def flO : Option Int → Option Int
  | none => some 1
  | some _ => none
def flp (w : Bool) (p : Sd) : Sd := if w then (p.1, flO p.2) else (flO p.1, p.2)
def wrS (w : Bool) (sd : List Sd) (k : Nat) : List Sd := sd.take k ++ (match sd[k]? with | some p => [flp w p] | none => []) ++ sd.drop (k + 1)
inductive RWr : List PyData → PyData → Prop
  | mk (sd : List Sd) (k : Nat) (w : Bool) (h : k < sd.length) (hl : sd.length ≤ 1000) : RWr [.tuple (sd.map encP), .int (k : Int), .int (if w then 1 else 0)] (.tuple ((wrS w sd k).map encP))
theorem f_listT {K : PySem.W.Frag} {env : List Sl} {te : TE} {ds : List PyData} (he : Pe K te env (.tuple ds)) : Pf K (tCB (fun xs H Q => ∃ p ys, xs = [.ref p] ∧ (SqL K H p ys ∨ SqT K H p ys) ∧ ∀ l, H l = none → Q (.ref l) (upd H l (.lst ys))) (tCons te tNil)) env ds := fun H0 M0 H M fps σ Q k q => by
  refine he H0 M0 H M fps σ _ k fun v H1 M1 x1 dv => ?_
  obtain ⟨a, xs, rfl, e1, e2⟩ := dq_tupI dv
  refine ⟨a, xs, rfl, .inr (Same.sqT x1.s e1), fun p hp => ?_⟩
  have mp := none_of x1.s hp
  refine q p xs _ M1 ⟨fun b u e => ?_, x1.m, fun b u e => ?_, x1.n⟩ (none_of x1.h hp) mp upd_same e2
  · have e' := x1.h b u e
    rw [upd_ne (fun z => by rw [z, hp] at e'; cases e')]; exact e'
  · rw [upd_ne (fun z => by rw [z, mp] at e; cases e)]; exact x1.s b u e
theorem s_seq_listT {K : PySem.W.Frag} {R : Rt} {B C N : EnvP} {env : List Sl} {u : TS} {i : Nat} {te : TE} {ds : List PyData} (he : Pe K te env (.tuple ds)) (hi : i < env.length) (h : Ps K R B C u (env.set i (ownL K ds)) N) : Ps K R B C (tSeq (tAsg (tCB (fun xs H Q => ∃ p ys, xs = [.ref p] ∧ (SqL K H p ys ∨ SqT K H p ys) ∧ ∀ l, H l = none → Q (.ref l) (upd H l (.lst ys))) (tCons te tNil)) (gName i)) u) env N :=
  s_seq_setF (f_listT he) h hi
local macro_rules
  | `(tactic| tb_rel) => `(tactic| first
    | ((with_reducible change Ps _ _ _ _ (tSeq (tAsg (tCB _ _) (gName 3)) _) _ _); with_reducible apply s_seq_listT)
    | ((with_reducible change ixN _ _ = some _); rfl)
    | ((with_reducible change List.set _ _ _ = _); rfl)
    | ((with_reducible change Ps _ _ _ _ (tSeq (tAsg _ (gSub _ _ _)) _) _ _); ((with_reducible apply s_seq_setItZ); rfl)))
theorem ok__law_wrong (T : Txt K mg A D) : FnOk P w K mg base CX0 1 (A 13) (D 13) ["told", "k", "which"] (PF K RWr) := by
  refine T.F__law_wrong.ok (k := 0) sc__law_wrong (PF.len (by rintro _ _ ⟨⟩ <;> rfl)) (fun cdv A' outer s H vs Q E hr h => ?_)
  have hnd := sc__law_wrong.nd
  refine ⟨_, (pss_cons (ps_set (i := 3) hnd rfl (Or.inl rfl) (pe_callTy call_list_of rfl T.z_list (by decide +kernel) (pa_cons (pe_ix (r := rIxT K) ix_tup (pv 0) (pv 1) (fun _ _ => rfl)) pa_nil))) (pss_cons (ps_if (pt_cmpR op_isN (pe_ix (r := rIxL K) ix_list (pv 3) (pv 2) (fun _ _ => rfl)) pe_non (nomark _)) (pss_one (ps_asg pe_int (pg_sub (pv 3) (pv 2) set_list))) (pss_one (ps_asg pe_non (pg_sub (pv 3) (pv 2) set_list)))) (pss_one (ps_ret (pe_op (r := rCatA K) op_catA (pe_op (r := rCatA K) op_catA (pe_slice (r := rSlA K) sl_tupA (pv 0) po_none (po_some (pv 1))) (pe_tup (pa_cons (pe_callTy call_tuple_of rfl T.z_tuple (by decide +kernel) (pa_cons (pv 3) pa_nil)) pa_nil))) (pe_slice (r := rSlA K) sl_tupA (pv 0) (po_some (pe_op op_add (pv 1) pe_int)) po_none)))))), run h ?_⟩
  rintro _ _ ⟨sd, k, w, hk, hl⟩
  obtain ⟨p, hp⟩ : ∃ p, sd[k]? = some p := ⟨_, List.getElem?_eq_getElem hk⟩
  have e1 : atI (sd.map encP) (k : Int) = some (encP p) := atI_nat (by rw [List.getElem?_map, hp]; rfl)
  have esl1 : Psr K (rSlA K) (.tuple (sd.map encP)) none (some (k : Int)) (.tuple ((sd.take k).map encP)) := by
    have := cutG_take (sd.map encP) (n := (k : Int)) (by omega)
    rw [Int.toNat_natCast, ← List.map_take] at this
    rw [← this]; exact sl_T
  have esl2 : Psr K (rSlA K) (.tuple (sd.map encP)) (some ((k : Int) + 1)) none (.tuple ((sd.drop (k + 1)).map encP)) := by
    have := cutG_drop (sd.map encP) (n := (k : Int) + 1) (by omega)
    rw [show ((k : Int) + 1).toNat = k + 1 by omega, ← List.map_drop] at this
    rw [← this]; exact sl_T
  have fin : ∀ d, d = encP (flp w p) → PyData.tuple ((sd.take k).map encP ++ [d] ++ (sd.drop (k + 1)).map encP) = .tuple ((wrS w sd k).map encP) := by
    rintro _ rfl
    unfold wrS
    rw [hp, List.map_append, List.map_append]; rfl
  obtain ⟨o1, o2⟩ := p
  cases w <;> cases o1 <;> cases o2
  all_goals first | change atI (sd.map encP) _ = some (.tuple [.none, .none]) at e1 | change atI (sd.map encP) _ = some (.tuple [.none, .int _]) at e1 | change atI (sd.map encP) _ = some (.tuple [.int _, .none]) at e1 | change atI (sd.map encP) _ = some (.tuple [.int _, .int _]) at e1
  all_goals simp only [if_true, Bool.false_eq_true, if_false]
  all_goals tb_start
  all_goals first | exact fin _ rfl | tb_start
end


/-! ### levels, stretches and their sides -/
section
variable {m : Int}
def IsLv (m : Int) : List (List Int) → Prop
  | [] => False
  | [L] => 0 < L.length
  | L :: L' :: r => 1 < L.length ∧ L' = abv m L ∧ IsLv m (L' :: r)
theorem isLv_tail {L : List Int} {r : List (List Int)} (h : IsLv m (L :: r)) (hr : r ≠ []) : 1 < L.length ∧ r.headD [] = abv m L ∧ IsLv m r := by
  cases r with
  | nil => exact absurd rfl hr
  | cons L' r => exact ⟨h.1, h.2.1, h.2.2⟩
theorem isLv_head {L : List Int} {r : List (List Int)} (h : IsLv m (L :: r)) : 0 < L.length := by
  cases r with
  | nil => exact h
  | cons L' r => exact Nat.lt_of_succ_lt h.1
theorem isLv_snoc {L : List Int} : ∀ {pre : List (List Int)}, IsLv m (pre ++ [L]) → 1 < L.length → IsLv m (pre ++ [L] ++ [abv m L])
  | [], h, h1 => ⟨h1, rfl, by show 0 < (abv m L).length; unfold abv; rw [prs_len]; omega⟩
  | [X], h, h1 => ⟨h.1, h.2.1, isLv_snoc (pre := []) h.2.2 h1⟩
  | X :: Y :: r, h, h1 => ⟨h.1, h.2.1, isLv_snoc (pre := Y :: r) h.2.2 h1⟩
theorem isLv_mid {X : List Int} {q : List (List Int)} (hq : q ≠ []) : ∀ {p : List (List Int)}, IsLv m (p ++ X :: q) → 1 < X.length
  | [], h => (isLv_tail h hq).1
  | L :: p, h => isLv_mid hq (isLv_tail (r := p ++ X :: q) h (by simp)).2.2
theorem abv_len (L : List Int) : (abv m L).length = (L.length + 1) / 2 := prs_len L
def st (L : List Int) (f l : Nat) : List Int := (L.drop f).take (l + 1 - f)
theorem st_len {L : List Int} {f l : Nat} (h : f ≤ l) (h2 : l < L.length) : (st L f l).length = l + 1 - f := by
  unfold st
  rw [List.length_take, List.length_drop]; omega
theorem lf_odd {L : List Int} {f : Nat} (h : f % 2 = 1) : lfS L (f : Int) = L[f - 1]? := by
  unfold lfS
  rw [if_pos (by omega), show ((f : Int) - 1).toNat = f - 1 by omega]
theorem lf_even {L : List Int} {f : Nat} (h : ¬ f % 2 = 1) : lfS L (f : Int) = none := by
  unfold lfS
  rw [if_neg (by omega)]
theorem rt_yes {L : List Int} {l : Nat} (h : l % 2 = 0 ∧ l + 1 < L.length) : rtS L (l : Int) = L[l + 1]? := by
  unfold rtS
  rw [if_pos (by omega), show ((l : Int) + 1).toNat = l + 1 by omega]
theorem rt_no {L : List Int} {l : Nat} (h : ¬ (l % 2 = 0 ∧ l + 1 < L.length)) : rtS L (l : Int) = none := by
  unfold rtS
  rw [if_neg (by omega)]
theorem lf_isN {L : List Int} {f : Nat} (h : f < L.length) : isN (oI (lfS L (f : Int))) = !decide ((f : Int) % 2 = 1) := by
  rw [isN_oI]
  by_cases c : f % 2 = 1
  · rw [lf_odd c, List.getElem?_eq_getElem (by omega), decide_eq_true (by omega)]; rfl
  · rw [lf_even c, decide_eq_false (by omega)]; rfl
theorem rt_isN {L : List Int} {l : Nat} : isN (oI (rtS L (l : Int))) = !(decide ((l : Int) % 2 = 0) && decide ((l : Int) + 1 < (L.length : Int))) := by
  rw [isN_oI]
  by_cases c : l % 2 = 0 ∧ l + 1 < L.length
  · rw [rt_yes c, List.getElem?_eq_getElem c.2, decide_eq_true (by omega), decide_eq_true (by omega)]; rfl
  · rw [rt_no c]
    have : (decide ((l : Int) % 2 = 0) && decide ((l : Int) + 1 < (L.length : Int))) = false := by
      rw [Bool.and_eq_false_iff, decide_eq_false_iff_not, decide_eq_false_iff_not]; omega
    rw [this]; rfl
theorem ext_L {L : List Int} {f l : Nat} (h : f ≤ l) (h2 : l < L.length) : (lfS L (f : Int)).toList ++ st L f l = st L (2 * (f / 2)) l := by
  by_cases c : f % 2 = 1
  · rw [lf_odd c, List.getElem?_eq_getElem (by omega)]
    have e : L.drop (2 * (f / 2)) = L[f - 1] :: L.drop f := by
      rw [show 2 * (f / 2) = f - 1 by omega, List.drop_eq_getElem_cons (show f - 1 < L.length by omega), show f - 1 + 1 = f by omega]
    unfold st
    rw [e, show l + 1 - 2 * (f / 2) = l + 1 - f + 1 by omega, List.take_succ_cons]; rfl
  · rw [lf_even c, show 2 * (f / 2) = f by omega]; rfl
theorem ext_R {L : List Int} {g l : Nat} (h : g ≤ l) (h2 : l < L.length) : st L g l ++ (rtS L (l : Int)).toList = st L g (if l % 2 = 0 ∧ l + 1 < L.length then l + 1 else l) := by
  by_cases c : l % 2 = 0 ∧ l + 1 < L.length
  · rw [if_pos c, rt_yes c]
    unfold st
    rw [show l + 1 + 1 - g = l + 1 - g + 1 by omega, List.take_add_one, List.getElem?_drop, show g + (l + 1 - g) = l + 1 by omega]
  · rw [if_neg c, rt_no c]; exact List.append_nil _
theorem abv_st {L : List Int} {f l : Nat} (h : f ≤ l) (h2 : l < L.length) : abv m ((lfS L (f : Int)).toList ++ st L f l ++ (rtS L (l : Int)).toList) = st (abv m L) (f / 2) (l / 2) := by
  rw [ext_L h h2, ext_R (show 2 * (f / 2) ≤ l by omega) h2]
  have hd := prs_drop (f := sm m) (f / 2) L (by omega)
  unfold abv st
  by_cases c : l % 2 = 0 ∧ l + 1 < L.length
  · rw [if_pos c, show l + 1 + 1 - 2 * (f / 2) = 2 * (l / 2 + 1 - f / 2) by omega, prs_take _ _ (by rw [List.length_drop]; omega), hd]
  · rw [if_neg c]
    by_cases c2 : l % 2 = 0
    · rw [List.take_of_length_le (by rw [List.length_drop]; omega), hd, List.take_of_length_le (by rw [List.length_drop, prs_len]; omega)]
    · rw [show l + 1 - 2 * (f / 2) = 2 * (l / 2 + 1 - f / 2) by omega, prs_take _ _ (by rw [List.length_drop]; omega), hd]
theorem bad_cons {L : List Int} {f l : Nat} (h : f ≤ l) (h2 : l < L.length) : ((f : Int) + (((st L f l).length : Nat) : Int) - 1) = (l : Int) := by
  rw [st_len h h2]; omega
theorem bad_no {L : List Int} {f l : Nat} (h : f ≤ l) (h2 : l < L.length) (h1 : 1 < L.length) : bad (st L f l).length f L.length (lfS L f, rtS L l) = false := by
  unfold bad
  rw [bad_cons h h2]
  dsimp only
  rw [lf_isN (by omega), rt_isN, decide_eq_false (by omega)]
  simp
theorem fl_isN (o : Option Int) : isN (oI (flO o)) = !isN (oI o) := by cases o <;> rfl
theorem bad_fl {L : List Int} {f l : Nat} (w : Bool) (h : f ≤ l) (h2 : l < L.length) : bad (st L f l).length f L.length (flp w (lfS L f, rtS L l)) = true := by
  unfold bad
  rw [bad_cons h h2]
  cases w
  · show (_ || (!decide (_ = !isN (oI (flO _))) || _)) = true
    rw [fl_isN, lf_isN (by omega)]
    cases decide ((f : Int) % 2 = 1) <;> simp
  · show (_ || (_ || !decide (_ = !isN (oI (flO _))))) = true
    rw [fl_isN, rt_isN]
    cases (decide ((l : Int) % 2 = 0) && decide ((l : Int) + 1 < (L.length : Int))) <;> simp
theorem tp_cons (s : List Int) (f c : Int) (p : Sd) (r : List Sd) : tp m s f c (p :: r) = if bad s.length f c p then none else tp m (abv m (p.1.toList ++ s ++ p.2.toList)) (f / 2) ((c + 1) / 2) r := rfl
theorem tp_step {L : List Int} {f l : Nat} (h : f ≤ l) (h2 : l < L.length) (h1 : 1 < L.length) (s : List Sd) : tp m (st L f l) f L.length ((lfS L f, rtS L l) :: s) = tp m (st (abv m L) (f / 2) (l / 2)) ((f / 2 : Nat) : Int) (((abv m L).length : Nat) : Int) s := by
  rw [tp_cons, bad_no h h2 h1, if_neg Bool.false_ne_true, abv_st h h2, abv_len]
  congr 1
theorem runL : ∀ (p : List (List Int)) (X : List Int) (q : List (List Int)) (f l : Nat), IsLv m (p ++ X :: q) → f ≤ l → l < ((p ++ X :: q).headD []).length → ∃ f' l' : Nat, f' ≤ l' ∧ l' < X.length ∧ (∀ q', sdS (p ++ X :: q') f l = sdS p f l ++ sdS (X :: q') f' l') ∧
    ∀ s, tp m (st ((p ++ X :: q).headD []) f l) f (((p ++ X :: q).headD []).length : Nat) (sdS p f l ++ s) = tp m (st X f' l') f' X.length s
  | [], X, q, f, l, _, h, h2 => ⟨f, l, h, h2, fun _ => rfl, fun _ => rfl⟩
  | L :: p, X, q, f, l, hI, h, h2 => by
    obtain ⟨a1, a2, a3⟩ := isLv_tail (r := p ++ X :: q) hI (by simp)
    change l < L.length at h2
    obtain ⟨f', l', e1, e2, e3, e4⟩ := runL p X q (f / 2) (l / 2) a3 (by omega) (by rw [a2, abv_len]; omega)
    refine ⟨f', l', e1, e2, fun q' => ?_, fun s => ?_⟩
    · exact congrArg ((lfS L f, rtS L l) :: ·) (e3 q')
    · rw [a2] at e4
      rw [← e4 s]
      exact tp_step h h2 a1 _
theorem goodL : ∀ (lvs : List (List Int)) (f l : Nat), IsLv m lvs → f ≤ l → l < (lvs.headD []).length → Good lvs f l
  | [], _, _, h, _, _ => h.elim
  | [L], f, l, h, h1, h2 => by
    change l < L.length at h2
    exact ⟨by omega, by omega, by omega, by omega, True.intro⟩
  | L :: L' :: r, f, l, h, h1, h2 => by
    change l < L.length at h2
    refine ⟨by omega, by omega, by omega, by omega, ?_⟩
    refine goodL (L' :: r) (f / 2) (l / 2) h.2.2 (by omega) ?_
    show l / 2 < L'.length
    rw [h.2.1, abv_len]; omega
variable {pre : List (List Int)} {t : Int} {f l : Nat}
theorem top_yes (hI : IsLv m (pre ++ [[t]])) (h : f ≤ l) (h2 : l < ((pre ++ [[t]]).headD []).length) : tp m (st ((pre ++ [[t]]).headD []) f l) f (((pre ++ [[t]]).headD []).length : Nat) (sdS pre f l) = some t := by
  obtain ⟨f', l', e1, e2, _, e4⟩ := runL pre [t] [] f l hI h h2
  have := e4 []
  rw [List.append_nil] at this
  rw [this]
  rw [List.length_singleton] at e2
  have e0 : l' = 0 := by omega
  have e9 : f' = 0 := by omega
  subst e0 e9
  rfl
theorem top_more (hI : IsLv m (pre ++ [[t]])) (h : f ≤ l) (h2 : l < ((pre ++ [[t]]).headD []).length) : tp m (st ((pre ++ [[t]]).headD []) f l) f (((pre ++ [[t]]).headD []).length : Nat) (sdS pre f l ++ [(none, none)]) = none := by
  obtain ⟨f', l', e1, e2, _, e4⟩ := runL pre [t] [] f l hI h h2
  rw [e4, tp_cons]
  exact if_pos rfl
theorem sd_app : ∀ (p q : List (List Int)) (f l : Int), (sdS (p ++ q) f l).take p.length = sdS p f l
  | [], q, f, l => by rw [List.length_nil, List.take_zero]; rfl
  | L :: p, q, f, l => congrArg ((lfS L f, rtS L l) :: ·) (sd_app p q (f / 2) (l / 2))
theorem top_less (hI : IsLv m (pre ++ [[t]])) (h : f ≤ l) (h2 : l < ((pre ++ [[t]]).headD []).length) (hp : pre ≠ []) : tp m (st ((pre ++ [[t]]).headD []) f l) f (((pre ++ [[t]]).headD []).length : Nat) (sdS pre f l).dropLast = none := by
  obtain ⟨p, X, rfl⟩ : ∃ p X, pre = p ++ [X] := ⟨_, _, (List.dropLast_concat_getLast hp).symm⟩
  have e0 : p ++ [X] ++ [[t]] = p ++ X :: [[t]] := List.append_assoc _ _ _
  rw [e0] at hI h2 ⊢
  obtain ⟨f', l', e1, e2, _, e4⟩ := runL p X [[t]] f l hI h h2
  have e5 : (sdS (p ++ [X]) f l).dropLast = sdS p f l := by
    rw [List.dropLast_eq_take, sd_len, List.length_append, List.length_singleton, Nat.add_sub_cancel, sd_app]
  have := e4 []
  rw [List.append_nil] at this
  rw [e5, this]
  have h3 := isLv_mid (q := [[t]]) (by simp) hI
  exact if_neg (by omega)
theorem top_wrong (hI : IsLv m (pre ++ [[t]])) (h : f ≤ l) (h2 : l < ((pre ++ [[t]]).headD []).length) {k : Nat} (hk : k < pre.length) (w : Bool) : tp m (st ((pre ++ [[t]]).headD []) f l) f (((pre ++ [[t]]).headD []).length : Nat) (wrS w (sdS pre f l) k) = none := by
  obtain ⟨p, X, q, rfl, hp⟩ : ∃ p X q, pre = p ++ X :: q ∧ p.length = k := ⟨pre.take k, pre[k], pre.drop (k + 1), by rw [List.getElem_cons_drop, List.take_append_drop], by rw [List.length_take]; omega⟩
  have e0 : p ++ X :: q ++ [[t]] = p ++ X :: (q ++ [[t]]) := List.append_assoc _ _ _
  rw [e0] at hI h2 ⊢
  obtain ⟨f', l', e1, e2, e3, e4⟩ := runL p X (q ++ [[t]]) f l hI h h2
  have e5 : wrS w (sdS (p ++ X :: q) f l) k = sdS p f l ++ flp w (lfS X f', rtS X l') :: sdS q ((f' : Int) / 2) ((l' : Int) / 2) := by
    have hl : (sdS p f l).length = k := by rw [sd_len, hp]
    rw [e3 q]
    show wrS w (sdS p f l ++ (lfS X f', rtS X l') :: sdS q ((f' : Int) / 2) ((l' : Int) / 2)) k = _
    generalize sdS p f l = a at hl
    generalize sdS q ((f' : Int) / 2) ((l' : Int) / 2) = b
    have e6 : ∀ x : Sd, (a ++ x :: b).drop (k + 1) = b := fun x => by
      rw [← List.singleton_append, ← List.append_assoc, show k + 1 = (a ++ [x]).length by rw [List.length_append, hl]; rfl, List.drop_left]
    unfold wrS
    rw [e6, ← hl, List.take_left, List.getElem?_append_right (Nat.le_refl _), Nat.sub_self]
    simp
  rw [e5, e4, tp_cons, bad_fl w e1 e2, if_pos rfl]
end


section
variable {P : Program} {w : World} {K : PySem.W.Frag} {mg : Str → Option Value} {base : Heap} {A : Nat → Addr} {D : Nat → FuncData}
/-! ### the law -/
theorem w_range1N {K : PySem.W.Frag} {env : List Sl} {ta : TA} {n : Nat} (ha : Pa K ta env [.int ((n : Nat) : Int)]) (h : n < 2 ^ 62) : Pw K (iRng1 ta) env ((List.range n).map (encR 0)) := by
  have := w_range1 ha (by omega) (by omega)
  rwa [Int.toNat_natCast] at this
theorem w_range2N {K : PySem.W.Frag} {env : List Sl} {ta : TA} {a b : Nat} (ha : Pa K ta env [.int ((a : Nat) : Int), .int ((b : Nat) : Int)]) (h : a ≤ b) (h2 : b < 2 ^ 62) : Pw K (iRng2 ta) env ((List.range (b - a)).map (encR a)) := by
  have := w_range2 ha (by omega) (by omega) (by omega) (by omega)
  rwa [show ((b : Int) - (a : Int)).toNat = b - a by omega] at this
theorem cutG_fl {α : Type} (xs : List α) {f l : Nat} (h : f ≤ l) (h2 : l < xs.length) : cutG xs (some (f : Int)) (some ((l : Int) + 1)) = (xs.drop f).take (l + 1 - f) := by
  show (xs.drop (if (f : Int) < 0 then ((f : Int) + (xs.length : Int)).toNat else min (f : Int).toNat xs.length)).take ((if (l : Int) + 1 < 0 then ((l : Int) + 1 + (xs.length : Int)).toNat else min ((l : Int) + 1).toNat xs.length) - (if (f : Int) < 0 then ((f : Int) + (xs.length : Int)).toNat else min (f : Int).toNat xs.length)) = _
  rw [if_neg (by omega), if_neg (by omega), Int.toNat_natCast, show ((l : Int) + 1).toNat = l + 1 by omega, Nat.min_eq_left (by omega), Nat.min_eq_left (by omega)]
noncomputable def lowF (ns : List Int) (m : Int) (n : Nat) : List Int := (List.range n).map fun k => (cellF ns (2 + k)).fmod m
theorem wrS_len (w : Bool) (sd : List Sd) (k : Nat) : (wrS w sd k).length ≤ 2 * sd.length + 1 := by
  unfold wrS
  rw [List.length_append, List.length_append, List.length_take, List.length_drop]
  cases sd[k]? <;> simp only [List.length_cons, List.length_nil] <;> omega
theorem c_tup1 {K : PySem.W.Frag} {ds : List PyData} : Pc K (fun xs H Q => ∃ a ys, xs = [.ref a] ∧ SqT K H a ys ∧ Q (.ref a) H) [.tuple ds] (.tuple ds) := fun H M vs Q s h0 q => by
  obtain ⟨v, rfl, h⟩ := dqA_one h0
  obtain ⟨a, xs, rfl, h1, h2⟩ := dq_tupI h
  exact ⟨a, xs, rfl, Same.sqT s h1, q _ H M (Ext.refl s) (.tup h1 h2)⟩
theorem okn_oI {n : Nat} (o : Option Int) : okn n (oI o) := by
  cases o
  · exact okn_non
  · exact okn_int
local macro_rules
  | `(tactic| tb_rel) => `(tactic| first
    | ((with_reducible change RCell _ _ _); first | exact RCell.mk 0 | exact RCell.mk 1 | exact RCell.mk (2 + _))
    | ((with_reducible change Pc _ _ _ _); with_reducible apply c_tup1)
    | ((with_reducible change RLab _ _); exact RLab.mk _ _ (by assumption) (by omega))
    | ((with_reducible change Po _ (rNeD _) _ _ _); exact o_neF (okn_tup (n := 1) (by first | assumption)).sh rfl))
theorem ok_lawY (T : Txt K mg A D) : FnOk P w K mg base CX0 6 (A 14) (D 14) ["script"] (PFS K RLaw) := by
  refine T.F_law.ok (k := 5) sc_law (PFS.len (by rintro _ _ _ ⟨⟩ <;> rfl)) (fun cdv A' outer s H vs Q E hr h => ?_)
  have hnd := sc_law.nd
  have G__law_sides := ok__law_sides (P := P) (w := w) (base := base) T
  have G__law_cell := ok__law_cell (P := P) (w := w) (base := base) T
  have G__law_above := ok__law_above (P := P) (w := w) (base := base) T
  have G_top_from := ok_top_from (P := P) (w := w) (base := base) T
  have G__law_wrong := ok__law_wrong (P := P) (w := w) (base := base) T
  have G_sides := ok_sides (P := P) (w := w) (base := base) T
  refine ⟨_, (pss_cons (ps_set (i := 2) hnd rfl (Or.inr rfl) (pe_op op_add pe_int (pe_op op_mod (pe_callTy call_int1 rfl T.z_int (by decide +kernel) (pa_cons (pe_call G__law_cell (hr.mono (by first | decide | omega)) rfl T.m__law_cell T.F__law_cell.kp T.b__law_cell .nil pass0 (pa_cons (pv 0) (pa_cons pe_int pa_nil))) pa_nil)) pe_int))) (pss_cons (ps_set (i := 3) hnd rfl (Or.inl rfl) (pe_op op_add pe_int (pe_op op_mod (pe_callTy call_int1 rfl T.z_int (by decide +kernel) (pa_cons (pe_call G__law_cell (hr.mono (by first | decide | omega)) rfl T.m__law_cell T.F__law_cell.kp T.b__law_cell .nil pass0 (pa_cons (pv 0) (pa_cons pe_int pa_nil))) pa_nil)) pe_int))) (pss_cons (ps_set (i := 4) hnd rfl (Or.inl rfl) (pe_lst (pa_cons (pe_lc (own := [("k", 1)]) rfl hnd (pi_range1 rfl T.z_range (pa_cons (pv 3) pa_nil)) (blkOk_by (own := [("k", 1)]) (N := N_law) (sc := defScope s_law) (by decide +kernel)) (fun _ _ _ _ _ => (pg_name (i := 1) hnd rfl (Or.inl rfl))) (fun _ _ _ _ _ => pts_nil) (fun _ _ _ _ _ => (pe_op op_modN (pe_callTy call_int1 rfl T.z_int (by decide +kernel) (pa_cons (pe_call G__law_cell (hr.mono (by first | decide | omega)) rfl T.m__law_cell T.F__law_cell.kp T.b__law_cell .nil pass0 (pa_cons (pv 0) (pa_cons (pe_op op_add pe_int (pv 1)) pa_nil))) pa_nil)) (pv 2)))) pa_nil))) (pss_cons (ps_for PassesOwn.never rfl (pi_range1 rfl T.z_range (pa_cons pe_int pa_nil)) (pg_name (i := 5) hnd rfl (Or.inl rfl)) (pss_one (ps_if (pt_cmpR op_gt (pe_callB call_len_seq rfl T.z_len PySem.boot_len (pa_cons (pe_ix (r := rIxL K) ix_list (pv 4) (pe_un un_neg pe_int) (fun _ _ => rfl)) pa_nil)) pe_int (nomark _)) (pss_one (ps_expr (pe_bm PySem.F.plainAttrs_list PySem.F.slot_list_append PySem.F.type_list_append mt_append (pv 4) (pa_cons (pe_call G__law_above (hr.mono (by first | decide | omega)) rfl T.m__law_above T.F__law_above.kp T.b__law_above .nil pass0 (pa_cons (pe_ix (r := rIxL K) ix_list (pv 4) (pe_un un_neg pe_int) (fun _ _ => rfl)) (pa_cons (pv 2) pa_nil))) pa_nil)))) pss_nil))) (pss_cons (ps_for PassesOwn.never rfl (pi_range1 rfl T.z_range (pa_cons (pv 3) pa_nil)) (pg_name (i := 6) hnd rfl (Or.inl rfl)) (pss_one (ps_for PassesOwn.never rfl (pi_range2 rfl T.z_range (pa_cons (pv 6) (pa_cons (pv 3) pa_nil))) (pg_name (i := 7) hnd rfl (Or.inl rfl)) (pss_cons (ps_set (i := 8) hnd rfl (Or.inl rfl) (pe_call G__law_sides (hr.mono (by first | decide | omega)) rfl T.m__law_sides T.F__law_sides.kp T.b__law_sides .nil pass0 (pa_cons (pv 4) (pa_cons (pv 6) (pa_cons (pv 7) pa_nil))))) (pss_cons (ps_set (i := 9) hnd rfl (Or.inl rfl) (pe_slice sl_list (pe_ix (r := rIxL K) ix_list (pv 4) pe_int (fun _ _ => rfl)) (po_some (pv 6)) (po_some (pe_op op_add (pv 7) pe_int)))) (pss_cons (ps_if (pt_cmpR (r := rNeD K) (op_neD hr.units) (pe_callTy call_tupleT rfl T.z_tuple (by decide +kernel) (pa_cons (pe_call G_sides (hr.mono (by first | decide | omega)) rfl T.m_sides T.F_sides.kp T.b_sides .nil pass0 (pa_cons (pv 4) (pa_cons (pv 6) (pa_cons (pv 7) pa_nil)))) pa_nil)) (pv 8) (nomark _)) (pss_one (ps_ret pe_bl)) pss_nil) (pss_cons (ps_if (pt_cmpR op_ne (pe_call G_top_from (hr.mono (by first | decide | omega)) rfl T.m_top_from T.F_top_from.kp T.b_top_from .nil pass0 (pa_cons (pe_callTy call_list_of rfl T.z_list (by decide +kernel) (pa_cons (pv 9) pa_nil)) (pa_cons (pv 6) (pa_cons (pv 3) (pa_cons (pv 8) (pa_cons (pv 2) pa_nil)))))) (pe_ix (r := rIxL K) ix_list (pe_ix (r := rIxL K) ix_list (pv 4) (pe_un un_neg pe_int) (fun _ _ => rfl)) pe_int (fun _ _ => rfl)) (nomark _)) (pss_one (ps_ret pe_bl)) pss_nil) (pss_cons (ps_if (pt_cmpR op_notN (pe_call G_top_from (hr.mono (by first | decide | omega)) rfl T.m_top_from T.F_top_from.kp T.b_top_from .nil pass0 (pa_cons (pe_callTy call_list_of rfl T.z_list (by decide +kernel) (pa_cons (pv 9) pa_nil)) (pa_cons (pv 6) (pa_cons (pv 3) (pa_cons (pe_op (r := rCatA K) op_catA (pv 8) (pe_tup (pa_cons (pe_tup (pa_cons pe_non (pa_cons pe_non pa_nil))) pa_nil))) (pa_cons (pv 2) pa_nil)))))) pe_non (nomark _)) (pss_one (ps_ret pe_bl)) pss_nil) (pss_one (ps_if (pt_cmpR op_gt (pe_callB call_len_seq rfl T.z_len PySem.boot_len (pa_cons (pv 8) pa_nil)) pe_int (nomark _)) (pss_cons (ps_if (pt_cmpR op_notN (pe_call G_top_from (hr.mono (by first | decide | omega)) rfl T.m_top_from T.F_top_from.kp T.b_top_from .nil pass0 (pa_cons (pe_callTy call_list_of rfl T.z_list (by decide +kernel) (pa_cons (pv 9) pa_nil)) (pa_cons (pv 6) (pa_cons (pv 3) (pa_cons (pe_slice (r := rSlA K) sl_tupA (pv 8) po_none (po_some (pe_un un_neg pe_int))) (pa_cons (pv 2) pa_nil)))))) pe_non (nomark _)) (pss_one (ps_ret pe_bl)) pss_nil) (pss_cons (ps_set (i := 10) hnd rfl (Or.inl rfl) (pe_call G__law_wrong (hr.mono (by first | decide | omega)) rfl T.m__law_wrong T.F__law_wrong.kp T.b__law_wrong .nil pass0 (pa_cons (pv 8) (pa_cons (pe_op op_modN (pe_callTy call_int1 rfl T.z_int (by decide +kernel) (pa_cons (pe_op op_add (pe_op op_mul (pv 6) pe_int) (pv 7)) pa_nil)) (pe_callB call_len_seq rfl T.z_len PySem.boot_len (pa_cons (pv 8) pa_nil))) (pa_cons (pe_op op_mod (pe_callTy call_int1 rfl T.z_int (by decide +kernel) (pa_cons (pe_op op_add (pv 6) (pv 7)) pa_nil)) pe_int) pa_nil))))) (pss_one (ps_if (pt_cmpR op_notN (pe_call G_top_from (hr.mono (by first | decide | omega)) rfl T.m_top_from T.F_top_from.kp T.b_top_from .nil pass0 (pa_cons (pe_callTy call_list_of rfl T.z_list (by decide +kernel) (pa_cons (pv 9) pa_nil)) (pa_cons (pv 6) (pa_cons (pv 3) (pa_cons (pv 10) (pa_cons (pv 2) pa_nil)))))) pe_non (nomark _)) (pss_one (ps_ret pe_bl)) pss_nil)))) pss_nil)))))))))) (pss_one (ps_ret pe_bl))))))), runS h ?_⟩
  rintro ns _ _ ⟨hn⟩
  (try dsimp only [cxK, cxK', List.map, List.length_cons, List.length_nil, List.cons_append, List.nil_append, Nat.reduceAdd, Nat.reduceSub, Nat.zero_add, Nat.add_zero, List.replicate, List.set])
  have h0 := mod_r (cellF ns 0) (m := 1000) (by decide)
  have h1 := mod_r (cellF ns 1) (m := 20) (by decide)
  obtain ⟨n, hn1⟩ : ∃ n : Nat, 1 + cellF ns 1 % 20 = (n : Int) := ⟨(1 + cellF ns 1 % 20).toNat, by omega⟩
  obtain ⟨m, hm1⟩ : ∃ m : Int, 2 + cellF ns 0 % 1000 = m := ⟨_, rfl⟩
  have hn2 : 1 ≤ n ∧ n ≤ 20 := by omega
  have hm : 0 < m := by omega
  refine s_seq_set (d := .int m) (by rw [← hm1]; tb_start) ?_
  (try dsimp only [cxK, cxK', List.map, List.length_cons, List.length_nil, List.cons_append, List.nil_append, Nat.reduceAdd, Nat.reduceSub, Nat.zero_add, Nat.add_zero, List.replicate, List.set])
  refine s_seq_set (d := .int (n : Int)) (by rw [← hn1]; tb_start) ?_
  (try dsimp only [cxK, cxK', List.map, List.length_cons, List.length_nil, List.cons_append, List.nil_append, Nat.reduceAdd, Nat.reduceSub, Nat.zero_add, Nat.add_zero, List.replicate, List.set])
  refine s_seq_newL (ds := [encL (lowF ns m n)]) ?_ (by tb_start) (by simp only [List.length_cons, List.length_nil]; omega) ?_
  · refine a_cons ?_ a_nil
    refine e_as (d := .list ((List.range n).map fun k => .int ((cellF ns (2 + k)).fmod m))) (d' := encL (lowF ns m n)) ?_ (by unfold encL lowF; rw [List.map_map]; rfl)
    apply e_map (xs := List.range n) (enc := encR 0)
    · exact w_range1N (by tb_start) (by omega)
    · intro j c hc
      (refine ⟨_, _, g_name, fun _ h => h, ?_⟩; dsimp only [wipeE, List.set])
      simp only [encR, Int.zero_add]
      tb_start
    · rw [List.length_range]; unfold sizeLine; omega
  (try dsimp only [cxK, cxK', List.map, List.length_cons, List.length_nil, List.cons_append, List.nil_append, Nat.reduceAdd, Nat.reduceSub, Nat.zero_add, Nat.add_zero, List.replicate, List.set])
  have hL : (lowF ns m n).length = n := by unfold lowF; rw [List.length_map, List.length_range]
  generalize lowF ns m n = L0 at hL
  apply s_seq_for (xs := List.range 6) (enc := encR 0) (fun i e => ∃ pre T x, e = [scr K ns, .unk, .val (.int m), .val (.int (n : Int)), ownL K ((pre ++ [T]).map encL), x, .unk, .unk, .unk, .unk, .unk] ∧ IsLv m (pre ++ [T]) ∧ (pre ++ [T]).headD [] = L0 ∧ 2 ^ i * (T.length - 1) ≤ 19 ∧ pre.length ≤ i ∧ ∀ lv ∈ pre ++ [T], lv.length ≤ 20) (fun _ => False)
  · exact w_range1 (j := 6) (by tb_start) (by decide) (by decide)
  · refine ⟨[], L0, _, rfl, ?_, rfl, by omega, Nat.le_refl _, fun lv h => ?_⟩
    · show 0 < L0.length
      omega
    · rw [List.mem_singleton.mp h]; omega
  · rintro i a _ ha ⟨pre, T, x, rfl, i1, i2, i3, i4, i5⟩
    obtain ⟨hi, ea⟩ := List.getElem?_eq_some_iff.mp ha
    rw [List.length_range] at hi
    rw [List.getElem_range] at ea
    subst ea
    refine ⟨_, _, g_name, ?_⟩
    have hT := i5 T (by simp)
    have hlast : atI ((pre ++ [T]).map encL) (-1) = some (encL T) := by rw [List.map_append]; exact atI_last
    by_cases c : 1 < T.length
    · tb_start
      · refine ⟨pre ++ [T], abv m T, _, (by rw [List.map_append (l₁ := pre ++ [T])]; rfl), isLv_snoc i1 c, ?_, ?_, ?_, ?_⟩
        · rw [← i2]
          cases pre <;> rfl
        · rw [abv_len, Nat.pow_succ]
          have e : (T.length + 1) / 2 - 1 = (T.length - 1) / 2 := by omega
          rw [e, Nat.mul_assoc]
          exact Nat.le_trans (Nat.mul_le_mul_left _ (by omega)) i3
        · rw [List.length_append, List.length_singleton]; omega
        · intro lv hlv
          rcases List.mem_append.mp hlv with h | h
          · exact i5 lv h
          · rw [List.mem_singleton.mp h, abv_len]; omega
      all_goals tb_start
    · tb_start
      refine ⟨pre, T, _, rfl, i1, i2, ?_, by omega, i5⟩
      rw [show T.length - 1 = 0 by omega]
      exact Nat.zero_le _
  rotate_left
  · exact fun _ z => z.elim
  rintro _ ⟨pre, T, x5, rfl, i1, i2, i3, i4, i5⟩
  rw [List.length_range] at i3 i4
  refine s_froz 4 (ds := (pre ++ [T]).map encL) rfl ?_
  (try dsimp only [cxK, cxK', List.map, List.length_cons, List.length_nil, List.cons_append, List.nil_append, Nat.reduceAdd, Nat.reduceSub, Nat.zero_add, Nat.add_zero, List.replicate, List.set])
  obtain ⟨t, rfl⟩ : ∃ t, T = [t] := by
    have h2 : 0 < T.length := by
      clear i2 i3 i4 i5
      induction pre with
      | nil => exact i1
      | cons L r ih => exact ih (isLv_tail (r := r ++ [T]) i1 (by simp)).2.2
    have h3 : T.length = 1 := by omega
    exact List.length_eq_one_iff.mp h3
  have e0 : atI ((pre ++ [[t]]).map encL) 0 = some (encL L0) := by
    refine atI_nat (j := 0) ?_
    rw [← i2]
    cases pre <;> rfl
  have eL : atI ((pre ++ [[t]]).map encL) (-1) = some (encL [t]) := by rw [List.map_append]; exact atI_last
  have hdl : (pre ++ [[t]]).dropLast = pre := List.dropLast_concat
  have hpl : (pre ++ [[t]]).length ≤ 7 := by rw [List.length_append, List.length_singleton]; omega
  apply s_seq_for (xs := List.range n) (enc := encR 0) (fun i e => ∃ x5 x6 x7 x8 x9 x10, e = [scr K ns, .unk, .val (.int m), .val (.int (n : Int)), .val (.list ((pre ++ [[t]]).map encL)), x5, x6, x7, x8, x9, x10]) (fun _ => False)
  · exact w_range1N (by tb_start) (by omega)
  · exact ⟨_, _, _, _, _, _, rfl⟩
  · rintro f a _ ha ⟨x5, x6, x7, x8, x9, x10, rfl⟩
    obtain ⟨hf, ea⟩ := List.getElem?_eq_some_iff.mp ha
    rw [List.length_range] at hf
    rw [List.getElem_range] at ea
    subst ea
    refine ⟨_, _, g_name, ?_⟩
    simp only [encR, Int.zero_add]
    (try dsimp only [cxK, cxK', List.map, List.length_cons, List.length_nil, List.cons_append, List.nil_append, Nat.reduceAdd, Nat.reduceSub, Nat.zero_add, Nat.add_zero, List.replicate, List.set])
    apply s_for (xs := List.range (n - f)) (enc := encR f) (fun i e => ∃ x5 x7 x8 x9 x10, e = [scr K ns, .unk, .val (.int m), .val (.int (n : Int)), .val (.list ((pre ++ [[t]]).map encL)), x5, .val (.int (f : Int)), x7, x8, x9, x10]) (fun _ => False)
    · exact w_range2N (by tb_start) (by omega) (by omega)
    · exact ⟨_, _, _, _, _, rfl⟩
    · rintro j a _ ha ⟨x5, x7, x8, x9, x10, rfl⟩
      obtain ⟨hj, ea⟩ := List.getElem?_eq_some_iff.mp ha
      rw [List.length_range] at hj
      rw [List.getElem_range] at ea
      subst ea
      refine ⟨_, _, g_name, ?_⟩
      obtain ⟨l, hl⟩ : ∃ l : Nat, l = f + j := ⟨_, rfl⟩
      have hl1 : f ≤ l := by omega
      have hl2 : l < L0.length := by omega
      rw [show encR f j = .int (l : Int) by show PyData.int _ = _; rw [hl]; rfl]
      clear hl
      have hS1 := st_len hl1 hl2
      have a1 := top_yes i1 hl1 (by rw [i2]; exact hl2)
      have a2 := top_more i1 hl1 (by rw [i2]; exact hl2)
      have a3 := top_less i1 hl1 (by rw [i2]; exact hl2)
      have a4 := fun k hk w => top_wrong (k := k) i1 hl1 (by rw [i2]; exact hl2) hk w
      have eS : RSds [.list ((pre ++ [[t]]).map encL), .int (f : Int), .int (l : Int)] (.tuple ((sdS pre f l).map encP)) := by
        have := RSds.mk (pre ++ [[t]]) f l (by rw [hdl, ← hdl, List.dropLast_eq_take]; exact Good.take (goodL _ f l i1 hl1 (by rw [i2]; exact hl2))) (by omega) (fun lv h => by have := i5 lv h; omega)
        rwa [hdl] at this
      rw [i2, hL] at a1 a2 a3 a4
      have hsl : (sdS pre f l).length = pre.length := sd_len _ _ _
      have hok : ∀ d ∈ (sdS pre f l).map encP, okn 1 d := fun d hd => by
        obtain ⟨p, _, rfl⟩ := List.mem_map.mp hd
        exact okn_tup (all_cons (okn_oI _) (all_cons (okn_oI _) all_nil))
      have esl0 : Psr K (rSlL K) (encL L0) (some (f : Int)) (some ((l : Int) + 1)) (.list ((st L0 f l).map .int)) := by
        unfold st
        rw [List.map_take, List.map_drop, ← cutG_fl (L0.map PyData.int) hl1 (by rw [List.length_map]; exact hl2)]; exact sl_L
      generalize st L0 f l = S at hS1 a1 a2 a3 a4 esl0
      have mk : ∀ sd : List Sd, sd.length ≤ 100 → RTop [.list (S.map .int), .int (f : Int), .int (n : Int), .tuple (sd.map encP), .int m] (oI (tp m S f n sd)) := fun sd h => RTop.mk S f n sd m hm (by omega) (by omega) (by omega) (by omega) h
      have t1 := mk _ (show (sdS pre f l).length ≤ 100 by omega)
      rw [a1] at t1
      have t2 := mk (sdS pre f l ++ [(none, none)]) (by rw [List.length_append, hsl]; show pre.length + 1 ≤ 100; omega)
      rw [a2, List.map_append] at t2
      have t3 : pre ≠ [] → RTop [.list (S.map .int), .int (f : Int), .int (n : Int), .tuple ((sdS pre f l).dropLast.map encP), .int m] .none := fun h => by
        have := mk (sdS pre f l).dropLast (by rw [List.length_dropLast]; omega)
        rwa [a3 h] at this
      have esl3 : Psr K (rSlA K) (.tuple ((sdS pre f l).map encP)) none (some (-1)) (.tuple ((sdS pre f l).dropLast.map encP)) := by
        rw [List.map_dropLast, ← cutG_init]; exact sl_T
      have t4 : ∀ k, k < pre.length → ∀ w, RTop [.list (S.map .int), .int (f : Int), .int (n : Int), .tuple ((wrS w (sdS pre f l) k).map encP), .int m] .none := fun k hk w => by
        have := mk (wrS w (sdS pre f l) k) (by have := wrS_len w (sdS pre f l) k; omega)
        rwa [a4 k hk w] at this
      have tw : ∀ k w, k < pre.length → RWr [.tuple ((sdS pre f l).map encP), .int ((k : Nat) : Int), .int (if w then 1 else 0)] (.tuple ((wrS w (sdS pre f l) k).map encP)) := fun k w hk => RWr.mk _ k w (by omega) (by omega)
      change RTop [.list (S.map .int), .int (f : Int), .int (n : Int), .tuple ((sdS pre f l).map encP), .int m] (.int t) at t1
      change RTop [.list (S.map .int), .int (f : Int), .int (n : Int), .tuple ((sdS pre f l).map encP ++ [.tuple [.none, .none]]), .int m] .none at t2
      generalize sdS pre f l = told at eS hsl hok t1 t2 t3 t4 tw esl3
      by_cases hp : pre = []
      · have hz : told.length = 0 := by rw [hsl, hp]; rfl
        tb_start
        all_goals first | exact ⟨_, _, _, _, _, rfl⟩ | tb_start
      · have hz : 0 < told.length := by rw [hsl]; exact List.length_pos_iff.mpr hp
        have t3 := t3 hp
        have hk1 := Int.fmod_nonneg_of_pos ((f : Int) * 7 + (l : Int)) (show (0 : Int) < ((told.map encP).length : Nat) by rw [List.length_map]; omega)
        have hk2 := Int.fmod_lt_of_pos ((f : Int) * 7 + (l : Int)) (show (0 : Int) < ((told.map encP).length : Nat) by rw [List.length_map]; omega)
        have hkne : (((told.map encP).length : Nat) : Int) ≠ 0 := by rw [List.length_map]; omega
        obtain ⟨k, hk⟩ := Int.eq_ofNat_of_zero_le hk1
        have hkp : k < pre.length := by rw [hk, List.length_map, hsl] at hk2; omega
        have t4 := t4 k hkp (decide (((f : Int) + (l : Int)) % 2 = 1))
        have tw := tw k (decide (((f : Int) + (l : Int)) % 2 = 1)) hkp
        have hw : (if (decide (((f : Int) + (l : Int)) % 2 = 1)) = true then (1 : Int) else 0) = ((f : Int) + (l : Int)) % 2 := by
          by_cases c : ((f : Int) + (l : Int)) % 2 = 1
          · rw [decide_eq_true c, if_pos rfl, c]
          · rw [decide_eq_false c, if_neg Bool.false_ne_true]; omega
        rw [hw, show ((k : Nat) : Int) = ((f : Int) * 7 + (l : Int)).fmod ((told.map encP).length : Nat) from hk.symm] at tw
        tb_start
        all_goals first | exact ⟨_, _, _, _, _, rfl⟩ | tb_start
    · rintro _ ⟨x5, x7, x8, x9, x10, rfl⟩
      exact ⟨_, _, _, _, _, _, rfl⟩
    · exact fun _ z => z.elim
  · rintro _ ⟨x5, x6, x7, x8, x9, x10, rfl⟩
    tb_start
  · exact fun _ z => z.elim
theorem ok_law (T : Txt K mg A D) : FnOk P w K mg base CX0 6 (A 14) (D 14) ["script"] (ySpLaw K) := (ok_lawY T).imp fun _ _ _ _ h => law_imp h
end

theorem all_mk {l : PySem.W.OpenLaw} {w : World} {K : PySem.W.Frag} {h : Heap} {mg : Str → Option Value} {fa f0 f1 f2 f3 f4 f5 f6 f7 f8 f9 f10 f11 f12 f13 f14 : Addr} (X : K.In h) (G : h.Ns mainGlobals mg) (hfa : mg "law" = some (.ref fa))
    {od0 od1 od2 od3 od4 od5 od6 od7 od8 od9 od10 od11 od12 od13 od14 an0 an1 an2 an3 an4 an5 an6 an7 an8 an9 an10 an11 an12 an13 an14 : Option Addr} {sl0 sl1 sl2 sl3 sl4 sl5 sl6 sl7 sl8 sl9 sl10 sl11 sl12 sl13 sl14 : Array (Option Value)} {oc0 oc1 oc2 oc3 oc4 oc5 oc6 oc7 oc8 oc9 oc10 oc11 oc12 oc13 oc14 kV0 kV1 kV2 kV3 kV4 kV5 kV6 kV7 kV8 kV9 kV10 kV11 kV12 kV13 kV14 dc0 dc1 dc2 dc3 dc4 dc5 dc6 dc7 dc8 dc9 dc10 dc11 dc12 dc13 dc14 pm0 pm1 pm2 pm3 pm4 pm5 pm6 pm7 pm8 pm9 pm10 pm11 pm12 pm13 pm14 cd0 cd1 cd2 cd3 cd4 cd5 cd6 cd7 cd8 cd9 cd10 cd11 cd12 cd13 cd14 ct0 ct1 ct2 ct3 ct4 ct5 ct6 ct7 ct8 ct9 ct10 ct11 ct12 ct13 ct14 : Value} {t0 t1 t2 : Tok}
    (a0 : PySem.W.nsIn K mainGlobals "sum_of" = some (some (.ref f0))) (l0 : K.lookup f0 = some ⟨oc0, od0, .func (PySem.W.fnOf "sum_of" "sum_of" (defArgs s_sum_of) (defBody s_sum_of) (defScope s_sum_of) .none kV0 dc0 pm0 an0 cd0 ct0), sl0⟩) (c0 : PySem.W.codeIn K cd0 "sum_of" = true) (k0 : PySem.W.keepIn K (.ref f0) = true)
    (a1 : PySem.W.nsIn K mainGlobals "node_of" = some (some (.ref f1))) (l1 : K.lookup f1 = some ⟨oc1, od1, .func (PySem.W.fnOf "node_of" "node_of" (defArgs s_node_of) (defBody s_node_of) (defScope s_node_of) .none kV1 dc1 pm1 an1 cd1 ct1), sl1⟩) (c1 : PySem.W.codeIn K cd1 "node_of" = true) (k1 : PySem.W.keepIn K (.ref f1) = true)
    (a2 : PySem.W.nsIn K mainGlobals "level_above" = some (some (.ref f2))) (l2 : K.lookup f2 = some ⟨oc2, od2, .func (PySem.W.fnOf "level_above" "level_above" (defArgs s_level_above) (defBody s_level_above) (defScope s_level_above) .none kV2 dc2 pm2 an2 cd2 ct2), sl2⟩) (c2 : PySem.W.codeIn K cd2 "level_above" = true) (k2 : PySem.W.keepIn K (.ref f2) = true)
    (a3 : PySem.W.nsIn K mainGlobals "sides" = some (some (.ref f3))) (l3 : K.lookup f3 = some ⟨oc3, od3, .func (PySem.W.fnOf "sides" "sides" (defArgs s_sides) (defBody s_sides) (defScope s_sides) .none kV3 dc3 pm3 an3 cd3 ct3), sl3⟩) (c3 : PySem.W.codeIn K cd3 "sides" = true) (k3 : PySem.W.keepIn K (.ref f3) = true)
    (a4 : PySem.W.nsIn K mainGlobals "has_left" = some (some (.ref f4))) (l4 : K.lookup f4 = some ⟨oc4, od4, .func (PySem.W.fnOf "has_left" "has_left" (defArgs s_has_left) (defBody s_has_left) (defScope s_has_left) .none kV4 dc4 pm4 an4 cd4 ct4), sl4⟩) (c4 : PySem.W.codeIn K cd4 "has_left" = true) (k4 : PySem.W.keepIn K (.ref f4) = true)
    (a5 : PySem.W.nsIn K mainGlobals "has_right" = some (some (.ref f5))) (l5 : K.lookup f5 = some ⟨oc5, od5, .func (PySem.W.fnOf "has_right" "has_right" (defArgs s_has_right) (defBody s_has_right) (defScope s_has_right) .none kV5 dc5 pm5 an5 cd5 ct5), sl5⟩) (c5 : PySem.W.codeIn K cd5 "has_right" = true) (k5 : PySem.W.keepIn K (.ref f5) = true)
    (a6 : PySem.W.nsIn K mainGlobals "top_from" = some (some (.ref f6))) (l6 : K.lookup f6 = some ⟨oc6, od6, .func (PySem.W.fnOf "top_from" "top_from" (defArgs s_top_from) (defBody s_top_from) (defScope s_top_from) .none kV6 dc6 pm6 an6 cd6 ct6), sl6⟩) (c6 : PySem.W.codeIn K cd6 "top_from" = true) (k6 : PySem.W.keepIn K (.ref f6) = true)
    (a7 : PySem.W.nsIn K mainGlobals "levels_from" = some (some (.ref f7))) (l7 : K.lookup f7 = some ⟨oc7, od7, .func (PySem.W.fnOf "levels_from" "levels_from" (defArgs s_levels_from) (defBody s_levels_from) (defScope s_levels_from) .none kV7 dc7 pm7 an7 cd7 ct7), sl7⟩) (c7 : PySem.W.codeIn K cd7 "levels_from" = true) (k7 : PySem.W.keepIn K (.ref f7) = true)
    (a8 : PySem.W.nsIn K mainGlobals "node_told" = some (some (.ref f8))) (l8 : K.lookup f8 = some ⟨oc8, od8, .func (PySem.W.fnOf "node_told" "node_told" (defArgs s_node_told) (defBody s_node_told) (defScope s_node_told) .none kV8 dc8 pm8 an8 cd8 ct8), sl8⟩) (c8 : PySem.W.codeIn K cd8 "node_told" = true) (k8 : PySem.W.keepIn K (.ref f8) = true)
    (a9 : PySem.W.nsIn K mainGlobals "_law_cell" = some (some (.ref f9))) (l9 : K.lookup f9 = some ⟨oc9, od9, .func (PySem.W.fnOf "_law_cell" "_law_cell" (defArgs s__law_cell) (defBody s__law_cell) (defScope s__law_cell) .none kV9 dc9 pm9 an9 cd9 ct9), sl9⟩) (c9 : PySem.W.codeIn K cd9 "_law_cell" = true) (k9 : PySem.W.keepIn K (.ref f9) = true)
    (a10 : PySem.W.nsIn K mainGlobals "_law_sum" = some (some (.ref f10))) (l10 : K.lookup f10 = some ⟨oc10, od10, .func (PySem.W.fnOf "_law_sum" "_law_sum" (defArgs s__law_sum) (defBody s__law_sum) (defScope s__law_sum) .none kV10 dc10 pm10 an10 cd10 ct10), sl10⟩) (c10 : PySem.W.codeIn K cd10 "_law_sum" = true) (k10 : PySem.W.keepIn K (.ref f10) = true)
    (a11 : PySem.W.nsIn K mainGlobals "_law_above" = some (some (.ref f11))) (l11 : K.lookup f11 = some ⟨oc11, od11, .func (PySem.W.fnOf "_law_above" "_law_above" (defArgs s__law_above) (defBody s__law_above) (defScope s__law_above) .none kV11 dc11 pm11 an11 cd11 ct11), sl11⟩) (c11 : PySem.W.codeIn K cd11 "_law_above" = true) (k11 : PySem.W.keepIn K (.ref f11) = true)
    (a12 : PySem.W.nsIn K mainGlobals "_law_sides" = some (some (.ref f12))) (l12 : K.lookup f12 = some ⟨oc12, od12, .func (PySem.W.fnOf "_law_sides" "_law_sides" (defArgs s__law_sides) (defBody s__law_sides) (defScope s__law_sides) .none kV12 dc12 pm12 an12 cd12 ct12), sl12⟩) (c12 : PySem.W.codeIn K cd12 "_law_sides" = true) (k12 : PySem.W.keepIn K (.ref f12) = true)
    (a13 : PySem.W.nsIn K mainGlobals "_law_wrong" = some (some (.ref f13))) (l13 : K.lookup f13 = some ⟨oc13, od13, .func (PySem.W.fnOf "_law_wrong" "_law_wrong" (defArgs s__law_wrong) (defBody s__law_wrong) (defScope s__law_wrong) .none kV13 dc13 pm13 an13 cd13 ct13), sl13⟩) (c13 : PySem.W.codeIn K cd13 "_law_wrong" = true) (k13 : PySem.W.keepIn K (.ref f13) = true)
    (a14 : PySem.W.nsIn K mainGlobals "law" = some (some (.ref f14))) (l14 : K.lookup f14 = some ⟨oc14, od14, .func (PySem.W.fnOf "law" "law" (defArgs s_law) (defBody s_law) (defScope s_law) .none kV14 dc14 pm14 an14 cd14 ct14), sl14⟩) (c14 : PySem.W.codeIn K cd14 "law" = true) (k14 : PySem.W.keepIn K (.ref f14) = true)
    (gc0 : PySem.W.nsIn K mainGlobals "FIRST_SUM" = some (some (.int 7 t0)))
    (gc1 : PySem.W.nsIn K mainGlobals "FACTOR" = some (some (.int 31 t1)))
    (gc2 : PySem.W.nsIn K mainGlobals "PAIR" = some (some (.int 3 t2)))
    (z0 : PySem.W.nsIn K mainGlobals "int" = some none)
    (z1 : PySem.W.nsIn K mainGlobals "len" = some none)
    (z2 : PySem.W.nsIn K mainGlobals "list" = some none)
    (z3 : PySem.W.nsIn K mainGlobals "range" = some none)
    (z4 : PySem.W.nsIn K mainGlobals "tuple" = some none)
    : ∃ fd : FuncData, (∀ (s : Shared) (v : Value), BindsTo s fd ⟨[v], []⟩ [("script", v)]) ∧ ∀ base : Heap, K.In base → base.Ns mainGlobals mg → FnOk l.prog w K mg base CX0 6 fa fd ["script"] (ySpLaw K) := by
  have e := hfa.symm.trans (PySem.W.mg_of X G a14)
  cases e
  have F0 := fun_mk (st := s_sum_of) l0 c0 k0
  have F1 := fun_mk (st := s_node_of) l1 c1 k1
  have F2 := fun_mk (st := s_level_above) l2 c2 k2
  have F3 := fun_mk (st := s_sides) l3 c3 k3
  have F4 := fun_mk (st := s_has_left) l4 c4 k4
  have F5 := fun_mk (st := s_has_right) l5 c5 k5
  have F6 := fun_mk (st := s_top_from) l6 c6 k6
  have F7 := fun_mk (st := s_levels_from) l7 c7 k7
  have F8 := fun_mk (st := s_node_told) l8 c8 k8
  have F9 := fun_mk (st := s__law_cell) l9 c9 k9
  have F10 := fun_mk (st := s__law_sum) l10 c10 k10
  have F11 := fun_mk (st := s__law_above) l11 c11 k11
  have F12 := fun_mk (st := s__law_sides) l12 c12 k12
  have F13 := fun_mk (st := s__law_wrong) l13 c13 k13
  have F14 := fun_mk (st := s_law) l14 c14 k14
  have b0 := F0.binds (ps := ["row", "modulus"]) fun _ _ _ _ _ _ us hl => match us, hl with | [_, _], _ => rfl
  have b1 := F1.binds (ps := ["row", "modulus"]) fun _ _ _ _ _ _ us hl => match us, hl with | [_, _], _ => rfl
  have b2 := F2.binds (ps := ["nodes", "modulus"]) fun _ _ _ _ _ _ us hl => match us, hl with | [_, _], _ => rfl
  have b3 := F3.binds (ps := ["levels", "first", "last"]) fun _ _ _ _ _ _ us hl => match us, hl with | [_, _, _], _ => rfl
  have b4 := F4.binds (ps := ["first"]) fun _ _ _ _ _ _ us hl => match us, hl with | [_], _ => rfl
  have b5 := F5.binds (ps := ["last", "count"]) fun _ _ _ _ _ _ us hl => match us, hl with | [_, _], _ => rfl
  have b6 := F6.binds (ps := ["sums", "first", "count", "sides", "modulus"]) fun _ _ _ _ _ _ us hl => match us, hl with | [_, _, _, _, _], _ => rfl
  have b7 := F7.binds (ps := ["nodes", "first", "count", "sides", "modulus"]) fun _ _ _ _ _ _ us hl => match us, hl with | [_, _, _, _, _], _ => rfl
  have b8 := F8.binds (ps := ["told"]) fun _ _ _ _ _ _ us hl => match us, hl with | [_], _ => rfl
  have b9 := F9.binds (ps := ["script", "k"]) fun _ _ _ _ _ _ us hl => match us, hl with | [_, _], _ => rfl
  have b10 := F10.binds (ps := ["row", "modulus"]) fun _ _ _ _ _ _ us hl => match us, hl with | [_, _], _ => rfl
  have b11 := F11.binds (ps := ["level", "modulus"]) fun _ _ _ _ _ _ us hl => match us, hl with | [_, _], _ => rfl
  have b12 := F12.binds (ps := ["levels", "first", "last"]) fun _ _ _ _ _ _ us hl => match us, hl with | [_, _, _], _ => rfl
  have b13 := F13.binds (ps := ["told", "k", "which"]) fun _ _ _ _ _ _ us hl => match us, hl with | [_, _, _], _ => rfl
  have b14 := F14.binds (ps := ["script"]) fun _ _ _ _ _ _ us hl => match us, hl with | [_], _ => rfl
  let AA : Nat → Addr := fun i => match i with | 0 => f0 | 1 => f1 | 2 => f2 | 3 => f3 | 4 => f4 | 5 => f5 | 6 => f6 | 7 => f7 | 8 => f8 | 9 => f9 | 10 => f10 | 11 => f11 | 12 => f12 | 13 => f13 | 14 => fa | _ => fa
  let DD : Nat → FuncData := fun i => match i with | 0 => PySem.W.fnOf "sum_of" "sum_of" (defArgs s_sum_of) (defBody s_sum_of) (defScope s_sum_of) .none kV0 dc0 pm0 an0 cd0 ct0 | 1 => PySem.W.fnOf "node_of" "node_of" (defArgs s_node_of) (defBody s_node_of) (defScope s_node_of) .none kV1 dc1 pm1 an1 cd1 ct1 | 2 => PySem.W.fnOf "level_above" "level_above" (defArgs s_level_above) (defBody s_level_above) (defScope s_level_above) .none kV2 dc2 pm2 an2 cd2 ct2 | 3 => PySem.W.fnOf "sides" "sides" (defArgs s_sides) (defBody s_sides) (defScope s_sides) .none kV3 dc3 pm3 an3 cd3 ct3 | 4 => PySem.W.fnOf "has_left" "has_left" (defArgs s_has_left) (defBody s_has_left) (defScope s_has_left) .none kV4 dc4 pm4 an4 cd4 ct4 | 5 => PySem.W.fnOf "has_right" "has_right" (defArgs s_has_right) (defBody s_has_right) (defScope s_has_right) .none kV5 dc5 pm5 an5 cd5 ct5 | 6 => PySem.W.fnOf "top_from" "top_from" (defArgs s_top_from) (defBody s_top_from) (defScope s_top_from) .none kV6 dc6 pm6 an6 cd6 ct6 | 7 => PySem.W.fnOf "levels_from" "levels_from" (defArgs s_levels_from) (defBody s_levels_from) (defScope s_levels_from) .none kV7 dc7 pm7 an7 cd7 ct7 | 8 => PySem.W.fnOf "node_told" "node_told" (defArgs s_node_told) (defBody s_node_told) (defScope s_node_told) .none kV8 dc8 pm8 an8 cd8 ct8 | 9 => PySem.W.fnOf "_law_cell" "_law_cell" (defArgs s__law_cell) (defBody s__law_cell) (defScope s__law_cell) .none kV9 dc9 pm9 an9 cd9 ct9 | 10 => PySem.W.fnOf "_law_sum" "_law_sum" (defArgs s__law_sum) (defBody s__law_sum) (defScope s__law_sum) .none kV10 dc10 pm10 an10 cd10 ct10 | 11 => PySem.W.fnOf "_law_above" "_law_above" (defArgs s__law_above) (defBody s__law_above) (defScope s__law_above) .none kV11 dc11 pm11 an11 cd11 ct11 | 12 => PySem.W.fnOf "_law_sides" "_law_sides" (defArgs s__law_sides) (defBody s__law_sides) (defScope s__law_sides) .none kV12 dc12 pm12 an12 cd12 ct12 | 13 => PySem.W.fnOf "_law_wrong" "_law_wrong" (defArgs s__law_wrong) (defBody s__law_wrong) (defScope s__law_wrong) .none kV13 dc13 pm13 an13 cd13 ct13 | 14 => PySem.W.fnOf "law" "law" (defArgs s_law) (defBody s_law) (defScope s_law) .none kV14 dc14 pm14 an14 cd14 ct14 | _ => PySem.W.fnOf "law" "law" (defArgs s_law) (defBody s_law) (defScope s_law) .none kV14 dc14 pm14 an14 cd14 ct14
  have T : Txt K mg AA DD := { F_sum_of := F0, b_sum_of := b0, m_sum_of := PySem.W.mg_of X G a0, F_node_of := F1, b_node_of := b1, m_node_of := PySem.W.mg_of X G a1, F_level_above := F2, b_level_above := b2, m_level_above := PySem.W.mg_of X G a2, F_sides := F3, b_sides := b3, m_sides := PySem.W.mg_of X G a3, F_has_left := F4, b_has_left := b4, m_has_left := PySem.W.mg_of X G a4, F_has_right := F5, b_has_right := b5, m_has_right := PySem.W.mg_of X G a5, F_top_from := F6, b_top_from := b6, m_top_from := PySem.W.mg_of X G a6, F_levels_from := F7, b_levels_from := b7, m_levels_from := PySem.W.mg_of X G a7, F_node_told := F8, b_node_told := b8, m_node_told := PySem.W.mg_of X G a8, F__law_cell := F9, b__law_cell := b9, m__law_cell := PySem.W.mg_of X G a9, F__law_sum := F10, b__law_sum := b10, m__law_sum := PySem.W.mg_of X G a10, F__law_above := F11, b__law_above := b11, m__law_above := PySem.W.mg_of X G a11, F__law_sides := F12, b__law_sides := b12, m__law_sides := PySem.W.mg_of X G a12, F__law_wrong := F13, b__law_wrong := b13, m__law_wrong := PySem.W.mg_of X G a13, F_law := F14, b_law := b14, m_law := PySem.W.mg_of X G a14, c_FIRST_SUM := ⟨t0, PySem.W.mg_of X G gc0⟩, c_FACTOR := ⟨t1, PySem.W.mg_of X G gc1⟩, c_PAIR := ⟨t2, PySem.W.mg_of X G gc2⟩, z_int := PySem.W.mg_none_of X G z0, z_len := PySem.W.mg_none_of X G z1, z_list := PySem.W.mg_none_of X G z2, z_range := PySem.W.mg_none_of X G z3, z_tuple := PySem.W.mg_none_of X G z4 }
  exact ⟨DD 14, fun s v => .of_eq rfl, fun base _ _ => ok_law (A := AA) (D := DD) T⟩
theorem walk {l : PySem.W.OpenLaw} {q : Program} {loose : List Str} {XP : (Str → Option Value) → Heap → Prop} {YP : World → Heap → Prop} {d : DefRec} {K : Params → PySem.W.Frag} (hn : l.most = some 63) (hdf : d.params.defaults = [])
    (hY : ∀ (w : World) (h : Heap), YP w h → (K w.params).In h)
    (F : ∀ (w : World) (mg : Str → Option Value) (fa : Addr) (h : Heap), (K w.params).In h → h.Ns mainGlobals mg → mg d.name = some (.ref fa) →
      ∃ fd : FuncData, (∀ (s : Shared) (u : Value), BindsTo s fd ⟨[u], []⟩ [("script", u)]) ∧ ∀ base : Heap, (K w.params).In base → base.Ns mainGlobals mg → FnOk l.prog w (K w.params) mg base CX0 6 fa fd ["script"] (ySpLaw (K w.params))) :
    PySem.W.WalkO q loose XP YP l.row.toRowW d [] (fun f vs => PySem.call f vs) :=
  L2.walk_of (n := 63) (k := 6) (x := "script") (CX := fun _ => CX0) (sp := fun w => ySpLaw (K w.params)) hn (by decide) hdf ⟨rfl, by decide, by decide⟩ hY F (fun _ _ a ns hl _ hS => ⟨a, ns, rfl, hS, hl, fun _ => rfl⟩) fun _ _ _ _ _ z => z
end Z
open PySem PySem.W PyProof.Rows
set_option maxRecDepth 100000 in
set_option maxHeartbeats 0 in
theorem PySem.Challenge.cw_timeshelf_k38_sides_of_stretches_holds : PySem.Challenge.rw_timeshelf_k38_sides_of_stretches.Holds := by
  w_on; o_law; k_head; (case hw => w_witness2)
  k_fill
  refine Z.walk (l := PySem.Challenge.rw_timeshelf_k38_sides_of_stretches) rfl rfl (fun w h Y => PySem.W.kIn_of Y) ?F
  case F =>
    intro w mg fa h KX G hmg
    refine' Z.all_mk KX G hmg ?a0 ?l0 ?c0 ?k0 ?a1 ?l1 ?c1 ?k1 ?a2 ?l2 ?c2 ?k2 ?a3 ?l3 ?c3 ?k3 ?a4 ?l4 ?c4 ?k4 ?a5 ?l5 ?c5 ?k5 ?a6 ?l6 ?c6 ?k6 ?a7 ?l7 ?c7 ?k7 ?a8 ?l8 ?c8 ?k8 ?a9 ?l9 ?c9 ?k9 ?a10 ?l10 ?c10 ?k10 ?a11 ?l11 ?c11 ?k11 ?a12 ?l12 ?c12 ?k12 ?a13 ?l13 ?c13 ?k13 ?a14 ?l14 ?c14 ?k14 ?gc0 ?gc1 ?gc2 ?z0 ?z1 ?z2 ?z3 ?z4
    (case a0 => first | k_is | rfl | decide +kernel)
    (case l0 => first | k_is | rfl | decide +kernel)
    (case c0 => first | k_is | rfl | decide +kernel)
    (case k0 => first | k_is | rfl | decide +kernel)
    (case a1 => first | k_is | rfl | decide +kernel)
    (case l1 => first | k_is | rfl | decide +kernel)
    (case c1 => first | k_is | rfl | decide +kernel)
    (case k1 => first | k_is | rfl | decide +kernel)
    (case a2 => first | k_is | rfl | decide +kernel)
    (case l2 => first | k_is | rfl | decide +kernel)
    (case c2 => first | k_is | rfl | decide +kernel)
    (case k2 => first | k_is | rfl | decide +kernel)
    (case a3 => first | k_is | rfl | decide +kernel)
    (case l3 => first | k_is | rfl | decide +kernel)
    (case c3 => first | k_is | rfl | decide +kernel)
    (case k3 => first | k_is | rfl | decide +kernel)
    (case a4 => first | k_is | rfl | decide +kernel)
    (case l4 => first | k_is | rfl | decide +kernel)
    (case c4 => first | k_is | rfl | decide +kernel)
    (case k4 => first | k_is | rfl | decide +kernel)
    (case a5 => first | k_is | rfl | decide +kernel)
    (case l5 => first | k_is | rfl | decide +kernel)
    (case c5 => first | k_is | rfl | decide +kernel)
    (case k5 => first | k_is | rfl | decide +kernel)
    (case a6 => first | k_is | rfl | decide +kernel)
    (case l6 => first | k_is | rfl | decide +kernel)
    (case c6 => first | k_is | rfl | decide +kernel)
    (case k6 => first | k_is | rfl | decide +kernel)
    (case a7 => first | k_is | rfl | decide +kernel)
    (case l7 => first | k_is | rfl | decide +kernel)
    (case c7 => first | k_is | rfl | decide +kernel)
    (case k7 => first | k_is | rfl | decide +kernel)
    (case a8 => first | k_is | rfl | decide +kernel)
    (case l8 => first | k_is | rfl | decide +kernel)
    (case c8 => first | k_is | rfl | decide +kernel)
    (case k8 => first | k_is | rfl | decide +kernel)
    (case a9 => first | k_is | rfl | decide +kernel)
    (case l9 => first | k_is | rfl | decide +kernel)
    (case c9 => first | k_is | rfl | decide +kernel)
    (case k9 => first | k_is | rfl | decide +kernel)
    (case a10 => first | k_is | rfl | decide +kernel)
    (case l10 => first | k_is | rfl | decide +kernel)
    (case c10 => first | k_is | rfl | decide +kernel)
    (case k10 => first | k_is | rfl | decide +kernel)
    (case a11 => first | k_is | rfl | decide +kernel)
    (case l11 => first | k_is | rfl | decide +kernel)
    (case c11 => first | k_is | rfl | decide +kernel)
    (case k11 => first | k_is | rfl | decide +kernel)
    (case a12 => first | k_is | rfl | decide +kernel)
    (case l12 => first | k_is | rfl | decide +kernel)
    (case c12 => first | k_is | rfl | decide +kernel)
    (case k12 => first | k_is | rfl | decide +kernel)
    (case a13 => first | k_is | rfl | decide +kernel)
    (case l13 => first | k_is | rfl | decide +kernel)
    (case c13 => first | k_is | rfl | decide +kernel)
    (case k13 => first | k_is | rfl | decide +kernel)
    (case a14 => first | k_is | rfl | decide +kernel)
    (case l14 => first | k_is | rfl | decide +kernel)
    (case c14 => first | k_is | rfl | decide +kernel)
    (case k14 => first | k_is | rfl | decide +kernel)
    (case gc0 => first | k_is | rfl | decide +kernel)
    (case gc1 => first | k_is | rfl | decide +kernel)
    (case gc2 => first | k_is | rfl | decide +kernel)
    (case z0 => first | k_is | rfl | decide +kernel)
    (case z1 => first | k_is | rfl | decide +kernel)
    (case z2 => first | k_is | rfl | decide +kernel)
    (case z3 => first | k_is | rfl | decide +kernel)
    (case z4 => first | k_is | rfl | decide +kernel)
