import PyProof.Rows.All
import Wide.All
import OpenK.AllK
import Wide.FinOn
import HandS.ForMost
import HandS.IsInst
import HandS.TupAny
import HandS.Comp
import HandS.Iter
import HandS.Walk
import KE.SortData
import HandS.DictComp
import PySem.Challenge.RW_timeshelf_k43_integers_and_strings
set_option Elab.async false
set_option linter.all false
set_option maxRecDepth 100000
set_option maxHeartbeats 2000000
namespace Z
open PySem L2
def top (i : Nat) : Stmt := PySem.Challenge.pw_timeshelf_k43_integers_and_strings.main.body.getD i (.Pass ⟨0, 0, 0, 0⟩)
abbrev s_number_bytes : Stmt := top 3
abbrev N_number_bytes : List Str := ["n", "digits"]
theorem sc_number_bytes : FnScope ["n", "digits"] ["n"] (defScope s_number_bytes) := ⟨rfl, rfl, rfl, by decide +kernel, rfl, by decide +kernel, by decide +kernel⟩
abbrev s_text_bytes : Stmt := top 4
abbrev N_text_bytes : List Str := ["text", "character"]
theorem sc_text_bytes : FnScope ["text", "character"] ["text"] (defScope s_text_bytes) := ⟨rfl, rfl, rfl, by decide +kernel, rfl, by decide +kernel, by decide +kernel⟩
abbrev s_read_number : Stmt := top 5
abbrev N_read_number : List Str := ["data", "at", "number", "worth", "index", "digit"]
theorem sc_read_number : FnScope ["data", "at", "number", "worth", "index", "digit"] ["data", "at"] (defScope s_read_number) := ⟨rfl, rfl, rfl, by decide +kernel, rfl, by decide +kernel, by decide +kernel⟩
abbrev s_read_text : Stmt := top 6
abbrev N_read_text : List Str := ["data", "at", "character", "code", "found", "length", "start", "by_code", "letters"]
theorem sc_read_text : FnScope ["data", "at", "character", "code", "found", "length", "start", "by_code", "letters"] ["data", "at"] (defScope s_read_text) := ⟨rfl, rfl, rfl, by decide +kernel, rfl, by decide +kernel, by decide +kernel⟩
abbrev s__law_cell : Stmt := top 8
abbrev N__law_cell : List Str := ["script", "k"]
theorem sc__law_cell : FnScope ["script", "k"] ["script", "k"] (defScope s__law_cell) := ⟨rfl, rfl, rfl, by decide +kernel, rfl, by decide +kernel, by decide +kernel⟩
abbrev s__law_digits : Stmt := top 9
abbrev N__law_digits : List Str := ["cell", "k", "most", "digits", "turn", "seed"]
theorem sc__law_digits : FnScope ["cell", "k", "most", "digits", "turn", "seed"] ["cell", "k", "most"] (defScope s__law_digits) := ⟨rfl, rfl, rfl, by decide +kernel, rfl, by decide +kernel, by decide +kernel⟩
abbrev s__law_padded : Stmt := top 10
abbrev N__law_padded : List Str := ["cell", "k", "d", "turn"]
theorem sc__law_padded : FnScope ["cell", "k", "d", "turn"] ["cell", "k"] (defScope s__law_padded) := ⟨rfl, rfl, rfl, by decide +kernel, rfl, by decide +kernel, by decide +kernel⟩
abbrev s__law_number : Stmt := top 11
abbrev N__law_number : List Str := ["n", "data", "turn"]
theorem sc__law_number : FnScope ["n", "data", "turn"] ["n"] (defScope s__law_number) := ⟨rfl, rfl, rfl, by decide +kernel, rfl, by decide +kernel, by decide +kernel⟩
abbrev s__law_text : Stmt := top 12
abbrev N__law_text : List Str := ["d", "words", "text", "j"]
theorem sc__law_text : FnScope ["d", "words", "text", "j"] ["d"] (defScope s__law_text) := ⟨rfl, rfl, rfl, by decide +kernel, rfl, by decide +kernel, by decide +kernel⟩
abbrev s__law_integer : Stmt := top 13
abbrev N__law_integer : List Str := ["script", "k", "n", "digit", "powers"]
theorem sc__law_integer : FnScope ["script", "k", "n", "digit", "powers"] ["script", "k"] (defScope s__law_integer) := ⟨rfl, rfl, rfl, by decide +kernel, rfl, by decide +kernel, by decide +kernel⟩
abbrev s_law : Stmt := top 14
abbrev N_law : List Str := ["script", "char", "k", "n", "data", "d", "text", "told", "code"]
theorem sc_law : FnScope ["script", "char", "k", "n", "data", "d", "text", "told", "code"] ["script"] (defScope s_law) := ⟨rfl, rfl, rfl, by decide +kernel, rfl, by decide +kernel, by decide +kernel⟩
structure Txt (K : PySem.W.Frag) (mg : Str → Option Value) (A : Nat → Addr) (D : Nat → FuncData) : Prop where
  F_number_bytes : Fun K "number_bytes" "number_bytes" s_number_bytes (A 0) (D 0)
  b_number_bytes : Binds K (D 0) ["n"] []
  m_number_bytes : mg "number_bytes" = some (.ref (A 0))
  F_text_bytes : Fun K "text_bytes" "text_bytes" s_text_bytes (A 1) (D 1)
  b_text_bytes : Binds K (D 1) ["text"] []
  m_text_bytes : mg "text_bytes" = some (.ref (A 1))
  F_read_number : Fun K "read_number" "read_number" s_read_number (A 2) (D 2)
  b_read_number : Binds K (D 2) ["data", "at"] []
  m_read_number : mg "read_number" = some (.ref (A 2))
  F_read_text : Fun K "read_text" "read_text" s_read_text (A 3) (D 3)
  b_read_text : Binds K (D 3) ["data", "at"] []
  m_read_text : mg "read_text" = some (.ref (A 3))
  F__law_cell : Fun K "_law_cell" "_law_cell" s__law_cell (A 4) (D 4)
  b__law_cell : Binds K (D 4) ["script", "k"] []
  m__law_cell : mg "_law_cell" = some (.ref (A 4))
  F__law_digits : Fun K "_law_digits" "_law_digits" s__law_digits (A 5) (D 5)
  b__law_digits : Binds K (D 5) ["cell", "k", "most"] []
  m__law_digits : mg "_law_digits" = some (.ref (A 5))
  F__law_padded : Fun K "_law_padded" "_law_padded" s__law_padded (A 6) (D 6)
  b__law_padded : Binds K (D 6) ["cell", "k"] []
  m__law_padded : mg "_law_padded" = some (.ref (A 6))
  F__law_number : Fun K "_law_number" "_law_number" s__law_number (A 7) (D 7)
  b__law_number : Binds K (D 7) ["n"] []
  m__law_number : mg "_law_number" = some (.ref (A 7))
  F__law_text : Fun K "_law_text" "_law_text" s__law_text (A 8) (D 8)
  b__law_text : Binds K (D 8) ["d"] []
  m__law_text : mg "_law_text" = some (.ref (A 8))
  F__law_integer : Fun K "_law_integer" "_law_integer" s__law_integer (A 9) (D 9)
  b__law_integer : Binds K (D 9) ["script", "k"] []
  m__law_integer : mg "_law_integer" = some (.ref (A 9))
  F_law : Fun K "law" "law" s_law (A 10) (D 10)
  b_law : Binds K (D 10) ["script"] []
  m_law : mg "law" = some (.ref (A 10))
  c_BASE : ∃ t, mg "BASE" = some (.int 128 t)
  c_CHARACTERS : ∃ t, mg "CHARACTERS" = some (.str " !\"#$&'()*+,-./0123456789:;<=>?@ABCDEFGHIJKLMNOPQRSTUVWXYZ[\\]^_`abcdefghijklmnopqrstuvwxyz{|}~" t)
  z_int : mg "int" = none
  z_len : mg "len" = none
  z_list : mg "list" = none
  z_ord : mg "ord" = none
  z_range : mg "range" = none

/-! ### a layer of states: views of the heap, slots with data, owned things -/
namespace Y
open PySem L2
def keyD : Key → PyData
  | .inl i => .int i
  | .inr z => .str z
mutual
/-- immutable or shared data in a view of the heap: lists and dicts there are tracked -/
inductive Dq (K : PySem.W.Frag) (M : Hp) : V → PyData → Prop
  | non : Dq K M .non .none
  | bl (b : Bool) : Dq K M (.bl b) (.bool b)
  | int (i : Int) : Dq K M (.int i) (.int i)
  | str (x : Str) : Dq K M (.str x) (.str x)
  | lst {a : Addr} {xs : List V} {ds : List PyData} : M a = some (.lst xs) → DqAll K M xs ds → Dq K M (.ref a) (.list ds)
  | tup {a : Addr} {xs : List V} {ds : List PyData} : SqT K M a xs → DqAll K M xs ds → Dq K M (.ref a) (.tuple ds)
  | dct {a : Addr} {kvs : List (Key × V)} {ds : List (PyData × PyData)} : M a = some (.dK kvs) → DqKV K M kvs ds → Dq K M (.ref a) (.dict ds)
inductive DqAll (K : PySem.W.Frag) (M : Hp) : List V → List PyData → Prop
  | nil : DqAll K M [] []
  | cons {v : V} {vs : List V} {d : PyData} {ds : List PyData} : Dq K M v d → DqAll K M vs ds → DqAll K M (v :: vs) (d :: ds)
inductive DqKV (K : PySem.W.Frag) (M : Hp) : List (Key × V) → List (PyData × PyData) → Prop
  | nil : DqKV K M [] []
  | cons {k : Key} {v : V} {d : PyData} {kvs : List (Key × V)} {ds : List (PyData × PyData)} : Dq K M v d → DqKV K M kvs ds → DqKV K M ((k, v) :: kvs) ((keyD k, d) :: ds)
end
theorem Same.sqT {K : PySem.W.Frag} {H H' : Hp} (k : Same H H') {a : Addr} {xs : List V} (h : SqT K H a xs) : SqT K H' a xs := by
  rcases h with (h | ⟨o, h⟩) | h
  · exact .inl (.inl (k _ _ h))
  · exact .inl (.inr ⟨o, k _ _ h⟩)
  · exact .inr h
theorem Same.sqL {K : PySem.W.Frag} {H H' : Hp} (k : Same H H') {a : Addr} {xs : List V} (h : SqL K H a xs) : SqL K H' a xs := by
  rcases h with (h | ⟨o, h⟩) | h
  · exact .inl (.inl (k _ _ h))
  · exact .inl (.inr ⟨o, k _ _ h⟩)
  · exact .inr h
section
variable {K : PySem.W.Frag} {H H' M M' : Hp}
mutual
theorem Dq.same (k : Same M M') : ∀ {v : V} {d : PyData}, Dq K M v d → Dq K M' v d
  | _, _, .non => .non
  | _, _, .bl b => .bl b
  | _, _, .int i => .int i
  | _, _, .str x => .str x
  | _, _, .lst h a => .lst (k _ _ h) (DqAll.same k a)
  | _, _, .tup h a => .tup (Same.sqT k h) (DqAll.same k a)
  | _, _, .dct h a => .dct (k _ _ h) (DqKV.same k a)
theorem DqAll.same (k : Same M M') : ∀ {vs : List V} {ds : List PyData}, DqAll K M vs ds → DqAll K M' vs ds
  | _, _, .nil => .nil
  | _, _, .cons a b => .cons (Dq.same k a) (DqAll.same k b)
theorem DqKV.same (k : Same M M') : ∀ {vs : List (Key × V)} {ds : List (PyData × PyData)}, DqKV K M vs ds → DqKV K M' vs ds
  | _, _, .nil => .nil
  | _, _, .cons a b => .cons (Dq.same k a) (DqKV.same k b)
end
mutual
theorem Dq.dp : ∀ {v : V} {d : PyData}, Dq K M v d → d.canLay0 = true → Dp K M v d
  | _, _, .non, _ => .non
  | _, _, .bl b, _ => .bl b
  | _, _, .int i, _ => .int i
  | _, _, .str x, _ => .str x
  | _, _, .lst h a, c => .lst (SqL.of h) (DqAll.dp a (by rw [PyData.canLay0] at c; exact c))
  | _, _, .tup h a, c => .tup h (DqAll.dp a (by rw [PyData.canLay0] at c; exact c))
  | _, _, .dct h a, c => by simp [PyData.canLay0] at c
theorem DqAll.dp : ∀ {vs : List V} {ds : List PyData}, DqAll K M vs ds → PyData.canLayAll0 ds = true → DpAll K M vs ds
  | _, _, .nil, _ => .nil
  | _, _, .cons a b, c => by
    rw [PyData.canLayAll0, Bool.and_eq_true] at c
    exact .cons (Dq.dp a c.1) (DqAll.dp b c.2)
end
theorem DqAll.len : ∀ {vs : List V} {ds : List PyData}, DqAll K M vs ds → vs.length = ds.length
  | _, _, .nil => rfl
  | _, _, .cons a b => by rw [List.length_cons, List.length_cons, DqAll.len b]
theorem DqAll.get : ∀ {vs : List V} {ds : List PyData}, DqAll K M vs ds → ∀ {i : Nat} {d : PyData}, ds[i]? = some d → ∃ v, vs[i]? = some v ∧ Dq K M v d
  | _, _, .nil, i, d, h => by simp at h
  | _, _, .cons a b, 0, d, h => by
    have e := Option.some.inj h
    subst e
    exact ⟨_, rfl, a⟩
  | _, _, .cons a b, i + 1, d, h => DqAll.get b (i := i) (by simpa using h)
theorem DqAll.getV : ∀ {vs : List V} {ds : List PyData}, DqAll K M vs ds → ∀ {i : Nat} {v : V}, vs[i]? = some v → ∃ d, ds[i]? = some d ∧ Dq K M v d
  | _, _, .nil, i, d, h => by simp at h
  | _, _, .cons a b, 0, d, h => by
    have e := Option.some.inj h
    subst e
    exact ⟨_, rfl, a⟩
  | _, _, .cons a b, i + 1, d, h => DqAll.getV b (i := i) (by simpa using h)
theorem DqAll.app : ∀ {vs ws : List V} {ds es : List PyData}, DqAll K M vs ds → DqAll K M ws es → DqAll K M (vs ++ ws) (ds ++ es)
  | _, _, _, _, .nil, h => h
  | _, _, _, _, .cons a b, h => .cons a (DqAll.app b h)
theorem DqAll.drop : ∀ {vs : List V} {ds : List PyData} (n : Nat), DqAll K M vs ds → DqAll K M (vs.drop n) (ds.drop n)
  | _, _, 0, h => h
  | _, _, _ + 1, .nil => .nil
  | _, _, n + 1, .cons _ h => DqAll.drop n h
theorem DqAll.take : ∀ {vs : List V} {ds : List PyData} (n : Nat), DqAll K M vs ds → DqAll K M (vs.take n) (ds.take n)
  | _, _, 0, _ => .nil
  | _, _, _ + 1, .nil => .nil
  | _, _, n + 1, .cons a h => .cons a (DqAll.take n h)
end
/-- what a slot holds: nothing that is known, data, a thing of its own with its addresses -/
inductive Sl where
  | unk
  | val (d : PyData)
  | res (P : V → Hp → Hp → List Addr → Prop)
def SlOk (K : PySem.W.Frag) (M H : Hp) : Sl → Option V → List Addr → Prop
  | .unk, _, fp => fp = []
  | .val d, o, fp => fp = [] ∧ ∃ v, o = some v ∧ Dq K M v d
  | .res P, o, fp => ∃ v, o = some v ∧ P v M H fp
inductive SlsOk (K : PySem.W.Frag) (M H : Hp) : List Sl → L2.St → List (List Addr) → Prop
  | nil : SlsOk K M H [] [] []
  | cons {s : Sl} {o : Option V} {fp : List Addr} {env : List Sl} {σ : L2.St} {fps : List (List Addr)} : SlOk K M H s o fp → SlsOk K M H env σ fps → SlsOk K M H (s :: env) (o :: σ) (fp :: fps)
/-- what of a thing's own stands by itself: it is stable while its addresses hold what they held and the view grows -/
def Stab : Sl → Prop
  | .unk => True
  | .val _ => True
  | .res P => ∀ v M H M' H' fp, Same M M' → (∀ a ∈ fp, H' a = H a) → P v M H fp → P v M' H' fp
structure Ok (K : PySem.W.Frag) (H0 M0 : Hp) (env : List Sl) (fps : List (List Addr)) (σ : L2.St) (H M : Hp) : Prop where
  base : Same H0 H
  sub : Same M H
  grow : Same M0 M
  new : ∀ a o, M a = some o → M0 a = some o ∨ H0 a = none
  sls : SlsOk K M H env σ fps
  nd : fps.flatten.Nodup
  own : ∀ a ∈ fps.flatten, H0 a = none ∧ M a = none ∧ H a ≠ none
  stab : ∀ s ∈ env, Stab s
section
variable {K : PySem.W.Frag} {H0 M0 H M H' M' : Hp} {env : List Sl} {fps : List (List Addr)} {σ : L2.St}
theorem SlOk.mono {s : Sl} {o : Option V} {fp : List Addr} (st : Stab s) (k : Same M M') (h : ∀ a ∈ fp, H' a = H a) (x : SlOk K M H s o fp) : SlOk K M' H' s o fp := by
  cases s with
  | unk => exact x
  | val d =>
    obtain ⟨e, v, e2, e3⟩ := x
    exact ⟨e, v, e2, Dq.same k e3⟩
  | res P =>
    obtain ⟨v, e2, e3⟩ := x
    exact ⟨v, e2, st _ _ _ _ _ _ k h e3⟩
theorem SlsOk.mono (k : Same M M') : ∀ {env : List Sl} {σ : L2.St} {fps : List (List Addr)}, (∀ s ∈ env, Stab s) → (∀ a ∈ fps.flatten, H' a = H a) → SlsOk K M H env σ fps → SlsOk K M' H' env σ fps
  | _, _, _, _, _, .nil => .nil
  | _, _, _, st, h, .cons a b => .cons (SlOk.mono (st _ List.mem_cons_self) k (fun x hx => h x (by rw [List.flatten_cons]; exact List.mem_append_left _ hx)) a)
      (SlsOk.mono k (fun s hs => st s (List.mem_cons_of_mem _ hs)) (fun x hx => h x (by rw [List.flatten_cons]; exact List.mem_append_right _ hx)) b)
/-- the heap and the view have grown -/
theorem Ok.grown (k : Ok K H0 M0 env fps σ H M) (h : Same H H') (m : Same M M') (s : Same M' H') (n : ∀ a o, M' a = some o → M a = some o ∨ H a = none) : Ok K H0 M0 env fps σ H' M' where
  base := k.base.trans h
  sub := s
  grow := k.grow.trans m
  new := fun a o e => by
    rcases n a o e with e | e
    · exact k.new a o e
    · refine .inr ?_
      cases c : H0 a with
      | none => rfl
      | some u => rw [k.base a u c] at e; cases e
  sls := SlsOk.mono m k.stab (fun a ha => by
    obtain ⟨_, _, e⟩ := k.own a ha
    cases c : H a with
    | none => exact absurd c e
    | some u => exact h a u c) k.sls
  nd := k.nd
  own := fun a ha => by
    obtain ⟨e1, e2, e3⟩ := k.own a ha
    refine ⟨e1, ?_, fun z => ?_⟩
    · cases c : M' a with
      | none => rfl
      | some u =>
        rcases n a u c with e | e
        · rw [e2] at e; cases e
        · exact absurd e e3
    · cases c : H a with
      | none => exact e3 c
      | some u => rw [h a u c] at z; cases z
  stab := k.stab
/-- a new object -/
theorem Ok.laid {p : Addr} {o : HO} (k : Ok K H0 M0 env fps σ H M) (hp : H p = none) : Ok K H0 M0 env fps σ (upd H p o) (upd M p o) ∧ Same M (upd M p o) := by
  have mp : M p = none := by
    cases c : M p with
    | none => rfl
    | some u => rw [k.sub p u c] at hp; cases hp
  have s1 : Same M (upd M p o) := fun a u e => by
    rw [upd_ne (fun z => by rw [z, mp] at e; cases e)]; exact e
  have s2 : Same H (upd H p o) := fun a u e => by
    rw [upd_ne (fun z => by rw [z, hp] at e; cases e)]; exact e
  refine ⟨k.grown s2 s1 (fun a u e => ?_) (fun a u e => ?_), s1⟩
  · by_cases z : a = p
    · subst z; rw [upd_same] at e ⊢; exact e
    · rw [upd_ne z] at e ⊢; exact k.sub a u e
  · by_cases z : a = p
    · subst z; exact .inr hp
    · rw [upd_ne z] at e; exact .inl e
theorem SlsOk.get : ∀ {env : List Sl} {σ : L2.St} {fps : List (List Addr)} {i : Nat} {d : PyData}, SlsOk K M H env σ fps → env[i]? = some (.val d) → ∃ v, σ[i]? = some (some v) ∧ Dq K M v d
  | _, _, _, 0, _, .cons a _, h => by
    have e := Option.some.inj h
    subst e
    obtain ⟨_, v, e2, e3⟩ := a
    exact ⟨v, by rw [e2]; rfl, e3⟩
  | _, _, _, i + 1, _, .cons _ b, h => SlsOk.get b (i := i) (by simpa using h)
  | _, _, _, i, _, .nil, h => by simp at h
theorem SlsOk.len : ∀ {env : List Sl} {σ : L2.St} {fps : List (List Addr)}, SlsOk K M H env σ fps → env.length = σ.length ∧ fps.length = σ.length
  | _, _, _, .nil => ⟨rfl, rfl⟩
  | _, _, _, .cons _ b => ⟨by rw [List.length_cons, List.length_cons, (SlsOk.len b).1], by rw [List.length_cons, List.length_cons, (SlsOk.len b).2]⟩
/-- a slot is stored anew -/
theorem SlsOk.set {s : Sl} {o : Option V} {fp : List Addr} (x : SlOk K M H s o fp) : ∀ {env : List Sl} {σ : L2.St} {fps : List (List Addr)} (i : Nat), SlsOk K M H env σ fps → SlsOk K M H (env.set i s) (σ.set i o) (fps.set i fp)
  | _, _, _, _, .nil => .nil
  | _, _, _, 0, .cons _ b => .cons x b
  | _, _, _, i + 1, .cons a b => .cons a (SlsOk.set x i b)
theorem flat_set : ∀ {fps : List (List Addr)} {i : Nat} {a : Addr}, a ∈ (fps.set i []).flatten → a ∈ fps.flatten
  | [], _, _, h => h
  | f :: fps, 0, a, h => by
    rw [List.set_cons_zero, List.flatten_cons, List.nil_append] at h
    rw [List.flatten_cons]; exact List.mem_append_right _ h
  | f :: fps, i + 1, a, h => by
    rw [List.set_cons_succ, List.flatten_cons, List.mem_append] at h
    rw [List.flatten_cons, List.mem_append]
    exact h.imp id flat_set
theorem flat_nodup : ∀ {fps : List (List Addr)} {i : Nat}, fps.flatten.Nodup → (fps.set i []).flatten.Nodup
  | [], _, h => h
  | f :: fps, 0, h => by
    rw [List.flatten_cons, List.nodup_append] at h
    rw [List.set_cons_zero, List.flatten_cons, List.nil_append]; exact h.2.1
  | f :: fps, i + 1, h => by
    rw [List.flatten_cons, List.nodup_append] at h
    rw [List.set_cons_succ, List.flatten_cons, List.nodup_append]
    exact ⟨h.1, flat_nodup h.2.1, fun x hx y hy => h.2.2 x hx y (flat_set hy)⟩
theorem stab_set {s : Sl} (hs : Stab s) {i : Nat} (h : ∀ s ∈ env, Stab s) : ∀ t ∈ env.set i s, Stab t := fun t ht => by
  rcases List.mem_or_eq_of_mem_set ht with ht | rfl
  · exact h t ht
  · exact hs
theorem Ok.setV {i : Nat} {v : V} {d : PyData} (k : Ok K H0 M0 env fps σ H M) (h : Dq K M v d) : Ok K H0 M0 (env.set i (.val d)) (fps.set i []) (σ.set i (some v)) H M where
  base := k.base
  sub := k.sub
  grow := k.grow
  new := k.new
  sls := SlsOk.set (s := .val d) (o := some v) (fp := []) ⟨rfl, v, rfl, h⟩ i k.sls
  nd := flat_nodup k.nd
  own := fun a ha => k.own a (flat_set ha)
  stab := stab_set (s := .val d) True.intro k.stab
theorem Ok.setU {i : Nat} {o : Option V} (k : Ok K H0 M0 env fps σ H M) : Ok K H0 M0 (env.set i .unk) (fps.set i []) (σ.set i o) H M where
  base := k.base
  sub := k.sub
  grow := k.grow
  new := k.new
  sls := SlsOk.set (s := .unk) (o := o) (fp := []) rfl i k.sls
  nd := flat_nodup k.nd
  own := fun a ha => k.own a (flat_set ha)
  stab := stab_set (s := .unk) True.intro k.stab
end
end Y


/-! ### expressions, tests, arguments over such states -/
namespace Y
open PySem L2
structure Ext (H M H' M' : Hp) : Prop where
  h : Same H H'
  m : Same M M'
  s : Same M' H'
  n : ∀ a o, M' a = some o → M a = some o ∨ H a = none
theorem Ext.refl {H M : Hp} (s : Same M H) : Ext H M H M := ⟨Same.refl H, Same.refl M, s, fun _ _ e => .inl e⟩
theorem none_of {H H' : Hp} (k : Same H H') {a : Addr} (e : H' a = none) : H a = none := by
  cases c : H a with
  | none => rfl
  | some u => rw [k a u c] at e; cases e
theorem Ext.trans {H M H1 M1 H2 M2 : Hp} (a : Ext H M H1 M1) (b : Ext H1 M1 H2 M2) : Ext H M H2 M2 :=
  ⟨a.h.trans b.h, a.m.trans b.m, b.s, fun x o e => by
    rcases b.n x o e with e | e
    · exact a.n x o e
    · exact .inr (none_of a.h e)⟩
theorem Ext.laid {H M : Hp} (s : Same M H) {p : Addr} {o : HO} (hp : H p = none) : Ext H M (upd H p o) (upd M p o) := by
  have mp := none_of s hp
  refine ⟨fun a u e => ?_, fun a u e => ?_, fun a u e => ?_, fun a u e => ?_⟩
  · rw [upd_ne (fun z => by rw [z, hp] at e; cases e)]; exact e
  · rw [upd_ne (fun z => by rw [z, mp] at e; cases e)]; exact e
  · by_cases z : a = p
    · subst z; rw [upd_same] at e ⊢; exact e
    · rw [upd_ne z] at e ⊢; exact s a u e
  · by_cases z : a = p
    · subst z; exact .inr hp
    · rw [upd_ne z] at e; exact .inl e
section
variable {K : PySem.W.Frag} {H0 M0 H M H' M' : Hp} {env : List Sl} {fps : List (List Addr)} {σ : L2.St}
theorem Ok.ext (k : Ok K H0 M0 env fps σ H M) (e : Ext H M H' M') : Ok K H0 M0 env fps σ H' M' := k.grown e.h e.m e.s e.n
theorem Ok.out (k : Ok K H0 M0 env fps σ H M) : Ext H0 M0 H M := ⟨k.base, k.grow, k.sub, k.new⟩
end
def Pe (K : PySem.W.Frag) (t : TE) (env : List Sl) (d : PyData) : Prop := ∀ (H0 M0 H M : Hp) (fps : List (List Addr)) (σ : L2.St) (Q : VK), Ok K H0 M0 env fps σ H M →
  (∀ v H' M', Ext H M H' M' → Dq K M' v d → Q v H') → t σ H Q
def Pt (K : PySem.W.Frag) (t : TT) (env : List Sl) (b : Bool) : Prop := ∀ (H0 M0 H M : Hp) (fps : List (List Addr)) (σ : L2.St) (Q : Bool → Hp → Prop), Ok K H0 M0 env fps σ H M →
  (∀ H' M', Ext H M H' M' → Q b H') → t σ H Q
def Pa (K : PySem.W.Frag) (t : TA) (env : List Sl) (ds : List PyData) : Prop := ∀ (H0 M0 H M : Hp) (fps : List (List Addr)) (σ : L2.St) (Q : List V → Hp → Prop), Ok K H0 M0 env fps σ H M →
  (∀ vs H' M', Ext H M H' M' → DqAll K M' vs ds → Q vs H') → t σ H Q
/-- by values -/
def Po (K : PySem.W.Frag) (r : R2) (d e c : PyData) : Prop := ∀ (H M : Hp) (x y : V) (Q : VK), Same M H → Dq K M x d → Dq K M y e → (∀ v H' M', Ext H M H' M' → Dq K M' v c → Q v H') → r x y H Q
def Pc (K : PySem.W.Frag) (r : List V → Hp → VK → Prop) (ds : List PyData) (c : PyData) : Prop := ∀ (H M : Hp) (vs : List V) (Q : VK), Same M H → DqAll K M vs ds → (∀ v H' M', Ext H M H' M' → Dq K M' v c → Q v H') → r vs H Q
def Pm (K : PySem.W.Frag) (r : V → List V → Hp → VK → Prop) (d : PyData) (ds : List PyData) (c : PyData) : Prop := ∀ (H M : Hp) (x : V) (vs : List V) (Q : VK), Same M H → Dq K M x d → DqAll K M vs ds → (∀ v H' M', Ext H M H' M' → Dq K M' v c → Q v H') → r x vs H Q
def Pu (K : PySem.W.Frag) (r : V → Hp → VK → Prop) (d c : PyData) : Prop := ∀ (H M : Hp) (x : V) (Q : VK), Same M H → Dq K M x d → (∀ v H' M', Ext H M H' M' → Dq K M' v c → Q v H') → r x H Q
/-- a def's promise: told data to told data -/
def PF (K : PySem.W.Frag) (R : List PyData → PyData → Prop) : Sp := fun vs H Q _ => ∃ M ds d, Same M H ∧ DqAll K M vs ds ∧ R ds d ∧ ∀ v H' M', Ext H M H' M' → Dq K M' v d → Q v H'
section
variable {K : PySem.W.Frag} {env : List Sl}
theorem e_var {i : Nat} {d : PyData} (h : env[i]? = some (.val d)) : Pe K (tVar i) env d := fun H0 M0 H M fps σ Q k q => by
  obtain ⟨v, e1, e2⟩ := k.sls.get h
  exact ⟨v, e1, q v H M (Ext.refl k.sub) e2⟩
theorem e_int {i : Int} : Pe K (tC (.int i)) env (.int i) := fun H0 M0 H M fps σ Q k q => q _ H M (Ext.refl k.sub) (.int i)
theorem e_str {i : Str} : Pe K (tC (.str i)) env (.str i) := fun H0 M0 H M fps σ Q k q => q _ H M (Ext.refl k.sub) (.str i)
theorem e_bl {i : Bool} : Pe K (tC (.bl i)) env (.bool i) := fun H0 M0 H M fps σ Q k q => q _ H M (Ext.refl k.sub) (.bl i)
theorem e_non : Pe K (tC .non) env .none := fun H0 M0 H M fps σ Q k q => q _ H M (Ext.refl k.sub) .non
theorem e_as {t : TE} {d d' : PyData} (h : Pe K t env d) (e : d = d') : Pe K t env d' := by rw [← e]; exact h
theorem t_as {t : TT} {b b' : Bool} (h : Pt K t env b) (e : b = b') : Pt K t env b' := by rw [← e]; exact h
theorem e_op {r : R2} {ta tb : TE} {d e c : PyData} (ha : Pe K ta env d) (hb : Pe K tb env e) (hr : Po K r d e c) : Pe K (tOp r ta tb) env c := fun H0 M0 H M fps σ Q k q =>
  ha H0 M0 H M fps σ _ k fun x H1 M1 x1 dx => hb H0 M0 H1 M1 fps σ _ (k.ext x1) fun y H2 M2 x2 dy => hr H2 M2 x y Q x2.s (Dq.same x2.m dx) dy fun v H3 M3 x3 dv => q v H3 M3 ((x1.trans x2).trans x3) dv
theorem e_un {r : V → Hp → VK → Prop} {ta : TE} {d c : PyData} (ha : Pe K ta env d) (hr : Pu K r d c) : Pe K (tUn r ta) env c := fun H0 M0 H M fps σ Q k q =>
  ha H0 M0 H M fps σ _ k fun x H1 M1 x1 dx => hr H1 M1 x Q x1.s dx fun v H3 M3 x3 dv => q v H3 M3 (x1.trans x3) dv
theorem a_nil : Pa K tNil env [] := fun H0 M0 H M fps σ Q k q => q [] H M (Ext.refl k.sub) .nil
theorem a_cons {ta : TE} {tr : TA} {d : PyData} {ds : List PyData} (ha : Pe K ta env d) (hb : Pa K tr env ds) : Pa K (tCons ta tr) env (d :: ds) := fun H0 M0 H M fps σ Q k q =>
  ha H0 M0 H M fps σ _ k fun x H1 M1 x1 dx => hb H0 M0 H1 M1 fps σ _ (k.ext x1) fun xs H2 M2 x2 dxs => q _ H2 M2 (x1.trans x2) (.cons (Dq.same x2.m dx) dxs)
theorem e_tup {ta : TA} {ds : List PyData} (ha : Pa K ta env ds) (hl : ds.length ≤ sizeLine) : Pe K (tTup ta) env (.tuple ds) := fun H0 M0 H M fps σ Q k q =>
  ha H0 M0 H M fps σ _ k fun xs H1 M1 x1 dx => ⟨by rw [DqAll.len dx]; exact hl, fun p hp => q _ _ (upd M1 p (.tup xs)) (x1.trans (Ext.laid x1.s hp)) (.tup (SqT.of upd_same) (DqAll.same (Ext.laid x1.s hp).m dx))⟩
theorem e_lst {ta : TA} {ds : List PyData} (ha : Pa K ta env ds) (hl : ds.length ≤ sizeLine) : Pe K (tLst ta) env (.list ds) := fun H0 M0 H M fps σ Q k q =>
  ha H0 M0 H M fps σ _ k fun xs H1 M1 x1 dx => ⟨by rw [DqAll.len dx]; exact hl, fun p hp => q _ _ (upd M1 p (.lst xs)) (x1.trans (Ext.laid x1.s hp)) (.lst upd_same (DqAll.same (Ext.laid x1.s hp).m dx))⟩
theorem e_call {R : List PyData → PyData → Prop} {E : XK} {ta : TA} {ds : List PyData} {d : PyData} (ha : Pa K ta env ds) (hr : R ds d) : Pe K (tCall (PF K R) [] E ta) env d := fun H0 M0 H M fps σ Q k q =>
  ha H0 M0 H M fps σ _ k fun xs H1 M1 x1 dx => ⟨M1, ds, d, x1.s, by rw [List.append_nil]; exact dx, hr, fun v H2 M2 x2 dv => q v H2 M2 (x1.trans x2) dv⟩
theorem e_cb {r : List V → Hp → VK → Prop} {ta : TA} {ds : List PyData} {c : PyData} (ha : Pa K ta env ds) (hr : Pc K r ds c) : Pe K (tCB r ta) env c := fun H0 M0 H M fps σ Q k q =>
  ha H0 M0 H M fps σ _ k fun xs H1 M1 x1 dx => hr H1 M1 xs Q x1.s dx fun v H2 M2 x2 dv => q v H2 M2 (x1.trans x2) dv
theorem e_if {c : TT} {ta tb : TE} {b : Bool} {d e : PyData} (hc : Pt K c env b) (ha : b = true → Pe K ta env d) (hb : b = false → Pe K tb env e) : Pe K (tIf c ta tb) env (if b = true then d else e) := fun H0 M0 H M fps σ Q k q => by
  refine hc H0 M0 H M fps σ _ k fun H1 M1 x1 => ?_
  cases b with
  | true => rw [if_pos rfl] at q ⊢; exact ha rfl H0 M0 H1 M1 fps σ Q (k.ext x1) fun v H2 M2 x2 dv => q v H2 M2 (x1.trans x2) dv
  | false => rw [if_neg Bool.false_ne_true] at q ⊢; exact hb rfl H0 M0 H1 M1 fps σ Q (k.ext x1) fun v H2 M2 x2 dv => q v H2 M2 (x1.trans x2) dv
theorem e_ifS {c : TT} {ta tb : TE} {b : Bool} {d : PyData} (hc : Pt K c env b) (ha : b = true → Pe K ta env d) (hb : b = false → Pe K tb env d) : Pe K (tIf c ta tb) env d := fun H0 M0 H M fps σ Q k q => by
  refine hc H0 M0 H M fps σ _ k fun H1 M1 x1 => ?_
  cases b with
  | true => exact ha rfl H0 M0 H1 M1 fps σ Q (k.ext x1) fun v H2 M2 x2 dv => q v H2 M2 (x1.trans x2) dv
  | false => exact hb rfl H0 M0 H1 M1 fps σ Q (k.ext x1) fun v H2 M2 x2 dv => q v H2 M2 (x1.trans x2) dv
theorem dq_bool {M : Hp} {v : V} {b : Bool} (h : Dq K M v (.bool b)) : v = .bl b := by cases h; rfl
theorem dq_int {M : Hp} {v : V} {b : Int} (h : Dq K M v (.int b)) : v = .int b := by cases h; rfl
theorem dq_str {M : Hp} {v : V} {b : Str} (h : Dq K M v (.str b)) : v = .str b := by cases h; rfl
theorem dq_non {M : Hp} {v : V} (h : Dq K M v .none) : v = .non := by cases h; rfl
theorem t_test {ta : TE} {b : Bool} (ha : Pe K ta env (.bool b)) : Pt K (tTest ta) env b := fun H0 M0 H M fps σ Q k q =>
  ha H0 M0 H M fps σ _ k fun x H1 M1 x1 dx => ⟨b, dq_bool dx, q H1 M1 x1⟩
theorem t_b {ta : TE} {b : Bool} (ha : Pe K ta env (.bool b)) : Pt K (tB ta) env b := fun H0 M0 H M fps σ Q k q =>
  ha H0 M0 H M fps σ _ k fun x H1 M1 x1 dx => ⟨b, dq_bool dx, q H1 M1 x1⟩
theorem t_and {t u : TT} {b c : Bool} (ha : Pt K t env b) (hb : b = true → Pt K u env c) : Pt K (tAnd t u) env (b && c) := fun H0 M0 H M fps σ Q k q => by
  refine ha H0 M0 H M fps σ _ k fun H1 M1 x1 => ?_
  cases b with
  | true => exact hb rfl H0 M0 H1 M1 fps σ Q (k.ext x1) fun H2 M2 x2 => q H2 M2 (x1.trans x2)
  | false => exact q H1 M1 x1
theorem t_or {t u : TT} {b c : Bool} (ha : Pt K t env b) (hb : b = false → Pt K u env c) : Pt K (tOr t u) env (b || c) := fun H0 M0 H M fps σ Q k q => by
  refine ha H0 M0 H M fps σ _ k fun H1 M1 x1 => ?_
  cases b with
  | false => exact hb rfl H0 M0 H1 M1 fps σ Q (k.ext x1) fun H2 M2 x2 => q H2 M2 (x1.trans x2)
  | true => exact q H1 M1 x1
theorem t_not {t : TT} {b : Bool} (ha : Pt K t env b) : Pt K (tNot t) env (!b) := fun H0 M0 H M fps σ Q k q => ha H0 M0 H M fps σ _ k q
theorem t_yes : Pt K tYes env true := fun H0 M0 H M fps σ Q k q => q H M (Ext.refl k.sub)
theorem e_and {ta tb : TE} {b c : Bool} (ha : Pe K ta env (.bool b)) (hb : b = true → Pe K tb env (.bool c)) : Pe K (tAndV ta tb) env (.bool (b && c)) := fun H0 M0 H M fps σ Q k q => by
  refine ha H0 M0 H M fps σ _ k fun x H1 M1 x1 dx => ⟨b, dq_bool dx, ?_⟩
  cases b with
  | true => exact hb rfl H0 M0 H1 M1 fps σ Q (k.ext x1) fun v H2 M2 x2 dv => q v H2 M2 (x1.trans x2) dv
  | false => exact q _ H1 M1 x1 (.bl _)
theorem e_or {ta tb : TE} {b c : Bool} (ha : Pe K ta env (.bool b)) (hb : b = false → Pe K tb env (.bool c)) : Pe K (tOrV ta tb) env (.bool (b || c)) := fun H0 M0 H M fps σ Q k q => by
  refine ha H0 M0 H M fps σ _ k fun x H1 M1 x1 dx => ⟨b, dq_bool dx, ?_⟩
  cases b with
  | false => exact hb rfl H0 M0 H1 M1 fps σ Q (k.ext x1) fun v H2 M2 x2 dv => q v H2 M2 (x1.trans x2) dv
  | true => exact q _ H1 M1 x1 (.bl _)
theorem e_not {ta : TE} {b : Bool} (ha : Pe K ta env (.bool b)) : Pe K (tNotV ta) env (.bool (!b)) := fun H0 M0 H M fps σ Q k q =>
  ha H0 M0 H M fps σ _ k fun x H1 M1 x1 dx => ⟨b, dq_bool dx, q _ H1 M1 x1 (.bl _)⟩
theorem e_chain {r r' : R2} {ta tb tc : TE} {d e f : PyData} {b c : Bool} (ha : Pe K ta env d) (hb : Pe K tb env e) (hr : Po K r d e (.bool b)) (hc : b = true → Pe K tc env f) (hr' : b = true → Po K r' e f (.bool c)) : Pe K (tChain r r' ta tb tc) env (.bool (b && c)) := fun H0 M0 H M fps σ Q k q => by
  refine ha H0 M0 H M fps σ _ k fun x H1 M1 x1 dx => hb H0 M0 H1 M1 fps σ _ (k.ext x1) fun y H2 M2 x2 dy => hr H2 M2 x y _ x2.s (Dq.same x2.m dx) dy fun v H3 M3 x3 dv => ⟨b, dq_bool dv, ?_⟩
  cases b with
  | true => exact hc rfl H0 M0 H3 M3 fps σ _ (k.ext ((x1.trans x2).trans x3)) fun w H4 M4 x4 dw => hr' rfl H4 M4 y w Q x4.s (Dq.same (x3.m.trans x4.m) dy) dw fun z H5 M5 x5 dz => q z H5 M5 ((((x1.trans x2).trans x3).trans x4).trans x5) dz
  | false => exact q _ H3 M3 ((x1.trans x2).trans x3) (.bl _)
end
/-! ### operators -/
section
variable {K : PySem.W.Frag}
theorem o_i0 {f : Int → Int → Int} {i j : Int} : Po K (rI0 fun i j => .int (f i j)) (.int i) (.int j) (.int (f i j)) := fun H M x y Q s hx hy q => ⟨i, j, dq_int hx, dq_int hy, q _ H M (Ext.refl s) (.int _)⟩
theorem o_b0 {f : Int → Int → Bool} {i j : Int} : Po K (rI0 fun i j => .bl (f i j)) (.int i) (.int j) (.bool (f i j)) := fun H M x y Q s hx hy q => ⟨i, j, dq_int hx, dq_int hy, q _ H M (Ext.refl s) (.bl _)⟩
theorem o_iC {C : Int → Int → Prop} {f : Int → Int → Int} {i j : Int} (h : C i j) : Po K (rI C fun i j => .int (f i j)) (.int i) (.int j) (.int (f i j)) := fun H M x y Q s hx hy q => ⟨i, j, dq_int hx, dq_int hy, h, q _ H M (Ext.refl s) (.int _)⟩
theorem o_eqI {i j : Int} : Po K rEq (.int i) (.int j) (.bool (decide (i = j))) := fun H M x y Q s hx hy q => by
  rw [dq_int hx, dq_int hy]
  refine ⟨rfl, ?_⟩
  rw [show decide (V.int i = V.int j) = decide (i = j) by
    by_cases c : i = j
    · subst c; simp
    · rw [decide_eq_false c]; exact decide_eq_false fun z => c (V.int.inj z)]
  exact q _ H M (Ext.refl s) (.bl _)
theorem o_neI {i j : Int} : Po K rNe (.int i) (.int j) (.bool (!decide (i = j))) := fun H M x y Q s hx hy q => by
  rw [dq_int hx, dq_int hy]
  refine ⟨rfl, ?_⟩
  rw [show decide (V.int i = V.int j) = decide (i = j) by
    by_cases c : i = j
    · subst c; simp
    · rw [decide_eq_false c]; exact decide_eq_false fun z => c (V.int.inj z)]
  exact q _ H M (Ext.refl s) (.bl _)
theorem o_eqS {i j : Str} : Po K rEq (.str i) (.str j) (.bool (decide (i = j))) := fun H M x y Q s hx hy q => by
  rw [dq_str hx, dq_str hy]
  refine ⟨rfl, ?_⟩
  rw [show decide (V.str i = V.str j) = decide (i = j) by
    by_cases c : i = j
    · subst c; simp
    · rw [decide_eq_false c]; exact decide_eq_false fun z => c (V.str.inj z)]
  exact q _ H M (Ext.refl s) (.bl _)
theorem o_neS {i j : Str} : Po K rNe (.str i) (.str j) (.bool (!decide (i = j))) := fun H M x y Q s hx hy q => by
  rw [dq_str hx, dq_str hy]
  refine ⟨rfl, ?_⟩
  rw [show decide (V.str i = V.str j) = decide (i = j) by
    by_cases c : i = j
    · subst c; simp
    · rw [decide_eq_false c]; exact decide_eq_false fun z => c (V.str.inj z)]
  exact q _ H M (Ext.refl s) (.bl _)
theorem o_eqB {i j : Bool} : Po K rEq (.bool i) (.bool j) (.bool (decide (i = j))) := fun H M x y Q s hx hy q => by
  rw [dq_bool hx, dq_bool hy]
  refine ⟨rfl, ?_⟩
  rw [show decide (V.bl i = V.bl j) = decide (i = j) by cases i <;> cases j <;> rfl]
  exact q _ H M (Ext.refl s) (.bl _)
theorem o_neB {i j : Bool} : Po K rNe (.bool i) (.bool j) (.bool (!decide (i = j))) := fun H M x y Q s hx hy q => by
  rw [dq_bool hx, dq_bool hy]
  refine ⟨rfl, ?_⟩
  rw [show decide (V.bl i = V.bl j) = decide (i = j) by cases i <;> cases j <;> rfl]
  exact q _ H M (Ext.refl s) (.bl _)
def isN : PyData → Bool
  | .none => true
  | _ => false
theorem isN_iff {M : Hp} {v : V} {d : PyData} (h : Dq K M v d) : decide (v = .non) = isN d := by
  cases h <;> rfl
theorem o_isN {d : PyData} : Po K (fun x y H Q => y = .non ∧ Q (.bl (decide (x = .non))) H) d .none (.bool (isN d)) := fun H M x y Q s hx hy q => ⟨dq_non hy, by rw [isN_iff hx]; exact q _ H M (Ext.refl s) (.bl _)⟩
theorem o_notN {d : PyData} : Po K (fun x y H Q => y = .non ∧ Q (.bl (!decide (x = .non))) H) d .none (.bool (!isN d)) := fun H M x y Q s hx hy q => ⟨dq_non hy, by rw [isN_iff hx]; exact q _ H M (Ext.refl s) (.bl _)⟩
theorem o_addS {a b : Str} (h : a.length + b.length ≤ sizeLine) : Po K (fun x y H Q => ∃ i j, x = .str i ∧ y = .str j ∧ i.length + j.length ≤ sizeLine ∧ Q (.str (i ++ j)) H) (.str a) (.str b) (.str (a ++ b)) := fun H M x y Q s hx hy q =>
  ⟨a, b, dq_str hx, dq_str hy, h, q _ H M (Ext.refl s) (.str _)⟩
theorem o_inS {c : Nat} {z : Str} : Po K (fun x y H Q => ∃ (c : Nat) (z : Str), x = .str ⟨#[c]⟩ ∧ y = .str z ∧ Q (.bl (decide (c ∈ z.cps.toList))) H) (.str ⟨#[c]⟩) (.str z) (.bool (decide (c ∈ z.cps.toList))) := fun H M x y Q s hx hy q =>
  ⟨c, z, dq_str hx, dq_str hy, q _ H M (Ext.refl s) (.bl _)⟩
theorem dq_lstI {M : Hp} {v : V} {ds : List PyData} (h : Dq K M v (.list ds)) : ∃ a xs, v = .ref a ∧ M a = some (.lst xs) ∧ DqAll K M xs ds := by
  cases h with | lst h a => exact ⟨_, _, rfl, h, a⟩
theorem dq_tupI {M : Hp} {v : V} {ds : List PyData} (h : Dq K M v (.tuple ds)) : ∃ a xs, v = .ref a ∧ SqT K M a xs ∧ DqAll K M xs ds := by
  cases h with | tup h a => exact ⟨_, _, rfl, h, a⟩
theorem o_cat {ds es : List PyData} (h : ds.length + es.length ≤ sizeLine) : Po K rCat (.list ds) (.list es) (.list (ds ++ es)) := fun H M x y Q s hx hy q => by
  obtain ⟨a, xs, rfl, h1, h2⟩ := dq_lstI hx
  obtain ⟨b, ys, rfl, h3, h4⟩ := dq_lstI hy
  refine ⟨a, b, xs, ys, rfl, rfl, s _ _ h1, s _ _ h3, by rw [DqAll.len h2, DqAll.len h4]; exact h, fun p hp => ?_⟩
  exact q _ _ _ (Ext.laid s hp) (.lst upd_same (DqAll.same (Ext.laid s hp).m (DqAll.app h2 h4)))
theorem o_catA {ds es : List PyData} (h : ds.length + es.length ≤ sizeLine) : Po K (rCatA K) (.tuple ds) (.tuple es) (.tuple (ds ++ es)) := fun H M x y Q s hx hy q => by
  obtain ⟨a, xs, rfl, h1, h2⟩ := dq_tupI hx
  obtain ⟨b, ys, rfl, h3, h4⟩ := dq_tupI hy
  refine ⟨a, b, xs, ys, rfl, rfl, Same.sqT s h1, Same.sqT s h3, by rw [DqAll.len h2, DqAll.len h4]; exact h, fun e => ?_, fun _ e => ?_, fun _ _ p hp => ?_⟩
  · subst e
    cases h2
    exact q _ H M (Ext.refl s) (.tup h3 h4)
  · subst e
    cases h4
    rw [List.append_nil] at q
    exact q _ H M (Ext.refl s) (.tup h1 h2)
  · exact q _ _ _ (Ext.laid s hp) (.tup (SqT.of upd_same) (DqAll.same (Ext.laid s hp).m (DqAll.app h2 h4)))
theorem dq_at {M : Hp} {vs : List V} {ds : List PyData} {i : Int} {d : PyData} (h : DqAll K M vs ds) (e : atI ds i = some d) : ∃ v, atI vs i = some v ∧ Dq K M v d := by
  unfold atI at e ⊢
  rw [DqAll.len h]
  cases c : ixN ds.length i with
  | none => rw [c] at e; cases e
  | some j =>
    rw [c] at e
    obtain ⟨v, h1, h2⟩ := DqAll.get h (show ds[j]? = some d from e)
    exact ⟨v, h1, h2⟩
theorem o_ixL {ds : List PyData} {i : Int} {d : PyData} (e : atI ds i = some d) : Po K (rIxL K) (.list ds) (.int i) d := fun H M x y Q s hx hy q => by
  obtain ⟨a, xs, rfl, h1, h2⟩ := dq_lstI hx
  obtain ⟨v, e1, e2⟩ := dq_at h2 e
  exact ⟨a, xs, i, v, rfl, dq_int hy, SqL.of (s _ _ h1), e1, q v H M (Ext.refl s) e2⟩
theorem o_ixT {ds : List PyData} {i : Int} {d : PyData} (e : atI ds i = some d) : Po K (rIxT K) (.tuple ds) (.int i) d := fun H M x y Q s hx hy q => by
  obtain ⟨a, xs, rfl, h1, h2⟩ := dq_tupI hx
  obtain ⟨v, e1, e2⟩ := dq_at h2 e
  exact ⟨a, xs, i, v, rfl, dq_int hy, Same.sqT s h1, e1, q v H M (Ext.refl s) e2⟩
theorem o_ixS {z : Str} {i : Int} {c : Nat} (hz : z.length ≤ sizeLine) (e : atI z.cps.toList i = some c) : Po K rIxS (.str z) (.int i) (.str ⟨#[c]⟩) := fun H M x y Q s hx hy q =>
  ⟨z, i, c, dq_str hx, dq_int hy, hz, e, q _ H M (Ext.refl s) (.str _)⟩
theorem o_eqD {d e : PyData} (hd : SeqAt.shaped d = true) (he : SeqAt.shaped e = true) : Po K (rEqD K) d e (.bool (PyData.eqv d e)) := fun H M x y Q s hx hy q =>
  ⟨d, e, Dq.dp (Dq.same s hx) (SeqAt.canLay_of_shaped hd), Dq.dp (Dq.same s hy) (SeqAt.canLay_of_shaped he), hd, he, q _ H M (Ext.refl s) (.bl _)⟩
theorem o_neD {d e : PyData} (hd : SeqAt.shaped d = true) (he : SeqAt.shaped e = true) : Po K (rNeD K) d e (.bool (!PyData.eqv d e)) := fun H M x y Q s hx hy q =>
  ⟨d, e, Dq.dp (Dq.same s hx) (SeqAt.canLay_of_shaped hd), Dq.dp (Dq.same s hy) (SeqAt.canLay_of_shaped he), hd, he, q _ H M (Ext.refl s) (.bl _)⟩
theorem u_i {f : Int → Int} {i : Int} : Pu K (rU fun i => .int (f i)) (.int i) (.int (f i)) := fun H M x Q s hx q => ⟨i, dq_int hx, q _ H M (Ext.refl s) (.int _)⟩
/-! ### builtins -/
theorem dqA_nil {M : Hp} {vs : List V} (h : DqAll K M vs []) : vs = [] := by cases h; rfl
theorem dqA_one {M : Hp} {vs : List V} {d : PyData} (h : DqAll K M vs [d]) : ∃ v, vs = [v] ∧ Dq K M v d := by
  cases h with | cons a b => rw [dqA_nil b]; exact ⟨_, rfl, a⟩
theorem dqA_two {M : Hp} {vs : List V} {d e : PyData} (h : DqAll K M vs [d, e]) : ∃ v w, vs = [v, w] ∧ Dq K M v d ∧ Dq K M w e := by
  cases h with | cons a b =>
    obtain ⟨w, e1, e2⟩ := dqA_one b
    rw [e1]; exact ⟨_, w, rfl, a, e2⟩
theorem c_lenL {ds : List PyData} : Pc K (fun xs H Q => ∃ p ys, xs = [.ref p] ∧ (SqL K H p ys ∨ SqT K H p ys) ∧ Q (.int ys.length) H) [.list ds] (.int ds.length) := fun H M vs Q s h0 q => by
  obtain ⟨v, rfl, h⟩ := dqA_one h0
  obtain ⟨a, xs, rfl, h1, h2⟩ := dq_lstI h
  refine ⟨a, xs, rfl, .inl (SqL.of (s _ _ h1)), ?_⟩
  rw [DqAll.len h2]; exact q _ H M (Ext.refl s) (.int _)
theorem c_lenT {ds : List PyData} : Pc K (fun xs H Q => ∃ p ys, xs = [.ref p] ∧ (SqL K H p ys ∨ SqT K H p ys) ∧ Q (.int ys.length) H) [.tuple ds] (.int ds.length) := fun H M vs Q s h0 q => by
  obtain ⟨v, rfl, h⟩ := dqA_one h0
  obtain ⟨a, xs, rfl, h1, h2⟩ := dq_tupI h
  refine ⟨a, xs, rfl, .inr (Same.sqT s h1), ?_⟩
  rw [DqAll.len h2]; exact q _ H M (Ext.refl s) (.int _)
theorem c_lenS {z : Str} (hz : z.length ≤ sizeLine) : Pc K (fun xs H Q => ∃ z, xs = [.str z] ∧ z.length ≤ sizeLine ∧ Q (.int z.length) H) [.str z] (.int z.length) := fun H M vs Q s h0 q => by
  obtain ⟨v, rfl, h⟩ := dqA_one h0
  rw [dq_str h]
  exact ⟨z, rfl, hz, q _ H M (Ext.refl s) (.int _)⟩
theorem c_int {i : Int} : Pc K (fun xs H Q => (∃ i, xs = [.int i] ∧ Q (.int i) H) ∨ ∃ k, xs = [.bl k] ∧ Q (.int (if k then 1 else 0)) H) [.int i] (.int i) := fun H M vs Q s h0 q => by
  obtain ⟨v, rfl, h⟩ := dqA_one h0
  rw [dq_int h]
  exact .inl ⟨i, rfl, q _ H M (Ext.refl s) (.int _)⟩
theorem c_intB {b : Bool} : Pc K (fun xs H Q => (∃ i, xs = [.int i] ∧ Q (.int i) H) ∨ ∃ k, xs = [.bl k] ∧ Q (.int (if k then 1 else 0)) H) [.bool b] (.int (if b = true then 1 else 0)) := fun H M vs Q s h0 q => by
  obtain ⟨v, rfl, h⟩ := dqA_one h0
  rw [dq_bool h]
  exact .inr ⟨b, rfl, q _ H M (Ext.refl s) (.int _)⟩
theorem c_ord {z : Str} (hz : z.length = 1) : Pc K (fun xs H Q => ∃ x, xs = [.str x] ∧ x.length = 1 ∧ Q (.int (x.cps.getD 0 0 : Nat)) H) [.str z] (.int (z.cps.getD 0 0 : Nat)) := fun H M vs Q s h0 q => by
  obtain ⟨v, rfl, h⟩ := dqA_one h0
  rw [dq_str h]
  exact ⟨z, rfl, hz, q _ H M (Ext.refl s) (.int _)⟩
theorem c_max2 {i j : Int} : Pc K (fun xs H Q => ∃ i j, xs = [.int i, .int j] ∧ Q (.int (if j > i then j else i)) H) [.int i, .int j] (.int (if j > i then j else i)) := fun H M vs Q s h0 q => by
  obtain ⟨v, w, rfl, h, h'⟩ := dqA_two h0
  rw [dq_int h, dq_int h']
  exact ⟨i, j, rfl, q _ H M (Ext.refl s) (.int _)⟩
theorem c_min2 {i j : Int} : Pc K (fun xs H Q => ∃ i j, xs = [.int i, .int j] ∧ Q (.int (if j < i then j else i)) H) [.int i, .int j] (.int (if j < i then j else i)) := fun H M vs Q s h0 q => by
  obtain ⟨v, w, rfl, h, h'⟩ := dqA_two h0
  rw [dq_int h, dq_int h']
  exact ⟨i, j, rfl, q _ H M (Ext.refl s) (.int _)⟩
theorem c_listL {ds : List PyData} : Pc K (fun xs H Q => ∃ p ys, xs = [.ref p] ∧ (SqL K H p ys ∨ SqT K H p ys) ∧ ∀ l, H l = none → Q (.ref l) (upd H l (.lst ys))) [.list ds] (.list ds) := fun H M vs Q s h0 q => by
  obtain ⟨v, rfl, h⟩ := dqA_one h0
  obtain ⟨a, xs, rfl, h1, h2⟩ := dq_lstI h
  exact ⟨a, xs, rfl, .inl (SqL.of (s _ _ h1)), fun p hp => q _ _ _ (Ext.laid s hp) (.lst upd_same (DqAll.same (Ext.laid s hp).m h2))⟩
theorem c_listT {ds : List PyData} : Pc K (fun xs H Q => ∃ p ys, xs = [.ref p] ∧ (SqL K H p ys ∨ SqT K H p ys) ∧ ∀ l, H l = none → Q (.ref l) (upd H l (.lst ys))) [.tuple ds] (.list ds) := fun H M vs Q s h0 q => by
  obtain ⟨v, rfl, h⟩ := dqA_one h0
  obtain ⟨a, xs, rfl, h1, h2⟩ := dq_tupI h
  exact ⟨a, xs, rfl, .inr (Same.sqT s h1), fun p hp => q _ _ _ (Ext.laid s hp) (.lst upd_same (DqAll.same (Ext.laid s hp).m h2))⟩
theorem c_tupL {ds : List PyData} : Pc K (fun xs H Q => ∃ p ys, xs = [.ref p] ∧ ((SqL K H p ys ∧ ∀ l, H l = none → Q (.ref l) (upd H l (.tup ys))) ∨ (SqT K H p ys ∧ Q (.ref p) H))) [.list ds] (.tuple ds) := fun H M vs Q s h0 q => by
  obtain ⟨v, rfl, h⟩ := dqA_one h0
  obtain ⟨a, xs, rfl, h1, h2⟩ := dq_lstI h
  exact ⟨a, xs, rfl, .inl ⟨SqL.of (s _ _ h1), fun p hp => q _ _ _ (Ext.laid s hp) (.tup (SqT.of upd_same) (DqAll.same (Ext.laid s hp).m h2))⟩⟩
theorem c_tupT {ds : List PyData} : Pc K (fun xs H Q => ∃ p ys, xs = [.ref p] ∧ ((SqL K H p ys ∧ ∀ l, H l = none → Q (.ref l) (upd H l (.tup ys))) ∨ (SqT K H p ys ∧ Q (.ref p) H))) [.tuple ds] (.tuple ds) := fun H M vs Q s h0 q => by
  obtain ⟨v, rfl, h⟩ := dqA_one h0
  obtain ⟨a, xs, rfl, h1, h2⟩ := dq_tupI h
  exact ⟨a, xs, rfl, .inr ⟨Same.sqT s h1, q _ H M (Ext.refl s) (.tup h1 h2)⟩⟩
end
end Y


/-! ### statements over such states -/
namespace Y
open PySem L2
abbrev EnvP := List Sl → Prop
def NxOk (K : PySem.W.Frag) (H0 M0 : Hp) (N : L2.St → Hp → Prop) (E : EnvP) : Prop := ∀ env σ H M fps, E env → Ok K H0 M0 env fps σ H M → N σ H
/-- what a def gives: data, or a new list of its own -/
inductive Rt where
  | dat (R : PyData → Prop)
  | lst (R : List PyData → Prop)
def RtOk (K : PySem.W.Frag) (H0 M0 : Hp) (rt : VK) : Rt → Prop
  | .dat R => ∀ v d H' M', R d → Ext H0 M0 H' M' → Dq K M' v d → rt v H'
  | .lst R => ∀ p vs ds H' M', R ds → Ext H0 M0 H' M' → H0 p = none → M' p = none → H' p = some (.lst vs) → DqAll K M' vs ds → rt (.ref p) H'
/-- a block: from env it comes to an env of N, breaks with one of B, goes on with one of C, or returns data of R -/
def Ps (K : PySem.W.Frag) (R : Rt) (B C : EnvP) (t : TS) (env : List Sl) (N : EnvP) : Prop := ∀ (H0 M0 : Hp) (D : Ends) (σ : L2.St) (H M : Hp) (fps : List (List Addr)), Ok K H0 M0 env fps σ H M →
  RtOk K H0 M0 D.rt R → NxOk K H0 M0 D.nx N → NxOk K H0 M0 D.bk B → NxOk K H0 M0 D.ct C → t D σ H
section
variable {K : PySem.W.Frag} {R : Rt} {B C N : EnvP} {env : List Sl} {t u v : TS}
theorem s_assoc (h : Ps K R B C (tSeq t (tSeq u v)) env N) : Ps K R B C (tSeq (tSeq t u) v) env N := fun H0 M0 D σ H M fps k r n b c => h H0 M0 D σ H M fps k r n b c
theorem s_next (h : N env) : Ps K R B C tNext env N := fun H0 M0 D σ H M fps k r n b c => n env σ H M fps h k
theorem s_seq_next (h : Ps K R B C u env N) : Ps K R B C (tSeq tNext u) env N := fun H0 M0 D σ H M fps k r n b c => h H0 M0 D σ H M fps k r n b c
theorem s_brk (h : B env) : Ps K R B C tBreak env N := fun H0 M0 D σ H M fps k r n b c => b env σ H M fps h k
theorem s_cont (h : C env) : Ps K R B C tCont env N := fun H0 M0 D σ H M fps k r n b c => c env σ H M fps h k
theorem s_seq_brk (h : B env) : Ps K R B C (tSeq tBreak u) env N := fun H0 M0 D σ H M fps k r n b c => b env σ H M fps h k
theorem s_seq_cont (h : C env) : Ps K R B C (tSeq tCont u) env N := fun H0 M0 D σ H M fps k r n b c => c env σ H M fps h k
theorem s_ret {R : PyData → Prop} {te : TE} {d : PyData} (he : Pe K te env d) (hR : R d) : Ps K (.dat R) B C (tRet te) env N := fun H0 M0 D σ H M fps k r n b c =>
  he H0 M0 H M fps σ _ k fun v H1 M1 x1 dv => r v d H1 M1 hR (k.out.trans x1) dv
theorem s_seq_ret {R : PyData → Prop} {te : TE} {d : PyData} (he : Pe K te env d) (hR : R d) : Ps K (.dat R) B C (tSeq (tRet te) u) env N := fun H0 M0 D σ H M fps k r n b c =>
  he H0 M0 H M fps σ _ k fun v H1 M1 x1 dv => r v d H1 M1 hR (k.out.trans x1) dv
theorem s_set {i : Nat} {te : TE} {d : PyData} (he : Pe K te env d) (h : N (env.set i (.val d))) : Ps K R B C (tAsg te (gName i)) env N := fun H0 M0 D σ H M fps k r n b c =>
  he H0 M0 H M fps σ _ k fun v H1 M1 x1 dv => n _ _ _ _ _ h ((k.ext x1).setV dv)
theorem s_seq_set {i : Nat} {te : TE} {d : PyData} (he : Pe K te env d) (h : Ps K R B C u (env.set i (.val d)) N) : Ps K R B C (tSeq (tAsg te (gName i)) u) env N := fun H0 M0 D σ H M fps k r n b c =>
  he H0 M0 H M fps σ _ k fun v H1 M1 x1 dv => h H0 M0 D _ _ _ _ ((k.ext x1).setV dv) r n b c
theorem s_drop {te : TE} {d : PyData} (he : Pe K te env d) (h : N env) : Ps K R B C (tDrop te) env N := fun H0 M0 D σ H M fps k r n b c =>
  he H0 M0 H M fps σ _ k fun v H1 M1 x1 dv => n _ _ _ _ _ h (k.ext x1)
theorem s_seq_drop {te : TE} {d : PyData} (he : Pe K te env d) (h : Ps K R B C u env N) : Ps K R B C (tSeq (tDrop te) u) env N := fun H0 M0 D σ H M fps k r n b c =>
  he H0 M0 H M fps σ _ k fun v H1 M1 x1 dv => h H0 M0 D _ _ _ _ (k.ext x1) r n b c
theorem s_if {c : TT} {b : Bool} (hc : Pt K c env b) (ht : b = true → Ps K R B C t env N) (hu : b = false → Ps K R B C u env N) : Ps K R B C (tIfS c t u) env N := fun H0 M0 D σ H M fps k r n bb cc => by
  refine hc H0 M0 H M fps σ _ k fun H1 M1 x1 => ?_
  cases b with
  | true => exact ht rfl H0 M0 D σ H1 M1 fps (k.ext x1) r n bb cc
  | false => exact hu rfl H0 M0 D σ H1 M1 fps (k.ext x1) r n bb cc
theorem s_seq_if {c : TT} {b : Bool} (hc : Pt K c env b) (ht : b = true → Ps K R B C (tSeq t v) env N) (hu : b = false → Ps K R B C (tSeq u v) env N) : Ps K R B C (tSeq (tIfS c t u) v) env N := fun H0 M0 D σ H M fps k r n bb cc => by
  refine hc H0 M0 H M fps σ _ k fun H1 M1 x1 => ?_
  cases b with
  | true => exact ht rfl H0 M0 D σ H1 M1 fps (k.ext x1) r n bb cc
  | false => exact hu rfl H0 M0 D σ H1 M1 fps (k.ext x1) r n bb cc
/-- a cut: what holds behind t -/
theorem s_mid (Mid : EnvP) (h : Ps K R B C t env Mid) (h2 : ∀ e, Mid e → Ps K R B C u e N) : Ps K R B C (tSeq t u) env N := fun H0 M0 D σ H M fps k r n b c =>
  h H0 M0 { D with nx := u D } σ H M fps k r (fun e σ1 H1 M1 fps1 he k1 => h2 e he H0 M0 D σ1 H1 M1 fps1 k1 r n b c) b c
theorem s_aug {i : Nat} {te : TE} {ti : TIp} {d e c : PyData} (hi : env[i]? = some (.val d)) (he : Pe K te env e) (hr : Po K ti d e c) (h : N (env.set i (.val c))) : Ps K R B C (tAug i te ti) env N := fun H0 M0 D σ H M fps k r n b cc => by
  obtain ⟨v, e1, e2⟩ := k.sls.get hi
  refine ⟨v, e1, he H0 M0 H M fps σ _ k fun y H1 M1 x1 dy => hr H1 M1 v y _ x1.s (Dq.same x1.m e2) dy fun z H2 M2 x2 dz => n _ _ _ _ _ h (((k.ext x1).ext x2).setV dz)⟩
theorem s_seq_aug {i : Nat} {te : TE} {ti : TIp} {d e c : PyData} (hi : env[i]? = some (.val d)) (he : Pe K te env e) (hr : Po K ti d e c) (h : Ps K R B C u (env.set i (.val c)) N) : Ps K R B C (tSeq (tAug i te ti) u) env N := fun H0 M0 D σ H M fps k r n b cc => by
  obtain ⟨v, e1, e2⟩ := k.sls.get hi
  refine ⟨v, e1, he H0 M0 H M fps σ _ k fun y H1 M1 x1 dy => hr H1 M1 v y _ x1.s (Dq.same x1.m e2) dy fun z H2 M2 x2 dz => h H0 M0 D _ _ _ _ (((k.ext x1).ext x2).setV dz) r n b cc⟩
theorem o_ip {f : Int → Int → Int} {i j : Int} : Po K (ipI f) (.int i) (.int j) (.int (f i j)) := fun H M x y Q s hx hy q => ⟨i, j, dq_int hx, dq_int hy, q _ H M (Ext.refl s) (.int _)⟩
end
/-! ### own lists -/
def ownL (K : PySem.W.Frag) (ds : List PyData) : Sl := .res fun v M H fp => ∃ p vs, v = .ref p ∧ fp = [p] ∧ H p = some (.lst vs) ∧ DqAll K M vs ds
theorem stab_own {K : PySem.W.Frag} {ds : List PyData} : Stab (ownL K ds) := fun v M H M' H' fp m h ⟨p, vs, e1, e2, e3, e4⟩ => ⟨p, vs, e1, e2, by rw [h p (by rw [e2]; exact List.mem_singleton.mpr rfl)]; exact e3, DqAll.same m e4⟩
section
variable {K : PySem.W.Frag} {H0 M0 H M H' M' : Hp} {env : List Sl} {fps : List (List Addr)} {σ : L2.St}
theorem SlsOk.getR : ∀ {env : List Sl} {σ : L2.St} {fps : List (List Addr)} {i : Nat} {P}, SlsOk K M H env σ fps → env[i]? = some (.res P) → ∃ v fp, σ[i]? = some (some v) ∧ fps[i]? = some fp ∧ P v M H fp
  | _, _, _, 0, _, .cons a _, h => by
    have e := Option.some.inj h
    subst e
    obtain ⟨v, e2, e3⟩ := a
    exact ⟨v, _, by rw [e2]; rfl, rfl, e3⟩
  | _, _, _, i + 1, _, .cons _ b, h => SlsOk.getR b (i := i) (by simpa using h)
  | _, _, _, i, _, .nil, h => by simp at h
theorem mem_flat {fps : List (List Addr)} {i : Nat} {fp : List Addr} {a : Addr} (h : fps[i]? = some fp) (ha : a ∈ fp) : a ∈ fps.flatten := List.mem_flatten.mpr ⟨fp, List.mem_of_getElem? h, ha⟩
/-- the addresses of other slots are others -/
theorem flat_other : ∀ {fps : List (List Addr)} {i : Nat} {fp : List Addr} {a b : Addr}, fps.flatten.Nodup → fps[i]? = some fp → a ∈ fp → b ∈ (fps.set i []).flatten → b ≠ a
  | f :: fps, 0, fp, a, b, nd, h, ha, hb, z => by
    have e := Option.some.inj h
    subst e
    rw [List.set_cons_zero, List.flatten_cons, List.nil_append] at hb
    rw [List.flatten_cons, List.nodup_append] at nd
    exact nd.2.2 a ha b hb z.symm
  | f :: fps, i + 1, fp, a, b, nd, h, ha, hb, z => by
    have h' : fps[i]? = some fp := by simpa using h
    rw [List.set_cons_succ, List.flatten_cons, List.mem_append] at hb
    rw [List.flatten_cons, List.nodup_append] at nd
    rcases hb with hb | hb
    · exact nd.2.2 b hb a (mem_flat h' ha) z
    · exact flat_other nd.2.1 h' ha hb z
theorem SlsOk.monoAt {s : Sl} (k : Same M M') : ∀ {env : List Sl} {σ : L2.St} {fps : List (List Addr)} {i : Nat} {fp' : List Addr}, (∀ s ∈ env, Stab s) → (∀ a ∈ (fps.set i []).flatten, H' a = H a) → SlsOk K M H env σ fps → (∀ o, σ[i]? = some o → SlOk K M' H' s o fp') → SlsOk K M' H' (env.set i s) σ (fps.set i fp')
  | _, _, _, _, _, _, _, .nil, _ => .nil
  | _, _, _, 0, _, st, h, .cons a b, x => .cons (x _ rfl) (SlsOk.mono k (fun s hs => st s (List.mem_cons_of_mem _ hs)) (fun y hy => h y (by rw [List.set_cons_zero, List.flatten_cons, List.nil_append]; exact hy)) b)
  | _, _, _, i + 1, _, st, h, .cons a b, x => .cons (SlOk.mono (st _ List.mem_cons_self) k (fun y hy => h y (by rw [List.set_cons_succ, List.flatten_cons]; exact List.mem_append_left _ hy)) a)
      (SlsOk.monoAt k (fun s hs => st s (List.mem_cons_of_mem _ hs)) (fun y hy => h y (by rw [List.set_cons_succ, List.flatten_cons]; exact List.mem_append_right _ hy)) b (fun o ho => x o (by simpa using ho)))
theorem set_same_mem : ∀ {fps : List (List Addr)} {i : Nat} {fp : List Addr}, fps[i]? = some fp → fps.set i fp = fps
  | f :: fps, 0, fp, h => by rw [List.set_cons_zero, ← Option.some.inj h]
  | f :: fps, i + 1, fp, h => by rw [List.set_cons_succ, set_same_mem (by simpa using h)]
/-- an own list changes -/
theorem Ok.put {i : Nat} {ds es : List PyData} {p : Addr} {vs ws : List V} (k : Ok K H0 M0 env fps σ H M) (hp : σ[i]? = some (some (.ref p))) (hf : fps[i]? = some [p]) (hw : DqAll K M ws es) :
    Ok K H0 M0 (env.set i (ownL K es)) fps σ (upd H p (.lst ws)) M := by
  obtain ⟨e1, e2, e3⟩ := k.own p (mem_flat hf (List.mem_singleton.mpr rfl))
  have hs : Same H0 (upd H p (.lst ws)) := fun a u e => by
    rw [upd_ne (fun z => by rw [z, e1] at e; cases e)]; exact k.base a u e
  refine ⟨hs, fun a u e => ?_, k.grow, k.new, ?_, k.nd, fun a ha => ?_, stab_set stab_own k.stab⟩
  · rw [upd_ne (fun z => by rw [z, e2] at e; cases e)]; exact k.sub a u e
  · have := SlsOk.monoAt (s := ownL K es) (H' := upd H p (.lst ws)) (i := i) (fp' := [p]) (Same.refl M) k.stab (fun a ha => upd_ne (flat_other k.nd hf (List.mem_singleton.mpr rfl) ha)) k.sls (fun o ho => ?_)
    · rw [set_same_mem hf] at this; exact this
    · rw [hp] at ho
      exact ⟨.ref p, (Option.some.inj ho).symm, p, ws, rfl, rfl, upd_same, hw⟩
  · obtain ⟨f1, f2, f3⟩ := k.own a ha
    refine ⟨f1, f2, fun z => ?_⟩
    by_cases c : a = p
    · subst c; rw [upd_same] at z; cases z
    · rw [upd_ne c] at z; exact f3 z
theorem flat_memP {p : Addr} : ∀ {fps : List (List Addr)} {i : Nat} {a : Addr}, a ∈ (fps.set i [p]).flatten → a = p ∨ a ∈ (fps.set i []).flatten := by
    intro fps
    induction fps with
    | nil => intro i a h; exact nomatch h
    | cons f fps ih =>
      intro i a h
      cases i with
      | zero =>
        rw [List.set_cons_zero, List.flatten_cons, List.mem_append] at h
        rw [List.set_cons_zero, List.flatten_cons, List.nil_append]
        exact h.imp List.mem_singleton.mp id
      | succ i =>
        rw [List.set_cons_succ, List.flatten_cons, List.mem_append] at h
        rw [List.set_cons_succ, List.flatten_cons, List.mem_append]
        rcases h with h | h
        · exact .inr (.inl h)
        · exact (ih h).imp id .inr
theorem flat_ndP {p : Addr} : ∀ {fps : List (List Addr)} {i : Nat}, fps.flatten.Nodup → (∀ a ∈ fps.flatten, a ≠ p) → (fps.set i [p]).flatten.Nodup := by
    intro fps
    induction fps with
    | nil => intro i h _; exact h
    | cons f fps ih =>
      intro i h hne
      rw [List.flatten_cons, List.nodup_append] at h
      have hne2 : ∀ a ∈ fps.flatten, a ≠ p := fun a ha => hne a (by rw [List.flatten_cons]; exact List.mem_append_right _ ha)
      cases i with
      | zero =>
        rw [List.set_cons_zero, List.flatten_cons, List.nodup_append]
        exact ⟨List.pairwise_singleton _ _, h.2.1, fun x hx y hy e => hne2 y hy (by rw [← e]; exact List.mem_singleton.mp hx)⟩
      | succ i =>
        rw [List.set_cons_succ, List.flatten_cons, List.nodup_append]
        refine ⟨h.1, ih h.2.1 hne2, fun x hx y hy e => ?_⟩
        rcases flat_memP hy with z | z
        · exact hne x (by rw [List.flatten_cons]; exact List.mem_append_left _ hx) (e.trans z)
        · exact h.2.2 x hx y (flat_set z) e
/-- a new own list goes to slot i -/
theorem Ok.setO {i : Nat} {ds : List PyData} {p : Addr} {vs : List V} (k : Ok K H0 M0 env fps σ H M) (hp : H p = none) (hw : DqAll K M vs ds) (hi : i < σ.length) :
    Ok K H0 M0 (env.set i (ownL K ds)) (fps.set i [p]) (σ.set i (some (.ref p))) (upd H p (.lst vs)) M := by
  have mp := none_of k.sub hp
  have bp := none_of k.base hp
  have hfl : ∀ a ∈ fps.flatten, a ≠ p := fun a ha z => by
    subst z
    exact (k.own a ha).2.2 hp
  have hmem := @flat_memP p
  have hnd := @flat_ndP p
  refine ⟨fun a u e => ?_, fun a u e => ?_, k.grow, k.new, ?_, hnd k.nd hfl, fun a ha => ?_, stab_set stab_own k.stab⟩
  · rw [upd_ne (fun z => by rw [z, bp] at e; cases e)]; exact k.base a u e
  · rw [upd_ne (fun z => by rw [z, mp] at e; cases e)]; exact k.sub a u e
  · have h1 : SlsOk K M (upd H p (.lst vs)) env σ fps := SlsOk.mono (Same.refl M) k.stab (fun a ha => upd_ne (hfl a ha)) k.sls
    exact SlsOk.set (s := ownL K ds) (o := some (.ref p)) (fp := [p]) ⟨.ref p, rfl, p, vs, rfl, rfl, upd_same, hw⟩ i h1
  · rcases hmem ha with z | z
    · subst z; exact ⟨bp, mp, by rw [upd_same]; exact fun z => by cases z⟩
    · obtain ⟨f1, f2, f3⟩ := k.own a (flat_set z)
      refine ⟨f1, f2, ?_⟩
      rw [upd_ne (hfl a (flat_set z))]; exact f3
/-- an own list is handed over: it becomes data -/
theorem Ok.froz {i : Nat} {ds : List PyData} (k : Ok K H0 M0 env fps σ H M) (hi : env[i]? = some (ownL K ds)) : ∃ p vs, σ[i]? = some (some (.ref p)) ∧ H p = some (.lst vs) ∧ M p = none ∧ H0 p = none ∧ DqAll K M vs ds ∧ fps[i]? = some [p] ∧
    Ok K H0 M0 (env.set i (.val (.list ds))) (fps.set i []) σ H (upd M p (.lst vs)) := by
  obtain ⟨v, fp, e1, e2, p, vs, rfl, rfl, e3, e4⟩ := k.sls.getR hi
  obtain ⟨f1, f2, f3⟩ := k.own p (mem_flat e2 (List.mem_singleton.mpr rfl))
  have hM : Same M (upd M p (.lst vs)) := fun a u e => by
    rw [upd_ne (fun z => by rw [z, f2] at e; cases e)]; exact e
  refine ⟨p, vs, e1, e3, f2, f1, e4, e2, ⟨k.base, fun a u e => ?_, k.grow.trans hM, fun a u e => ?_, ?_, flat_nodup k.nd, fun a ha => ?_, stab_set (s := .val (.list ds)) True.intro k.stab⟩⟩
  · by_cases z : a = p
    · subst z; rw [upd_same] at e; rw [← Option.some.inj e]; exact e3
    · rw [upd_ne z] at e; exact k.sub a u e
  · by_cases z : a = p
    · subst z; exact .inr f1
    · rw [upd_ne z] at e; exact k.new a u e
  · refine SlsOk.monoAt (s := .val (.list ds)) hM k.stab (fun a ha => rfl) k.sls fun o ho => ?_
    rw [e1] at ho
    exact ⟨rfl, .ref p, (Option.some.inj ho).symm, .lst upd_same (DqAll.same hM e4)⟩
  · obtain ⟨g1, g2, g3⟩ := k.own a (flat_set ha)
    exact ⟨g1, by rw [upd_ne (flat_other k.nd e2 (List.mem_singleton.mpr rfl) ha)]; exact g2, g3⟩
end
section
variable {K : PySem.W.Frag} {R : Rt} {B C N : EnvP} {env : List Sl} {t u v : TS}
/-- from here on the own list at i is data -/
theorem s_froz (i : Nat) {ds : List PyData} (hi : env[i]? = some (ownL K ds)) (h : Ps K R B C t (env.set i (.val (.list ds))) N) : Ps K R B C t env N := fun H0 M0 D σ H M fps k r n b c => by
  obtain ⟨p, vs, e1, e2, e3, e4, e5, e6, k'⟩ := k.froz hi
  exact h H0 M0 D σ H _ _ k' r n b c
/-- i is forgotten -/
theorem s_forget (i : Nat) (h : Ps K R B C t (env.set i .unk) N) : Ps K R B C t env N := fun H0 M0 D σ H M fps k r n b c => by
  have k' := k.setU (i := i) (o := (σ[i]?).getD none)
  rw [show σ.set i ((σ[i]?).getD none) = σ by
    by_cases c : i < σ.length
    · rw [List.getElem?_eq_getElem c]; exact List.set_getElem_self c
    · exact List.set_eq_of_length_le (by omega)] at k'
  exact h H0 M0 D σ H M _ k' r n b c
theorem s_seq_new {i : Nat} {ta : TA} {ds : List PyData} (ha : Pa K ta env ds) (h : Ps K R B C u (env.set i (ownL K ds)) N) (hi : i < env.length) (hl : ds.length ≤ sizeLine) : Ps K R B C (tSeq (tAsg (tLst ta) (gName i)) u) env N := fun H0 M0 D σ H M fps k r n b c =>
  ha H0 M0 H M fps σ _ k fun xs H1 M1 x1 dx => ⟨by rw [DqAll.len dx]; exact hl, fun p hp => h H0 M0 D _ _ M1 _ ((k.ext x1).setO hp dx (by rw [← k.sls.len.1]; exact hi)) r n b c⟩
theorem s_app {i : Nat} {ds : List PyData} {te : TE} {d : PyData} (hi : env[i]? = some (ownL K ds)) (he : Pe K te env d) (hl : ds.length < sizeLine) (h : N (env.set i (ownL K (ds ++ [d])))) : Ps K R B C (tDrop (tBM K "list" rAppend (tVar i) (tCons te tNil))) env N := fun H0 M0 D σ H M fps k r n b c => by
  obtain ⟨v, fp, e1, e2, p, vs, rfl, rfl, e3, e4⟩ := k.sls.getR hi
  refine ⟨.ref p, e1, .inl ⟨rfl, vs, SqL.of e3⟩, he H0 M0 H M fps σ _ k fun y H1 M1 x1 dy => ?_⟩
  refine ⟨p, vs, y, rfl, rfl, x1.h _ _ e3, by rw [DqAll.len e4]; exact hl, n _ _ _ _ _ h ((k.ext x1).put (ds := ds) (vs := vs) e1 e2 (DqAll.app (DqAll.same x1.m e4) (.cons dy .nil)))⟩
theorem s_seq_app {i : Nat} {ds : List PyData} {te : TE} {d : PyData} (hi : env[i]? = some (ownL K ds)) (he : Pe K te env d) (hl : ds.length < sizeLine) (h : Ps K R B C u (env.set i (ownL K (ds ++ [d]))) N) : Ps K R B C (tSeq (tDrop (tBM K "list" rAppend (tVar i) (tCons te tNil))) u) env N :=
  s_mid (fun e => e = env.set i (ownL K (ds ++ [d]))) (s_app hi he hl rfl) fun e he => by rw [he]; exact h
/-- an own list is returned -/
theorem s_retO {R : List PyData → Prop} {i : Nat} {ds : List PyData} (hi : env[i]? = some (ownL K ds)) (hR : R ds) : Ps K (.lst R) B C (tRet (tVar i)) env N := fun H0 M0 D σ H M fps k r n b c => by
  obtain ⟨v, fp, e1, e2, p, vs, rfl, rfl, e3, e4⟩ := k.sls.getR hi
  obtain ⟨f1, f2, f3⟩ := k.own p (mem_flat e2 (List.mem_singleton.mpr rfl))
  exact ⟨.ref p, e1, r p vs ds H M hR k.out f1 f2 e3 e4⟩
theorem s_seq_retO {R : List PyData → Prop} {i : Nat} {ds : List PyData} (hi : env[i]? = some (ownL K ds)) (hR : R ds) : Ps K (.lst R) B C (tSeq (tRet (tVar i)) u) env N := fun H0 M0 D σ H M fps k r n b c => by
  obtain ⟨v, fp, e1, e2, p, vs, rfl, rfl, e3, e4⟩ := k.sls.getR hi
  obtain ⟨f1, f2, f3⟩ := k.own p (mem_flat e2 (List.mem_singleton.mpr rfl))
  exact ⟨.ref p, e1, r p vs ds H M hR k.out f1 f2 e3 e4⟩
/-- an expression that makes a new list -/
def Pf (K : PySem.W.Frag) (t : TE) (env : List Sl) (ds : List PyData) : Prop := ∀ (H0 M0 H M : Hp) (fps : List (List Addr)) (σ : L2.St) (Q : VK), Ok K H0 M0 env fps σ H M →
  (∀ p vs H' M', Ext H M H' M' → H p = none → M' p = none → H' p = some (.lst vs) → DqAll K M' vs ds → Q (.ref p) H') → t σ H Q
/-- a def's promise: told data to a new list -/
def PFO (K : PySem.W.Frag) (R : List PyData → List PyData → Prop) : Sp := fun vs H Q _ => ∃ M ds es, Same M H ∧ DqAll K M vs ds ∧ R ds es ∧ ∀ p ws H' M', Ext H M H' M' → H p = none → M' p = none → H' p = some (.lst ws) → DqAll K M' ws es → Q (.ref p) H'
theorem f_call {R : List PyData → List PyData → Prop} {E : XK} {ta : TA} {ds es : List PyData} (ha : Pa K ta env ds) (hr : R ds es) : Pf K (tCall (PFO K R) [] E ta) env es := fun H0 M0 H M fps σ Q k q =>
  ha H0 M0 H M fps σ _ k fun xs H1 M1 x1 dx => ⟨M1, ds, es, x1.s, by rw [List.append_nil]; exact dx, hr, fun p ws H2 M2 x2 a1 a2 a3 a4 => q p ws H2 M2 (x1.trans x2) (none_of x1.h a1) a2 a3 a4⟩
theorem froz_ext {H M H' M' : Hp} {p : Addr} {vs : List V} {ds : List PyData} (x : Ext H M H' M') (h1 : H p = none) (h2 : M' p = none) (h3 : H' p = some (.lst vs)) (h4 : DqAll K M' vs ds) : Ext H M H' (upd M' p (.lst vs)) ∧ Dq K (upd M' p (.lst vs)) (.ref p) (.list ds) := by
  have hM : Same M' (upd M' p (.lst vs)) := fun a u e => by
    rw [upd_ne (fun z => by rw [z, h2] at e; cases e)]; exact e
  refine ⟨⟨x.h, x.m.trans hM, fun a u e => ?_, fun a u e => ?_⟩, .lst upd_same (DqAll.same hM h4)⟩
  · by_cases z : a = p
    · subst z; rw [upd_same] at e; rw [← Option.some.inj e]; exact h3
    · rw [upd_ne z] at e; exact x.s a u e
  · by_cases z : a = p
    · subst z; exact .inr h1
    · rw [upd_ne z] at e; exact x.n a u e
/-- a new list as data -/
theorem e_of {te : TE} {ds : List PyData} (h : Pf K te env ds) : Pe K te env (.list ds) := fun H0 M0 H M fps σ Q k q =>
  h H0 M0 H M fps σ Q k fun p vs H' M' x h1 h2 h3 h4 => by
    obtain ⟨a, b⟩ := froz_ext x h1 h2 h3 h4
    exact q _ H' _ a b
theorem f_lst {ta : TA} {ds : List PyData} (ha : Pa K ta env ds) (hl : ds.length ≤ sizeLine) : Pf K (tLst ta) env ds := fun H0 M0 H M fps σ Q k q =>
  ha H0 M0 H M fps σ _ k fun xs H1 M1 x1 dx => ⟨by rw [DqAll.len dx]; exact hl, fun p hp => by
    have mp := none_of x1.s hp
    refine q p xs _ M1 ⟨fun a u e => ?_, x1.m, fun a u e => ?_, x1.n⟩ (none_of x1.h hp) mp upd_same dx
    · have e' := x1.h a u e
      rw [upd_ne (fun z => by rw [z, hp] at e'; cases e')]; exact e'
    · rw [upd_ne (fun z => by rw [z, mp] at e; cases e)]; exact x1.s a u e⟩
theorem f_cat {ta tb : TE} {ds es : List PyData} (ha : Pe K ta env (.list ds)) (hb : Pe K tb env (.list es)) (hl : ds.length + es.length ≤ sizeLine) : Pf K (tOp rCat ta tb) env (ds ++ es) := fun H0 M0 H M fps σ Q k q =>
  ha H0 M0 H M fps σ _ k fun x H1 M1 x1 dx => hb H0 M0 H1 M1 fps σ _ (k.ext x1) fun y H2 M2 x2 dy => by
    obtain ⟨a, xs, rfl, h1, h2⟩ := dq_lstI (Dq.same x2.m dx)
    obtain ⟨b, ys, rfl, h3, h4⟩ := dq_lstI dy
    have x12 := x1.trans x2
    refine ⟨a, b, xs, ys, rfl, rfl, x2.s _ _ h1, x2.s _ _ h3, by rw [DqAll.len h2, DqAll.len h4]; exact hl, fun p hp => ?_⟩
    have mp := none_of x2.s hp
    refine q p _ _ M2 ⟨fun a u e => ?_, x12.m, fun a u e => ?_, x12.n⟩ (none_of x12.h hp) mp upd_same (DqAll.app h2 h4)
    · have e' := x12.h a u e
      rw [upd_ne (fun z => by rw [z, hp] at e'; cases e')]; exact e'
    · rw [upd_ne (fun z => by rw [z, mp] at e; cases e)]; exact x12.s a u e
/-- a new list goes to a name: it is the def's own -/
theorem s_seq_setF {i : Nat} {te : TE} {ds : List PyData} (he : Pf K te env ds) (h : Ps K R B C u (env.set i (ownL K ds)) N) (hi : i < env.length) : Ps K R B C (tSeq (tAsg te (gName i)) u) env N := fun H0 M0 D σ H M fps k r n b c =>
  he H0 M0 H M fps σ _ k fun p vs H1 M1 x1 h1 h2 h3 h4 => by
    have nf : ∀ a ∈ fps.flatten, a ≠ p := fun a ha z => (k.own a ha).2.2 (by rw [z]; exact h1)
    refine h H0 M0 D _ _ M1 (fps.set i [p]) ?_ r n b c
    have k1 := k.ext x1
    have z1 : ∀ a ∈ (fps.set i [p]).flatten, a = p ∨ a ∈ fps.flatten := fun a ha => (flat_memP ha).imp id flat_set
    have z2 := flat_ndP (p := p) (i := i) k.nd nf
    exact ⟨k1.base, k1.sub, k1.grow, k1.new, SlsOk.set (s := ownL K ds) (o := some (.ref p)) (fp := [p]) ⟨.ref p, rfl, p, vs, rfl, rfl, h3, h4⟩ i k1.sls, z2, fun a ha => (z1 a ha).elim (fun e => by rw [e]; exact ⟨none_of k.base h1, h2, by rw [h3]; exact fun z => by cases z⟩) (k1.own a), stab_set stab_own k1.stab⟩
theorem s_seq_new0 {i : Nat} (hi : i < env.length) (h : Ps K R B C u (env.set i (ownL K [])) N) : Ps K R B C (tSeq (tAsg (tLst tNil) (gName i)) u) env N :=
  s_seq_setF (f_lst a_nil (by decide)) h hi
theorem s_seq_callF {i : Nat} {Rl : List PyData → List PyData → Prop} {E : XK} {ta : TA} {ds es : List PyData} (ha : Pa K ta env ds) (hr : Rl ds es) (hi : i < env.length) (h : Ps K R B C u (env.set i (ownL K es)) N) : Ps K R B C (tSeq (tAsg (tCall (PFO K Rl) [] E ta) (gName i)) u) env N :=
  s_seq_setF (f_call ha hr) h hi
/-- data without lists in it -/
inductive Fl : PyData → Prop
  | non : Fl .none
  | bl (b : Bool) : Fl (.bool b)
  | int (i : Int) : Fl (.int i)
  | str (x : Str) : Fl (.str x)
  | tup {ds : List PyData} : (∀ d ∈ ds, Fl d) → Fl (.tuple ds)
mutual
theorem Dq.less {M M' : Hp} {p : Addr} {vs : List V} (hp : M p = some (.lst vs)) (h : ∀ a u, a ≠ p → M a = some u → M' a = some u) : ∀ {v : V} {d : PyData}, Dq K M v d → Fl d → Dq K M' v d
  | _, _, .non, _ => .non
  | _, _, .bl b, _ => .bl b
  | _, _, .int i, _ => .int i
  | _, _, .str x, _ => .str x
  | _, _, .lst _ _, f => nomatch f
  | _, _, .dct _ _, f => nomatch f
  | _, _, .tup s a, f => .tup (by
      rcases s with (s | ⟨o, s⟩) | s
      · exact .inl (.inl (h _ _ (fun z => by rw [z, hp] at s; cases s) s))
      · exact .inl (.inr ⟨o, h _ _ (fun z => by rw [z, hp] at s; cases s) s⟩)
      · exact .inr s) (DqAll.less hp h a (match f with | .tup g => g))
theorem DqAll.less {M M' : Hp} {p : Addr} {vs : List V} (hp : M p = some (.lst vs)) (h : ∀ a u, a ≠ p → M a = some u → M' a = some u) : ∀ {vs : List V} {ds : List PyData}, DqAll K M vs ds → (∀ d ∈ ds, Fl d) → DqAll K M' vs ds
  | _, _, .nil, _ => .nil
  | _, _, .cons a b, f => .cons (Dq.less hp h a (f _ List.mem_cons_self)) (DqAll.less hp h b fun d hd => f d (List.mem_cons_of_mem _ hd))
end
open Classical in
/-- an own list is read: the expression is reckoned as if it were data -/
theorem e_read (i : Nat) {te : TE} {ds : List PyData} {d : PyData} (hi : env[i]? = some (ownL K ds)) (h : Pe K te (env.set i (.val (.list ds))) d) (f : Fl d) : Pe K te env d := fun H0 M0 H M fps σ Q k q => by
  obtain ⟨p, vs, e1, e2, e3, e4, e5, e6, k'⟩ := k.froz hi
  refine h H0 M0 H _ _ σ Q k' fun v H' M' x dv => ?_
  have hp' : M' p = some (.lst vs) := x.m _ _ upd_same
  refine q v H' (fun a => if a = p then none else M' a) ⟨x.h, fun a u e => ?_, fun a u e => ?_, fun a u e => ?_⟩ (Dq.less hp' (fun a u n e => by show (if a = p then none else M' a) = _; rw [if_neg n]; exact e) dv f)
  · have n : a ≠ p := fun z => by rw [z, e3] at e; cases e
    show (if a = p then none else M' a) = _
    rw [if_neg n]; exact x.m a u (by rw [upd_ne n]; exact e)
  · by_cases c : a = p
    · rw [if_pos c] at e; cases e
    · rw [if_neg c] at e; exact x.s a u e
  · by_cases c : a = p
    · rw [if_pos c] at e; cases e
    · rw [if_neg c] at e
      rcases x.n a u e with g | g
      · rw [upd_ne c] at g; exact .inl g
      · exact .inr g
theorem t_read (i : Nat) {te : TT} {ds : List PyData} {b : Bool} (hi : env[i]? = some (ownL K ds)) (h : Pt K te (env.set i (.val (.list ds))) b) : Pt K te env b := fun H0 M0 H M fps σ Q k q => by
  obtain ⟨p, vs, e1, e2, e3, e4, e5, e6, k'⟩ := k.froz hi
  refine h H0 M0 H _ _ σ Q k' fun H' M' x => ?_
  refine q H' (fun a => if a = p then none else M' a) ⟨x.h, fun a u e => ?_, fun a u e => ?_, fun a u e => ?_⟩
  · have n : a ≠ p := fun z => by rw [z, e3] at e; cases e
    show (if a = p then none else M' a) = _
    rw [if_neg n]; exact x.m a u (by rw [upd_ne n]; exact e)
  · by_cases c : a = p
    · rw [if_pos c] at e; cases e
    · rw [if_neg c] at e; exact x.s a u e
  · by_cases c : a = p
    · rw [if_pos c] at e; cases e
    · rw [if_neg c] at e
      rcases x.n a u e with g | g
      · rw [upd_ne c] at g; exact .inl g
      · exact .inr g
end
end Y


/-! ### targets, walks, loops, comprehensions, slices -/
namespace Y
open PySem L2
section
variable {K : PySem.W.Frag} {H0 M0 H M H' M' : Hp} {env : List Sl} {fps : List (List Addr)} {σ : L2.St}
/-- the view as the new start -/
theorem Ok.re (k : Ok K H0 M0 env fps σ H M) : Ok K H0 M env fps σ H M := ⟨k.base, k.sub, Same.refl M, fun _ _ e => .inl e, k.sls, k.nd, k.own, k.stab⟩
theorem Ok.back {M1 : Hp} {env1 : List Sl} {fps1 : List (List Addr)} {σ1 : L2.St} {H1 : Hp} (k : Ok K H0 M0 env fps σ H M) (k1 : Ok K H0 M env1 fps1 σ1 H1 M1) : Ok K H0 M0 env1 fps1 σ1 H1 M1 :=
  ⟨k1.base, k1.sub, k.grow.trans k1.grow, fun a o e => (k1.new a o e).elim (k.new a o) .inr, k1.sls, k1.nd, k1.own, k1.stab⟩
theorem RtOk.re {rt : VK} {R : Rt} (k : Ok K H0 M0 env fps σ H M) (r : RtOk K H0 M0 rt R) : RtOk K H0 M rt R := by
  cases R with
  | dat R => exact fun v d H' M' hR x dv => r v d H' M' hR ⟨x.h, k.grow.trans x.m, x.s, fun a o e => (x.n a o e).elim (k.new a o) .inr⟩ dv
  | lst R => exact fun p vs ds H' M' hR x => r p vs ds H' M' hR ⟨x.h, k.grow.trans x.m, x.s, fun a o e => (x.n a o e).elim (k.new a o) .inr⟩
/-- a thing beside: neither in the view nor owned -/
theorem Ok.side {p : Addr} {o : HO} (k : Ok K H0 M0 env fps σ H M) (h0 : H0 p = none) (hm : M p = none) (hf : p ∉ fps.flatten) : Ok K H0 M0 env fps σ (upd H p o) M := by
  have ne : ∀ a ∈ fps.flatten, a ≠ p := fun a ha z => hf (by rw [← z]; exact ha)
  refine ⟨fun a u e => ?_, fun a u e => ?_, k.grow, k.new, SlsOk.mono (Same.refl M) k.stab (fun a ha => upd_ne (ne a ha)) k.sls, k.nd, fun a ha => ?_, k.stab⟩
  · rw [upd_ne (fun z => by rw [z, h0] at e; cases e)]; exact k.base a u e
  · rw [upd_ne (fun z => by rw [z, hm] at e; cases e)]; exact k.sub a u e
  · obtain ⟨f1, f2, f3⟩ := k.own a ha
    exact ⟨f1, f2, by rw [upd_ne (ne a ha)]; exact f3⟩
end
/-! targets -/
def Pg (K : PySem.W.Frag) (g : TG) (env : List Sl) (d : PyData) (env' : List Sl) (is : List Nat) : Prop := ∀ (H0 M0 H M : Hp) (fps : List (List Addr)) (σ : L2.St) (v : V) (Q : L2.St → Hp → Prop), Ok K H0 M0 env fps σ H M → Dq K M v d →
  (∀ σ' fps', Ok K H0 M0 env' fps' σ' H M → (∀ j, j ∉ is → σ'[j]? = σ[j]?) → σ'.length = σ.length → (∀ a ∈ fps'.flatten, a ∈ fps.flatten) → Q σ' H) → g v σ H Q
def Pgs (K : PySem.W.Frag) (g : TGs) (env : List Sl) (ds : List PyData) (env' : List Sl) (is : List Nat) : Prop := ∀ (H0 M0 H M : Hp) (fps : List (List Addr)) (σ : L2.St) (vs : List V) (Q : L2.St → Hp → Prop), Ok K H0 M0 env fps σ H M → DqAll K M vs ds →
  (∀ σ' fps', Ok K H0 M0 env' fps' σ' H M → (∀ j, j ∉ is → σ'[j]? = σ[j]?) → σ'.length = σ.length → (∀ a ∈ fps'.flatten, a ∈ fps.flatten) → Q σ' H) → g vs σ H Q
section
variable {K : PySem.W.Frag} {env : List Sl}
theorem g_name {i : Nat} {d : PyData} : Pg K (gName i) env d (env.set i (.val d)) [i] := fun H0 M0 H M fps σ v Q k hv q =>
  q _ _ (k.setV hv) (fun j hj => List.getElem?_set_ne (fun e => hj (by rw [e]; exact List.mem_singleton.mpr rfl))) List.length_set (fun a ha => flat_set ha)
theorem gs_nil : Pgs K gNil env [] env [] := fun H0 M0 H M fps σ vs Q k hv q => ⟨dqA_nil hv, q σ fps k (fun _ _ => rfl) rfl (fun _ h => h)⟩
theorem gs_cons {g : TG} {gs : TGs} {d : PyData} {ds : List PyData} {env1 env2 : List Sl} {is1 is2 : List Nat} (h1 : Pg K g env d env1 is1) (h2 : Pgs K gs env1 ds env2 is2) : Pgs K (gCons g gs) env (d :: ds) env2 (is1 ++ is2) := fun H0 M0 H M fps σ vs Q k hv q => by
  cases hv with | cons a b =>
  refine ⟨_, _, rfl, h1 H0 M0 H M fps σ _ _ k a fun σ1 fps1 k1 e1 l1 f1 => h2 H0 M0 H M fps1 σ1 _ _ k1 b fun σ2 fps2 k2 e2 l2 f2 => q σ2 fps2 k2 (fun j hj => ?_) (l2.trans l1) fun a ha => f1 a (f2 a ha)⟩
  rw [List.mem_append, not_or] at hj
  exact (e2 j hj.2).trans (e1 j hj.1)
theorem g_tup {n : Nat} {gs : TGs} {ds : List PyData} {env' : List Sl} {is : List Nat} (h : Pgs K gs env ds env' is) (hn : ds.length = n) : Pg K (gTup K n gs) env (.tuple ds) env' is := fun H0 M0 H M fps σ v Q k hv q => by
  obtain ⟨a, xs, rfl, h1, h2⟩ := dq_tupI hv
  exact ⟨a, xs, rfl, Same.sqT k.sub h1, by rw [DqAll.len h2]; exact hn, h H0 M0 H M fps σ xs Q k h2 q⟩
/-- target = e -/
theorem s_asg {R : Rt} {B C N : EnvP} {te : TE} {g : TG} {d : PyData} {env' : List Sl} {is : List Nat} (he : Pe K te env d) (hg : Pg K g env d env' is) (h : N env') : Ps K R B C (tAsg te g) env N := fun H0 M0 D σ H M fps k r n b c =>
  he H0 M0 H M fps σ _ k fun v H1 M1 x1 dv => hg H0 M0 H1 M1 fps σ v _ (k.ext x1) dv fun σ' fps' k' _ _ _ => n _ _ _ _ _ h k'
theorem s_seq_asg {R : Rt} {B C N : EnvP} {u : TS} {te : TE} {g : TG} {d : PyData} {env' : List Sl} {is : List Nat} (he : Pe K te env d) (hg : Pg K g env d env' is) (h : Ps K R B C u env' N) : Ps K R B C (tSeq (tAsg te g) u) env N := fun H0 M0 D σ H M fps k r n b c =>
  he H0 M0 H M fps σ _ k fun v H1 M1 x1 dv => hg H0 M0 H1 M1 fps σ v _ (k.ext x1) dv fun σ' fps' k' _ _ _ => h H0 M0 D _ _ _ _ k' r n b c
end
/-! walks -/
def Wk (K : PySem.W.Frag) (J : It) (ys : List PyData) (M0 : Hp) : Prop := ∃ (G : Hp → Prop) (Y : Nat → Hp → V → Hp → Prop), Walk J ys.length G Y ∧ (∀ H M, Same M0 M → Same M H → G H) ∧
  ∀ i H M x H', i < ys.length → Same M0 M → Same M H → Y i H x H' → ∃ M' d, Ext H M H' M' ∧ ys[i]? = some d ∧ Dq K M' x d
def Pw (K : PySem.W.Frag) (wi : TI) (env : List Sl) (ys : List PyData) : Prop := ∀ (H0 M0 H M : Hp) (fps : List (List Addr)) (σ : L2.St) (Q : It → Hp → Prop), Ok K H0 M0 env fps σ H M →
  (∀ J H' M', Ext H M H' M' → Wk K J ys M' → Q J H') → wi σ H Q
section
variable {K : PySem.W.Frag} {env : List Sl}
theorem w_list {te : TE} {ds : List PyData} (he : Pe K te env (.list ds)) : Pw K (iList K te) env ds := fun H0 M0 H M fps σ Q k q => by
  refine he H0 M0 H M fps σ _ k fun v H1 M1 x1 dv => ?_
  obtain ⟨a, xs, rfl, h1, h2⟩ := dq_lstI dv
  refine ⟨a, rfl, ⟨xs, SqL.of (x1.s _ _ h1)⟩, q _ _ M1 x1 ⟨_, _, by rw [← DqAll.len h2]; exact walk_list (xs := xs), fun H M a b => SqL.of (b _ _ (a _ _ h1)), ?_⟩⟩
  rintro i H M x H' hi a b ⟨rfl, hx⟩
  obtain ⟨d, e1, e2⟩ := DqAll.getV h2 hx
  exact ⟨M, d, Ext.refl b, e1, Dq.same a e2⟩
theorem w_tup {te : TE} {ds : List PyData} (he : Pe K te env (.tuple ds)) : Pw K (iTup K te) env ds := fun H0 M0 H M fps σ Q k q => by
  refine he H0 M0 H M fps σ _ k fun v H1 M1 x1 dv => ?_
  obtain ⟨a, xs, rfl, h1, h2⟩ := dq_tupI dv
  refine ⟨a, rfl, ⟨xs, Same.sqT x1.s h1⟩, q _ _ M1 x1 ⟨_, _, by rw [← DqAll.len h2]; exact walk_tup (xs := xs), fun H M a b => Same.sqT b (Same.sqT a h1), ?_⟩⟩
  rintro i H M x H' hi a b ⟨rfl, hx⟩
  obtain ⟨d, e1, e2⟩ := DqAll.getV h2 hx
  exact ⟨M, d, Ext.refl b, e1, Dq.same a e2⟩

abbrev encS (c : Nat) : PyData := .str ⟨#[c]⟩
theorem w_str {te : TE} {z : Str} (he : Pe K te env (.str z)) : Pw K (iStr te) env (z.cps.toList.map encS) := fun H0 M0 H M fps σ Q k q => by
  refine he H0 M0 H M fps σ _ k fun v H1 M1 x1 dv => ?_
  rw [dq_str dv]
  refine ⟨z, rfl, q _ _ M1 x1 ⟨_, _, by rw [List.length_map, Array.length_toList]; exact walk_str (z := z), fun _ _ _ _ => True.intro, ?_⟩⟩
  rintro i H M x H' hi a b ⟨rfl, c, e1, rfl⟩
  refine ⟨M, .str ⟨#[c]⟩, Ext.refl b, ?_, .str _⟩
  rw [List.getElem?_map, Array.getElem?_toList, e1]; rfl
abbrev encR (lo : Int) (i : Nat) : PyData := .int (lo + (i : Nat))
abbrev intsD (lo : Int) (n : Nat) : List PyData := (List.range n).map (encR lo)
theorem ints_len (lo : Int) (n : Nat) : (intsD lo n).length = n := by unfold intsD; rw [List.length_map, List.length_range]
theorem wk_range {lo : Int} {n : Nat} {M0 : Hp} : Wk K (Itr lo n) (intsD lo n) M0 := by
  refine ⟨_, _, by rw [ints_len]; exact walk_range, fun _ _ _ _ => True.intro, ?_⟩
  rintro i H M x H' hi a b ⟨rfl, rfl⟩
  rw [ints_len] at hi
  refine ⟨M, .int (lo + (i : Nat)), Ext.refl b, ?_, .int _⟩
  unfold intsD
  rw [List.getElem?_map, List.getElem?_range hi]; rfl
theorem w_range1 {ta : TA} {j : Int} (ha : Pa K ta env [.int j]) (h1 : -(2 ^ 62) ≤ j) (h2 : j < 2 ^ 62) : Pw K (iRng1 ta) env (intsD 0 j.toNat) := fun H0 M0 H M fps σ Q k q => by
  refine ha H0 M0 H M fps σ _ k fun vs H1 M1 x1 dv => ?_
  obtain ⟨v, rfl, h⟩ := dqA_one dv
  rw [dq_int h]
  exact ⟨j, rfl, h1, h2, q _ _ M1 x1 wk_range⟩
theorem w_range2 {ta : TA} {i j : Int} (ha : Pa K ta env [.int i, .int j]) (h1 : -(2 ^ 62) ≤ i) (h2 : i < 2 ^ 62) (h3 : -(2 ^ 62) ≤ j) (h4 : j < 2 ^ 62) : Pw K (iRng2 ta) env (intsD i (j - i).toNat) := fun H0 M0 H M fps σ Q k q => by
  refine ha H0 M0 H M fps σ _ k fun vs H1 M1 x1 dv => ?_
  obtain ⟨v, w, rfl, h, h'⟩ := dqA_two dv
  rw [dq_int h, dq_int h']
  exact ⟨i, j, rfl, ⟨h1, h2, h3, h4⟩, q _ _ M1 x1 wk_range⟩
/-- a new pair in each turn -/
theorem wk_pair {J : It} {n : Nat} {G : Hp → Prop} {xs ys : Nat → Option V} {ds : List PyData} {M0 : Hp} (w : Walk J n G (YPair xs ys)) (hn : ds.length = n) (hG : ∀ H M, Same M0 M → Same M H → G H)
    (h : ∀ i x y, xs i = some x → ys i = some y → ∃ d e, ds[i]? = some (.tuple [d, e]) ∧ Dq K M0 x d ∧ Dq K M0 y e) : Wk K J ds M0 := by
  refine ⟨G, _, by rw [hn]; exact w, hG, ?_⟩
  rintro i H M x H' hi a b ⟨T, u, v, rfl, hT, rfl, e1, e2⟩
  obtain ⟨d, e, h1, h2, h3⟩ := h i u v e1 e2
  have x1 := Ext.laid b (o := .tup [u, v]) hT
  exact ⟨_, _, x1, h1, .tup (SqT.of upd_same) (.cons (Dq.same (a.trans x1.m) h2) (.cons (Dq.same (a.trans x1.m) h3) .nil))⟩
def enums (ds : List PyData) : List PyData := (List.range ds.length).zipWith (fun i d => .tuple [.int (i : Nat), d]) ds
theorem enums_len (ds : List PyData) : (enums ds).length = ds.length := by unfold enums; simp
theorem enums_get {ds : List PyData} {i : Nat} {d : PyData} (h : ds[i]? = some d) : (enums ds)[i]? = some (.tuple [.int (i : Nat), d]) := by
  have hi : i < ds.length := (List.getElem?_eq_some_iff.mp h).1
  unfold enums
  rw [List.getElem?_zipWith, List.getElem?_range hi, h]
theorem w_enum {ta : TA} {ds : List PyData} (ha : Pa K ta env [.list ds]) : Pw K (iEnum K ta) env (enums ds) := fun H0 M0 H M fps σ Q k q => by
  refine ha H0 M0 H M fps σ _ k fun vs H1 M1 x1 dv => ?_
  obtain ⟨v, rfl, h⟩ := dqA_one dv
  obtain ⟨a, xs, rfl, h1, h2⟩ := dq_lstI h
  refine ⟨a, xs, rfl, SqL.of (x1.s _ _ h1), q _ _ M1 x1 (wk_pair (walk_enum (xs := xs)) (by rw [enums_len, DqAll.len h2]) (fun H M a b => SqL.of (b _ _ (a _ _ h1))) ?_)⟩
  intro i x y e1 e2
  obtain ⟨d, f1, f2⟩ := DqAll.getV h2 e2
  rw [← Option.some.inj e1]
  exact ⟨_, d, enums_get f1, .int _, f2⟩
def zips (ds es : List PyData) : List PyData := ds.zipWith (fun d e => .tuple [d, e]) es
theorem zips_get {ds es : List PyData} {i : Nat} {d e : PyData} (h : ds[i]? = some d) (h2 : es[i]? = some e) : (zips ds es)[i]? = some (.tuple [d, e]) := by
  unfold zips
  rw [List.getElem?_zipWith, h, h2]
theorem w_zip {ta : TA} {ds es : List PyData} (ha : Pa K ta env [.list ds, .list es]) : Pw K (iZip K ta) env (zips ds es) := fun H0 M0 H M fps σ Q k q => by
  refine ha H0 M0 H M fps σ _ k fun vs H1 M1 x1 dv => ?_
  obtain ⟨v, w, rfl, h, h'⟩ := dqA_two dv
  obtain ⟨a, xs, rfl, h1, h2⟩ := dq_lstI h
  obtain ⟨b, ys, rfl, h3, h4⟩ := dq_lstI h'
  refine ⟨a, b, xs, ys, rfl, SqL.of (x1.s _ _ h1), SqL.of (x1.s _ _ h3), q _ _ M1 x1 (wk_pair (walk_zip (xs := xs) (ys := ys) rfl) (by unfold zips; rw [List.length_zipWith, DqAll.len h2, DqAll.len h4]) (fun H M a b => ⟨SqL.of (b _ _ (a _ _ h1)), SqL.of (b _ _ (a _ _ h3))⟩) ?_)⟩
  intro i x y e1 e2
  obtain ⟨d, f1, f2⟩ := DqAll.getV h2 e1
  obtain ⟨e, f3, f4⟩ := DqAll.getV h4 e2
  exact ⟨d, e, zips_get f1 f3, f2, f4⟩
end
/-! loops -/
section
variable {K : PySem.W.Frag} {R : Rt} {B C N : EnvP} {env : List Sl}
theorem s_for {wi : TI} {g : TG} {tb : TS} {α : Type} {xs : List α} {enc : α → PyData} (I : Nat → EnvP) (BP : EnvP) (hw : Pw K wi env (xs.map enc)) (h0 : I 0 env)
    (hs : ∀ (i : Nat) (a : α) (env1 : List Sl), xs[i]? = some a → I i env1 → ∃ (env2 : List Sl) (is : List Nat), Pg K g env1 (enc a) env2 is ∧ Ps K R BP (I (i + 1)) tb env2 (I (i + 1))) (hd : ∀ e, I xs.length e → N e) (hb : ∀ e, BP e → N e) : Ps K R B C (tFor wi g tb) env N := fun H0 M0 D σ H M fps k r n b c => by
  refine hw H0 M0 H M fps σ _ k fun J H1 M1 x1 ⟨G, Y, w, hG, hY⟩ => ?_
  rw [List.length_map] at w hY
  have k1 := k.ext x1
  have r1 := r.re k1
  refine for_it w (fun i σ H => ∃ e f M2, I i e ∧ Ok K H0 M1 e f σ H M2) ⟨env, fps, M1, h0, k1.re⟩ ?_ ?_ ?_
  · rintro i σ H hi ⟨e, f, M2, _, k2⟩
    exact hG H M2 k2.grow k2.sub
  · rintro i x σ2 H2 H3 hi ⟨e, f, M2, hI, k2⟩ y
    obtain ⟨M3, d, x3, hd', dv⟩ := hY i H2 M2 x H3 hi k2.grow k2.sub y
    rw [List.getElem?_map] at hd'
    cases ca : xs[i]? with
    | none => rw [ca] at hd'; cases hd'
    | some a =>
    rw [ca] at hd'
    have ed : enc a = d := Option.some.inj hd'
    subst ed
    obtain ⟨env2, is, hg, hbody⟩ := hs i a e ca hI
    refine hg H0 M1 H3 M3 f σ2 x _ (k2.ext x3) dv fun σ4 f4 k4 _ _ _ => ?_
    refine hbody H0 M1 _ σ4 H3 M3 f4 k4 r1 ?_ ?_ ?_
    · exact fun e5 σ5 H5 M5 f5 he5 k5 => ⟨e5, f5, M5, he5, k5⟩
    · exact fun e5 σ5 H5 M5 f5 he5 k5 => n e5 σ5 H5 M5 f5 (hb e5 he5) (k1.back k5)
    · exact fun e5 σ5 H5 M5 f5 he5 k5 => ⟨e5, f5, M5, he5, k5⟩
  · rintro σ2 H2 ⟨e, f, M2, hI, k2⟩
    exact n e σ2 H2 M2 f (hd e hI) (k1.back k2)
theorem s_seq_for {wi : TI} {g : TG} {tb u : TS} {α : Type} {xs : List α} {enc : α → PyData} (I : Nat → EnvP) (BP : EnvP) (hw : Pw K wi env (xs.map enc)) (h0 : I 0 env)
    (hs : ∀ (i : Nat) (a : α) (env1 : List Sl), xs[i]? = some a → I i env1 → ∃ (env2 : List Sl) (is : List Nat), Pg K g env1 (enc a) env2 is ∧ Ps K R BP (I (i + 1)) tb env2 (I (i + 1))) (hd : ∀ e, I xs.length e → Ps K R B C u e N) (hb : ∀ e, BP e → Ps K R B C u e N) : Ps K R B C (tSeq (tFor wi g tb) u) env N :=
  s_mid (fun e => I xs.length e ∨ BP e) (s_for I BP hw h0 hs (fun _ h => .inl h) (fun _ h => .inr h)) fun e h => h.elim (hd e) (hb e)
theorem s_while {c : TT} {tb : TS} (I : Nat → EnvP) (m : Nat) (h0 : I m env)
    (hs : ∀ m e, I m e → ∃ b, Pt K c e b ∧ (b = true → Ps K R N (fun e => ∃ m', m' < m ∧ I m' e) tb e (fun e => ∃ m', m' < m ∧ I m' e)) ∧ (b = false → N e)) : Ps K R B C (tWhile c tb) env N := fun H0 M0 D σ H M fps k r n b c => by
  refine ⟨fun m σ H => ∃ e f M1, I m e ∧ Ok K H0 M0 e f σ H M1, ⟨m, env, fps, M, h0, k⟩, ?_⟩
  rintro m σ H ⟨e, f, M1, hI, k1⟩
  obtain ⟨b', hc, ht, hf⟩ := hs m e hI
  refine hc H0 M0 H M1 f σ _ k1 fun H2 M2 x2 => ?_
  cases b' with
  | true =>
    rw [if_pos rfl]
    refine ⟨fun σ H => ∃ m', m' < m ∧ ∃ e f M1, I m' e ∧ Ok K H0 M0 e f σ H M1, fun _ _ h => h, ht rfl H0 M0 _ σ H2 M2 f (k1.ext x2) r ?_ ?_ ?_⟩
    · exact fun e5 σ5 H5 M5 f5 ⟨m', hm, hI'⟩ k5 => ⟨m', hm, e5, f5, M5, hI', k5⟩
    · exact fun e5 σ5 H5 M5 f5 he5 k5 => n e5 σ5 H5 M5 f5 he5 k5
    · exact fun e5 σ5 H5 M5 f5 ⟨m', hm, hI'⟩ k5 => ⟨m', hm, e5, f5, M5, hI', k5⟩
  | false =>
    rw [if_neg Bool.false_ne_true]
    exact n e σ H2 M2 f (hf rfl) (k1.ext x2)
end
/-! comprehensions -/
def wipeE (env : List Sl) : List Nat → List Sl
  | [] => env
  | v :: vs => (wipeE env vs).set v .unk
section
variable {K : PySem.W.Frag} {H0 M0 H M : Hp} {env : List Sl} {fps : List (List Addr)} {σ : L2.St}
theorem Ok.wiped (k : Ok K H0 M0 env fps σ H M) : ∀ vs : List Nat, ∃ f, Ok K H0 M0 (wipeE env vs) f (wipe σ vs) H M ∧ ∀ a ∈ f.flatten, a ∈ fps.flatten
  | [] => ⟨fps, k, fun _ h => h⟩
  | v :: vs => by
    obtain ⟨f, h, hf⟩ := Ok.wiped k vs
    exact ⟨_, h.setU, fun a ha => hf a (flat_set ha)⟩
theorem wipe_get : ∀ (vs : List Nat) (σ : L2.St) (j : Nat), (wipe σ vs)[j]? = if j ∈ vs then (σ[j]?).map fun _ => none else σ[j]?
  | [], σ, j => by simp [wipe]
  | v :: vs, σ, j => by
    show ((wipe σ vs).set v none)[j]? = _
    rw [List.getElem?_set]
    have ih := wipe_get vs σ j
    by_cases c : v = j
    · subst c
      rw [if_pos rfl, if_pos List.mem_cons_self]
      have hl : (wipe σ vs).length = σ.length := by
        have : ∀ vs : List Nat, (wipe σ vs).length = σ.length := by
          intro vs
          induction vs with
          | nil => rfl
          | cons v vs ih => show ((wipe σ vs).set v none).length = _; rw [List.length_set, ih]
        exact this vs
      by_cases d : v < σ.length
      · rw [if_pos (by rw [hl]; exact d), List.getElem?_eq_getElem d]; rfl
      · rw [if_neg (by rw [hl]; exact d), List.getElem?_eq_none (by omega)]; rfl
    · rw [if_neg c, ih]
      by_cases d : j ∈ vs
      · rw [if_pos d, if_pos (List.mem_cons_of_mem _ d)]
      · rw [if_neg d, if_neg (fun z => (List.mem_cons.mp z).elim (fun e => c e.symm) d)]
theorem wipe_eq {vs is : List Nat} {σ' : L2.St} (h : ∀ j, j ∉ is → σ'[j]? = (wipe σ vs)[j]?) (hl : σ'.length = (wipe σ vs).length) (hi : ∀ j ∈ is, j ∈ vs) : wipe σ' vs = wipe σ vs := by
  refine List.ext_getElem? fun j => ?_
  rw [wipe_get]
  by_cases c : j ∈ vs
  · rw [if_pos c]
    have e1 : (wipe σ vs)[j]? = if j ∈ vs then (σ[j]?).map fun _ => none else σ[j]? := wipe_get vs σ j
    have e3 : j < σ'.length ↔ j < (wipe σ vs).length := by rw [hl]
    rw [e1, if_pos c]
    by_cases d : j < σ'.length
    · have d' := e3.mp d
      rw [List.getElem?_eq_getElem d]
      have e4 := List.getElem?_eq_getElem d'
      rw [e1, if_pos c] at e4
      cases q : σ[j]? with
      | none => rw [q] at e4; cases e4
      | some _ => rfl
    · rw [List.getElem?_eq_none (by omega)]
      have e4 : (wipe σ vs)[j]? = none := List.getElem?_eq_none (by omega)
      rw [e1, if_pos c] at e4
      rw [e4]; rfl
  · rw [if_neg c]
    exact h j fun z => c (hi j z)
end
section
variable {K : PySem.W.Frag} {env : List Sl}
theorem take_snoc {α : Type} {l : List α} {i : Nat} {x : α} (h : l[i]? = some x) : l.take (i + 1) = l.take i ++ [x] := by
  rw [List.take_add_one, h]; rfl
theorem mapget {α β : Type} {f : α → β} {l : List α} {i : Nat} {d : β} (h : (l.map f)[i]? = some d) : ∃ a, l[i]? = some a ∧ d = f a := by
  rw [List.getElem?_map] at h
  cases c : l[i]? with
  | none => rw [c] at h; cases h
  | some a => rw [c] at h; exact ⟨a, rfl, (Option.some.inj h).symm⟩
theorem e_lc {wi : TI} {g : TG} {tt : TT} {te : TE} {vs : List Nat} {α : Type} {xs : List α} {enc : α → PyData} (p : α → Bool) (f : α → PyData) (hw : Pw K wi env (xs.map enc))
    (hs : ∀ (i : Nat) (a : α), xs[i]? = some a → ∃ (env2 : List Sl) (is : List Nat), Pg K g (wipeE env vs) (enc a) env2 is ∧ (∀ j ∈ is, j ∈ vs) ∧ Pt K tt env2 (p a) ∧ (p a = true → Pe K te env2 (f a))) (hl : xs.length < sizeLine) : Pe K (tLc wi g tt te vs) env (.list ((xs.filter p).map f)) := fun H0 M0 H M fps σ Q k q => by
  refine hw H0 M0 H M fps σ _ k fun J H1 M1 x1 ⟨G, Y, w, hG, hY⟩ => ?_
  rw [List.length_map] at w hY
  have k1 := k.ext x1
  intro D hD
  have mD := none_of x1.s hD
  have zD := none_of k1.base hD
  obtain ⟨fw, kw, hfw⟩ := k1.wiped vs
  have nD : D ∉ fw.flatten := fun z => (kw.own D z).2.2 hD
  refine lc_it w (fun i H => ∃ M2 acc, Ext H1 M1 H M2 ∧ M2 D = none ∧ H D = some (.lst acc) ∧ DqAll K M2 acc (((xs.take i).filter p).map f) ∧ Ok K H0 M0 (wipeE env vs) fw (wipe σ vs) H M2) ?_ ?_ ?_ ?_
  · refine ⟨M1, [], ⟨fun a u e => ?_, Same.refl M1, fun a u e => ?_, fun _ _ e => .inl e⟩, mD, upd_same, .nil, kw.side zD mD nD⟩
    · rw [upd_ne (fun z => by rw [z, hD] at e; cases e)]; exact e
    · rw [upd_ne (fun z => by rw [z, mD] at e; cases e)]; exact x1.s a u e
  · rintro i H hi ⟨M2, acc, x2, _⟩
    exact hG H M2 x2.m x2.s
  · rintro i x H2 H3 hi ⟨M2, acc, x2, m2, h2, a2, k2⟩ y
    obtain ⟨M3, d, x3, hd', dv⟩ := hY i H2 M2 x H3 hi x2.m x2.s y
    obtain ⟨a, hda, rfl⟩ := mapget hd'
    clear hd'
    have hd' := hda
    obtain ⟨env2, is, hg, his, ht, he⟩ := hs i a hd'
    refine hg H0 M0 H3 M3 fw (wipe σ vs) x _ (k2.ext x3) dv fun σ4 f4 k4 e4 l4 ff4 => ⟨wipe_eq e4 l4 his, ?_⟩
    have out : ∀ {H' M'}, Ext H2 M2 H' M' → M' D = none := fun {H' M'} z => by
      cases c : M' D with
      | none => rfl
      | some u =>
        rcases z.n D u c with e | e
        · rw [m2] at e; cases e
        · rw [h2] at e; cases e
    refine ht H0 M0 H3 M3 f4 σ4 _ k4 fun H5 M5 x5 => ?_
    cases c : p a with
    | false =>
      rw [if_neg Bool.false_ne_true]
      have x35 := x3.trans x5
      refine ⟨M5, acc, x2.trans x35, out x35, x35.h _ _ h2, ?_, k2.ext x35⟩
      rw [take_snoc hd', List.filter_append, List.filter_cons_of_neg (by rw [c]; exact Bool.false_ne_true), List.filter_nil, List.append_nil]
      exact DqAll.same x35.m a2
    | true =>
      rw [if_pos rfl]
      refine he c H0 M0 H5 M5 f4 σ4 _ (k4.ext x5) fun y H6 M6 x6 dy => ?_
      have x36 := (x3.trans x5).trans x6
      have m6 := out x36
      have hlen : acc.length ≤ i := by
        rw [DqAll.len a2, List.length_map]
        exact Nat.le_trans (List.length_filter_le _ _) (List.length_take_le _ _)
      refine ⟨acc, x36.h _ _ h2, by omega, M6, acc ++ [y], ?_, m6, upd_same, ?_, ?_⟩
      · have z := x2.trans x36
        refine ⟨fun a u e => ?_, z.m, fun a u e => ?_, z.n⟩
        · rw [upd_ne (fun z => by rw [z, hD] at e; cases e)]; exact z.h a u e
        · rw [upd_ne (fun z => by rw [z, m6] at e; cases e)]; exact z.s a u e
      · rw [take_snoc hd', List.filter_append, List.filter_cons_of_pos c, List.filter_nil, List.map_append]
        exact DqAll.app (DqAll.same x36.m a2) (.cons dy .nil)
      · exact (k2.ext x36).side zD m6 nD
  · rintro H2 ⟨M2, acc, x2, m2, h2, a2, k2⟩
    rw [List.take_of_length_le (Nat.le_refl _)] at a2
    refine q _ H2 (upd M2 D (.lst acc)) (x1.trans ⟨x2.h, fun a u e => ?_, fun a u e => ?_, fun a u e => ?_⟩) (.lst upd_same (DqAll.same (fun a u e => ?_) a2))
    · rw [upd_ne (fun z => by rw [z, mD] at e; cases e)]; exact x2.m a u e
    · by_cases z : a = D
      · subst z; rw [upd_same] at e; rw [← Option.some.inj e]; exact h2
      · rw [upd_ne z] at e; exact x2.s a u e
    · by_cases z : a = D
      · subst z; exact .inr hD
      · rw [upd_ne z] at e; exact x2.n a u e
    · rw [upd_ne (fun z => by rw [z, m2] at e; cases e)]; exact e
/-- without a test, all of them -/
theorem e_map {wi : TI} {g : TG} {te : TE} {vs : List Nat} {α : Type} {xs : List α} {enc : α → PyData} (f : α → PyData) (hw : Pw K wi env (xs.map enc))
    (hs : ∀ (i : Nat) (a : α), xs[i]? = some a → ∃ (env2 : List Sl) (is : List Nat), Pg K g (wipeE env vs) (enc a) env2 is ∧ (∀ j ∈ is, j ∈ vs) ∧ Pe K te env2 (f a)) (hl : xs.length < sizeLine) : Pe K (tLc wi g tYes te vs) env (.list (xs.map f)) := by
  have h := e_lc (K := K) (env := env) (tt := tYes) (fun _ => true) f hw (fun i a ha => by
    obtain ⟨e, is, h1, h2, h3⟩ := hs i a ha
    exact ⟨e, is, h1, h2, (fun H0 M0 H M fps σ Q k q => q H M (Ext.refl k.sub)), fun _ => h3⟩) hl
  rw [List.filter_eq_self.mpr (fun _ _ => rfl)] at h
  exact h
/-! slices -/
def cutG {α : Type} (xs : List α) (lo hi : Option Int) : List α := (xs.drop (HT.sIx xs.length 0 lo)).take (HT.sIx xs.length xs.length hi - HT.sIx xs.length 0 lo)
def Psl (K : PySem.W.Frag) (t : TO) (env : List Sl) (o : Option Int) : Prop := ∀ (H0 M0 H M : Hp) (fps : List (List Addr)) (σ : L2.St) (Q : Option Int → Hp → Prop), Ok K H0 M0 env fps σ H M → (∀ H' M', Ext H M H' M' → Q o H') → t σ H Q
theorem p_no : Psl K tNoPart env none := fun H0 M0 H M fps σ Q k q => q H M (Ext.refl k.sub)
theorem p_at {te : TE} {i : Int} (h : Pe K te env (.int i)) : Psl K (tPart te) env (some i) := fun H0 M0 H M fps σ Q k q =>
  h H0 M0 H M fps σ _ k fun v H1 M1 x1 dv => ⟨i, dq_int dv, q H1 M1 x1⟩
def Psr (K : PySem.W.Frag) (r : V → Option Int → Option Int → Hp → VK → Prop) (d : PyData) (lo hi : Option Int) (c : PyData) : Prop := ∀ (H M : Hp) (x : V) (Q : VK), Same M H → Dq K M x d → (∀ v H' M', Ext H M H' M' → Dq K M' v c → Q v H') → r x lo hi H Q
theorem e_sl {r : V → Option Int → Option Int → Hp → VK → Prop} {te : TE} {tl th : TO} {d c : PyData} {lo hi : Option Int} (he : Pe K te env d) (hl : Psl K tl env lo) (hh : Psl K th env hi) (hr : Psr K r d lo hi c) : Pe K (tSl r te tl th) env c := fun H0 M0 H M fps σ Q k q =>
  he H0 M0 H M fps σ _ k fun x H1 M1 x1 dx => hl H0 M0 H1 M1 fps σ _ (k.ext x1) fun H2 M2 x2 => hh H0 M0 H2 M2 fps σ _ (k.ext (x1.trans x2)) fun H3 M3 x3 => hr H3 M3 x Q x3.s (Dq.same (x2.m.trans x3.m) dx) fun v H4 M4 x4 dv => q v H4 M4 (((x1.trans x2).trans x3).trans x4) dv
theorem dqA_cut {M : Hp} {vs : List V} {ds : List PyData} {lo hi : Option Int} (h : DqAll K M vs ds) : DqAll K M (cutV vs lo hi) (cutG ds lo hi) := by
  unfold cutV cutG
  rw [DqAll.len h]
  exact DqAll.take _ (DqAll.drop _ h)
theorem sl_L {ds : List PyData} {lo hi : Option Int} : Psr K (rSlL K) (.list ds) lo hi (.list (cutG ds lo hi)) := fun H M x Q s hx q => by
  obtain ⟨a, xs, rfl, h1, h2⟩ := dq_lstI hx
  exact ⟨a, xs, rfl, SqL.of (s _ _ h1), fun p hp => q _ _ _ (Ext.laid s hp) (.lst upd_same (DqAll.same (Ext.laid s hp).m (dqA_cut h2)))⟩
theorem sl_T {ds : List PyData} {lo hi : Option Int} : Psr K (rSlA K) (.tuple ds) lo hi (.tuple (cutG ds lo hi)) := fun H M x Q s hx q => by
  obtain ⟨a, xs, rfl, h1, h2⟩ := dq_tupI hx
  refine ⟨a, xs, rfl, Same.sqT s h1, fun ⟨e1, e2⟩ => ?_, fun _ p hp => q _ _ _ (Ext.laid s hp) (.tup (SqT.of upd_same) (DqAll.same (Ext.laid s hp).m (dqA_cut h2)))⟩
  have e : cutG ds lo hi = ds := by
    rw [DqAll.len h2] at e1 e2
    unfold cutG
    rw [e1, e2, List.drop_zero, Nat.sub_zero, List.take_of_length_le (Nat.le_refl _)]
  rw [e] at q
  exact q _ H M (Ext.refl s) (.tup h1 h2)
theorem sl_S {z : Str} {lo hi : Option Int} (hz : z.length ≤ sizeLine) : Psr K rSlS (.str z) lo hi (.str (cutS z lo hi)) := fun H M x Q s hx q => by
  rw [dq_str hx]
  exact ⟨z, rfl, hz, q _ H M (Ext.refl s) (.str _)⟩
end
/-! a def -/
theorem slots_ok {K : PySem.W.Frag} {M H : Hp} : ∀ {vs : List V} {ds : List PyData} (n : Nat), DqAll K M vs ds → SlsOk K M H (ds.map Sl.val ++ List.replicate n .unk) (vs.map some ++ List.replicate n none) ((ds.map fun _ => []) ++ List.replicate n [])
  | _, _, 0, .nil => .nil
  | _, _, n + 1, .nil => .cons (s := .unk) rfl (slots_ok n .nil)
  | _, _, n, .cons a b => .cons (s := .val _) ⟨rfl, _, rfl, a⟩ (slots_ok n b)
theorem stab_vals {ds : List PyData} {n : Nat} : ∀ s ∈ (ds.map Sl.val ++ List.replicate n .unk), Stab s := fun s hs => by
  rcases List.mem_append.mp hs with h | h
  · obtain ⟨d, _, rfl⟩ := List.mem_map.mp h; exact True.intro
  · rw [(List.mem_replicate.mp h).2]; exact True.intro
theorem flat_nil {α : Type} {ds : List α} {n : Nat} : ((ds.map fun _ => ([] : List Addr)) ++ List.replicate n []).flatten = [] := by
  rw [List.flatten_eq_nil_iff]
  intro l hl
  rcases List.mem_append.mp hl with h | h
  · obtain ⟨d, _, rfl⟩ := List.mem_map.mp h; rfl
  · exact (List.mem_replicate.mp h).2
/-- the start of a def's body: its slots hold the arguments' data -/
theorem Ok.start {K : PySem.W.Frag} {H M : Hp} {vs : List V} {ds : List PyData} (n : Nat) (s : Same M H) (h : DqAll K M vs ds) : Ok K H M (ds.map Sl.val ++ List.replicate n .unk) ((ds.map fun _ => []) ++ List.replicate n []) (vs.map some ++ List.replicate n none) H M :=
  ⟨Same.refl H, s, Same.refl M, fun _ _ e => .inl e, slots_ok n h, (by rw [flat_nil]; exact List.nodup_nil), (fun a ha => by rw [flat_nil] at ha; exact (nomatch ha)), stab_vals⟩
/-- a body is walked from told data to the promise -/
theorem run {K : PySem.W.Frag} {R : List PyData → PyData → Prop} {t : TS} {vs : List V} {H : Hp} {Q : VK} {E : XK} {N : List Str} (h : PF K R vs H Q E)
    (hb : ∀ ds d, R ds d → Ps K (.dat fun d' => d' = d) (fun _ => False) (fun _ => False) t (ds.map Sl.val ++ List.replicate (N.length - ds.length) .unk) (fun _ => d = .none)) : t { nx := fun _ H' => Q .non H', rt := Q } (L2.start N vs) H := by
  obtain ⟨M, ds, d, s, hv, hR, q⟩ := h
  unfold L2.start
  rw [DqAll.len hv]
  refine hb ds d hR H M _ _ H M _ (Ok.start _ s hv) (fun v d' H' M' e x dv => by rw [e] at dv; exact q v H' M' x dv) (fun env σ H' M' f e k => q _ H' M' k.out (by rw [e]; exact .non)) (fun _ _ _ _ _ z => z.elim) (fun _ _ _ _ _ z => z.elim)
theorem PF.len {K : PySem.W.Frag} {R : List PyData → PyData → Prop} {n : Nat} (h : ∀ ds d, R ds d → ds.length = n) : ∀ vs H Q E, PF K R vs H Q E → vs.length = n := fun vs H Q E ⟨M, ds, d, s, hv, hR, _⟩ => by rw [DqAll.len hv]; exact h ds d hR
/-- .. of a def that gives a new list -/
theorem runO {K : PySem.W.Frag} {R : List PyData → List PyData → Prop} {t : TS} {vs : List V} {H : Hp} {Q : VK} {E : XK} {N : List Str} {nx : L2.St → Hp → Prop} (h : PFO K R vs H Q E)
    (hb : ∀ ds d, R ds d → Ps K (.lst fun d' => d' = d) (fun _ => False) (fun _ => False) t (ds.map Sl.val ++ List.replicate (N.length - ds.length) .unk) (fun _ => False)) : t { nx := nx, rt := Q } (L2.start N vs) H := by
  obtain ⟨M, ds, d, s, hv, hR, q⟩ := h
  unfold L2.start
  rw [DqAll.len hv]
  refine hb ds d hR H M _ _ H M _ (Ok.start _ s hv) (fun p ws d' H' M' e x h1 h2 h3 h4 => by rw [e] at h4; exact q p ws H' M' x h1 h2 h3 h4) (fun _ _ _ _ _ z => z.elim) (fun _ _ _ _ _ z => z.elim) (fun _ _ _ _ _ z => z.elim)
theorem PFO.len {K : PySem.W.Frag} {R : List PyData → List PyData → Prop} {n : Nat} (h : ∀ ds d, R ds d → ds.length = n) : ∀ vs H Q E, PFO K R vs H Q E → vs.length = n := fun vs H Q E ⟨M, ds, d, s, hv, hR, _⟩ => by rw [DqAll.len hv]; exact h ds d hR
/-! the script: a list of ints that is read -/
def scr (K : PySem.W.Frag) (ns : List Int) : Sl := .res fun v M H fp => fp = [] ∧ ∃ a, v = .ref a ∧ SqL K M a (ns.map V.int)
theorem stab_scr {K : PySem.W.Frag} {ns : List Int} : Stab (scr K ns) := fun v M H M' H' fp m h ⟨e, a, e1, e2⟩ => ⟨e, a, e1, Same.sqL m e2⟩
/-- a promise of a def whose first argument is the script -/
def PFS (K : PySem.W.Frag) (R : List Int → List PyData → PyData → Prop) : Sp := fun vs H Q _ => ∃ M a ns ws ds d, vs = .ref a :: ws ∧ SqL K M a (ns.map V.int) ∧ Same M H ∧ DqAll K M ws ds ∧ R ns ds d ∧ ∀ v H' M', Ext H M H' M' → Dq K M' v d → Q v H'
theorem e_callS {K : PySem.W.Frag} {env : List Sl} {R : List Int → List PyData → PyData → Prop} {E : XK} {ta : TA} {i : Nat} {ns : List Int} {ds : List PyData} {d : PyData} (hi : env[i]? = some (scr K ns)) (ha : Pa K ta env ds) (hr : R ns ds d) : Pe K (tCall (PFS K R) [] E (tCons (tVar i) ta)) env d := fun H0 M0 H M fps σ Q k q => by
  obtain ⟨v, fp, e1, e2, e3, a, rfl, e4⟩ := k.sls.getR hi
  refine ⟨_, e1, ha H0 M0 H M fps σ _ k fun ws H1 M1 x1 dw => ⟨M1, a, ns, ws, ds, d, by rw [List.append_nil], Same.sqL x1.m e4, x1.s, dw, hr, fun v H2 M2 x2 dv => q v H2 M2 (x1.trans x2) dv⟩⟩
theorem runS {K : PySem.W.Frag} {R : List Int → List PyData → PyData → Prop} {t : TS} {vs : List V} {H : Hp} {Q : VK} {E : XK} {N : List Str} (h : PFS K R vs H Q E)
    (hb : ∀ ns ds d, R ns ds d → Ps K (.dat fun d' => d' = d) (fun _ => False) (fun _ => False) t (scr K ns :: (ds.map Sl.val ++ List.replicate (N.length - (ds.length + 1)) .unk)) (fun _ => d = .none)) : t { nx := fun _ H' => Q .non H', rt := Q } (L2.start N vs) H := by
  obtain ⟨M, a, ns, ws, ds, d, rfl, hS, s, hv, hR, q⟩ := h
  unfold L2.start
  rw [List.length_cons, DqAll.len hv]
  have k := Ok.start (N.length - (ds.length + 1)) s hv
  have k' : Ok K H M (scr K ns :: (ds.map Sl.val ++ List.replicate (N.length - (ds.length + 1)) .unk)) ([] :: ((ds.map fun _ => []) ++ List.replicate (N.length - (ds.length + 1)) [])) ((V.ref a :: ws).map some ++ List.replicate (N.length - (ds.length + 1)) none) H M :=
    ⟨k.base, k.sub, k.grow, k.new, .cons (s := scr K ns) ⟨.ref a, rfl, rfl, a, rfl, hS⟩ k.sls, (by rw [List.flatten_cons, List.nil_append]; exact k.nd), (fun b hb => k.own b (by rw [List.flatten_cons, List.nil_append] at hb; exact hb)), (fun s hs => (List.mem_cons.mp hs).elim (fun e => by rw [e]; exact stab_scr) (k.stab s))⟩
  refine hb ns ds d hR H M _ _ H M _ k' (fun v d' H' M' e x dv => by rw [e] at dv; exact q v H' M' x dv) (fun env σ H' M' f e k => q _ H' M' k.out (by rw [e]; exact .non)) (fun _ _ _ _ _ z => z.elim) (fun _ _ _ _ _ z => z.elim)
theorem PFS.len {K : PySem.W.Frag} {R : List Int → List PyData → PyData → Prop} {n : Nat} (h : ∀ ns ds d, R ns ds d → ds.length + 1 = n) : ∀ vs H Q E, PFS K R vs H Q E → vs.length = n := fun vs H Q E ⟨M, a, ns, ws, ds, d, e, hS, s, hv, hR, _⟩ => by rw [e, List.length_cons, DqAll.len hv]; exact h ns ds d hR
theorem e_scrLen {K : PySem.W.Frag} {env : List Sl} {i : Nat} {ns : List Int} (hi : env[i]? = some (scr K ns)) : Pe K (tCB (fun xs H Q => ∃ p ys, xs = [.ref p] ∧ (SqL K H p ys ∨ SqT K H p ys) ∧ Q (.int ys.length) H) (tCons (tVar i) tNil)) env (.int ns.length) := fun H0 M0 H M fps σ Q k q => by
  obtain ⟨v, fp, e1, e2, e3, a, rfl, e4⟩ := k.sls.getR hi
  refine ⟨.ref a, e1, a, _, rfl, .inl (Same.sqL k.sub e4), ?_⟩
  rw [List.length_map]
  exact q _ H M (Ext.refl k.sub) (.int _)
theorem e_scrIx {K : PySem.W.Frag} {env : List Sl} {i : Nat} {ns : List Int} {tb : TE} {j z : Int} (hi : env[i]? = some (scr K ns)) (hb : Pe K tb env (.int j)) (hz : atI ns j = some z) : Pe K (tOp (rIxL K) (tVar i) tb) env (.int z) := fun H0 M0 H M fps σ Q k q => by
  obtain ⟨v, fp, e1, e2, e3, a, rfl, e4⟩ := k.sls.getR hi
  refine ⟨.ref a, e1, hb H0 M0 H M fps σ _ k fun y H1 M1 x1 dy => ⟨a, _, j, .int z, rfl, dq_int dy, Same.sqL (x1.m.trans x1.s) e4, ?_, q _ H1 M1 x1 (.int _)⟩⟩
  unfold atI at hz ⊢
  rw [List.length_map]
  cases c : ixN ns.length j with
  | none => rw [c] at hz; cases hz
  | some n =>
    rw [c] at hz
    show (ns.map V.int)[n]? = _
    rw [List.getElem?_map, show ns[n]? = some z from hz]; rfl
theorem e_ownLen {K : PySem.W.Frag} {env : List Sl} {i : Nat} {ds : List PyData} (hi : env[i]? = some (ownL K ds)) : Pe K (tCB (fun xs H Q => ∃ p ys, xs = [.ref p] ∧ (SqL K H p ys ∨ SqT K H p ys) ∧ Q (.int ys.length) H) (tCons (tVar i) tNil)) env (.int ds.length) := fun H0 M0 H M fps σ Q k q => by
  obtain ⟨v, fp, e1, e2, p, vs, rfl, rfl, e3, e4⟩ := k.sls.getR hi
  refine ⟨.ref p, e1, p, vs, rfl, .inl (SqL.of e3), ?_⟩
  rw [DqAll.len e4]
  exact q _ H M (Ext.refl k.sub) (.int _)
theorem e_ownIx {K : PySem.W.Frag} {env : List Sl} {i : Nat} {ds : List PyData} {tb : TE} {j : Int} {d : PyData} (hi : env[i]? = some (ownL K ds)) (hb : Pe K tb env (.int j)) (hz : atI ds j = some d) : Pe K (tOp (rIxL K) (tVar i) tb) env d := fun H0 M0 H M fps σ Q k q => by
  obtain ⟨v, fp, e1, e2, p, vs, rfl, rfl, e3, e4⟩ := k.sls.getR hi
  refine ⟨.ref p, e1, hb H0 M0 H M fps σ _ k fun y H1 M1 x1 dy => ?_⟩
  obtain ⟨v, f1, f2⟩ := dq_at (DqAll.same x1.m e4) hz
  exact ⟨p, vs, j, v, rfl, dq_int dy, SqL.of (x1.h _ _ e3), f1, q v H1 M1 x1 f2⟩
/-- the law's own promise -/
inductive RLaw (ns : List Int) : List PyData → PyData → Prop
  | mk (h : ns.length ≤ 63) : RLaw ns [] (.bool true)
theorem law_imp {K : PySem.W.Frag} {vs : List V} {H : Hp} {Q : VK} {E : XK} (h : ∃ (a : Addr) (ns : List Int), vs = [.ref a] ∧ SqL K H a (ns.map V.int) ∧ ns.length ≤ 63 ∧ ∀ H', Q (.bl true) H') : PFS K RLaw vs H Q E := by
  obtain ⟨a, ns, rfl, hS, hl, q⟩ := h
  exact ⟨H, a, ns, [], [], .bool true, rfl, hS, Same.refl H, .nil, ⟨hl⟩, fun v H' M' _ dv => by rw [dq_bool dv]; exact q H'⟩
end Y


/-! ### sorted(xs) of data that is told by any relation -/
namespace Y
open PySem L2
open PySem.W (EachIs AllAlike Sortable dataLe)
def rSortQ (K : PySem.W.Frag) : List V → Hp → VK → Prop := fun xs H Q => ∃ (l : Addr) (vs : List V) (ds : List PyData) (W : V → PyData → Prop), xs = [.ref l] ∧ SqL K H l vs ∧ (∀ x d, W x d → Dp K H x d) ∧ EachIs W vs ds ∧ AllAlike ds ∧ Sortable ds ∧ (∀ d ∈ ds, d.depth ≤ 20) ∧
  ∀ (p : Addr) (vs' : List V), H p = none → EachIs W vs' (ds.mergeSort (dataLe false id)) → Q (.ref p) (upd H p (.lst vs'))
section
variable {X : Cx} {pins : List (Addr × Obj)} {σ : L2.St} {H : Hp} {s : Shared} {W : V → PyData → Prop}
theorem eachq_of : ∀ {vs : List V} {us : List Value} {ds : List PyData}, Vals vs us → EachIs W vs ds → EachIs (fun u d => ∃ x, RelV x u ∧ W x d) us ds
  | _, _, _, .nil, .nil => .nil
  | _, _, _, .cons r t, .cons d e => .cons ⟨_, r, d⟩ (eachq_of t e)
theorem eachq_reads (I : Inv X pins σ H s) (hW : ∀ x d, W x d → Dp X.K H x d) : ∀ {us : List Value} {ds : List PyData}, EachIs (fun u d => ∃ x, RelV x u ∧ W x d) us ds → EachIs (fun u d => ∃ as, PySem.Reads s.heap u (id d) as) us ds
  | _, _, .nil => .nil
  | _, _, .cons h t => .cons (by obtain ⟨x, r, d⟩ := h; exact Dp.reads I _ _ _ (hW _ _ d) r) (eachq_reads I hW t)
theorem eachq_back : ∀ {us : List Value} {ds : List PyData}, EachIs (fun u d => ∃ x, RelV x u ∧ W x d) us ds → ∃ vs, Vals vs us ∧ EachIs W vs ds
  | _, _, .nil => ⟨[], .nil, .nil⟩
  | _, _, .cons h t => by
    obtain ⟨x, r, d⟩ := h
    obtain ⟨vs, h1, h2⟩ := eachq_back t
    exact ⟨x :: vs, .cons r h1, .cons d h2⟩
theorem eachq_len : ∀ {vs : List V} {ds : List PyData}, EachIs W vs ds → vs.length = ds.length
  | _, _, .nil => rfl
  | _, _, .cons _ t => by rw [List.length_cons, List.length_cons, eachq_len t]
theorem cr_sortQ (hu : X.A.units + 64 < cLine) : CallR X (.builtin "sorted") (rSortQ X.K) := by
  intro pins s σ H vs us Q I r h
  obtain ⟨a, xs, ds, W, rfl, hs, hW, hd, hal, hso, hdep, q⟩ := h
  obtain ⟨its, rv, hl, hz⟩ := I.list hs
  rw [Vals.ref1 r]
  have hlen : ds.length = xs.length := (eachq_len hd).symm
  have e := eachq_of rv hd
  refine PySem.W.sorted_data (R := fun u d => ∃ x, RelV x u ∧ W x d) (enc := id) (bs := ds) hl.isList e (eachq_reads I hW e) (by rw [List.map_id]; exact hal) (by rw [List.map_id]; exact hso) (by rw [hlen]; exact hz) (fun d hd => ?_) fun out h1 h2 => ?_
  · have := hdep d hd
    show _ + 2 + d.depth < _
    omega
  · obtain ⟨vs', k1, k2⟩ := eachq_back h2
    obtain ⟨ep, he'⟩ := PyProof.Rows.sortedAll_at s.heap its out.toArray
    have hl2 : vs'.length = xs.length := by rw [k1.length, h1, hlen]
    exact ⟨.ref _, upd H (s.heap.objs.size + 1) (.lst vs'), I.laid (t' := s.toks) (fun _ _ => PyProof.Rows.sortedAll_old) (Nat.le_succ _) ⟨by rw [hl2]; exact hz, out, ep, k1, he'⟩, rfl, q _ _ (I.hok.fresh (Nat.le_succ _)) k2⟩
end
theorem dqA_each {K : PySem.W.Frag} {M : Hp} : ∀ {vs : List V} {ds : List PyData}, DqAll K M vs ds → (∀ d ∈ ds, d.canLay0 = true) → EachIs (fun v d => Dq K M v d ∧ d.canLay0 = true) vs ds
  | _, _, .nil, _ => .nil
  | _, _, .cons a b, h => .cons ⟨a, h _ List.mem_cons_self⟩ (dqA_each b fun d hd => h d (List.mem_cons_of_mem _ hd))
theorem each_dqA {K : PySem.W.Frag} {M : Hp} : ∀ {vs : List V} {ds : List PyData}, EachIs (fun v d => Dq K M v d ∧ d.canLay0 = true) vs ds → DqAll K M vs ds
  | _, _, .nil => .nil
  | _, _, .cons a b => .cons a.1 (each_dqA b)
theorem c_sort {K : PySem.W.Frag} {ds es : List PyData} (he : ds.mergeSort (dataLe false id) = es) (hal : AllAlike ds) (hso : Sortable ds) (hdep : ∀ d ∈ ds, d.depth ≤ 20) (hcl : ∀ d ∈ ds, d.canLay0 = true) : Pc K (rSortQ K) [.list ds] (.list es) := fun H M vs Q s h0 q => by
  obtain ⟨v, rfl, h⟩ := dqA_one h0
  obtain ⟨a, xs, rfl, h1, h2⟩ := dq_lstI h
  refine ⟨a, xs, ds, fun v d => Dq K M v d ∧ d.canLay0 = true, rfl, SqL.of (s _ _ h1), fun x d hd => Dq.dp (Dq.same s hd.1) hd.2, dqA_each h2 hcl, hal, hso, hdep, fun p vs' hp hs => ?_⟩
  rw [he] at hs
  exact q _ _ _ (Ext.laid s hp) (.lst upd_same (DqAll.same (Ext.laid s hp).m (each_dqA hs)))
theorem sort_ints {ns : List Int} (h : ns.Pairwise (· ≤ ·)) : (ns.map PyData.int).mergeSort (dataLe false id) = ns.map PyData.int := by
  refine List.mergeSort_of_pairwise ?_
  rw [List.pairwise_map]
  refine h.imp fun {a b} hab => ?_
  have e := PySem.W.dataLe_int (β := Int) id
  have e2 := congrFun (congrFun e a) b
  show dataLe false id (PyData.int a) (PyData.int b) = true
  exact e2.trans (decide_eq_true hab)
theorem alike_intsD (ns : List Int) : AllAlike (ns.map PyData.int) := AllAlike.of fun _ _ => rfl
theorem sortable_intsD (ns : List Int) : Sortable (ns.map PyData.int) := Sortable.others fun b => ⟨fun z => (nomatch z), fun xs z => (nomatch z)⟩
theorem depth_intsD (ns : List Int) : ∀ d ∈ ns.map PyData.int, d.depth ≤ 20 := fun d hd => by
  obtain ⟨b, _, rfl⟩ := List.mem_map.mp hd
  simp [PyData.depth]
theorem c_sortI {K : PySem.W.Frag} {ns : List Int} (h : ns.Pairwise (· ≤ ·)) : Pc K (rSortQ K) [.list (ns.map .int)] (.list (ns.map .int)) := c_sort (sort_ints h) (alike_intsD ns) (sortable_intsD ns) (depth_intsD ns) (fun d hd => by obtain ⟨b, _, rfl⟩ := List.mem_map.mp hd; rfl)
end Y


/-! ### equality of data without bools -/
namespace Y
open PySem L2
mutual
def nb : PyData → Bool
  | .none => true
  | .bool _ => false
  | .int _ => true
  | .str _ => true
  | .list xs => nbAll xs
  | .tuple xs => nbAll xs
  | .dict _ => false
def nbAll : List PyData → Bool
  | [] => true
  | x :: xs => nb x && nbAll xs
end
mutual
theorem eqv_eq : ∀ d e : PyData, nb d = true → nb e = true → (PyData.eqv d e = true ↔ d = e)
  | .none, e, _, _ => by cases e <;> simp [PyData.eqv]
  | .bool _, _, h, _ => by simp [nb] at h
  | .int i, e, _, h => by
    cases e <;> first | (simp [nb] at h; done) | simp [PyData.eqv]
  | .str i, e, _, h => by
    cases e <;> first | (simp [nb] at h; done) | simp [PyData.eqv]
  | .list xs, e, h, h2 => by
    cases e with
    | list ys =>
      simp only [nb] at h h2
      simp only [PyData.eqv]
      rw [eqvAll_eq xs ys h h2]
      exact ⟨fun e => by rw [e], fun e => by injection e⟩
    | _ => first | (simp [nb] at h2; done) | simp [PyData.eqv]
  | .tuple xs, e, h, h2 => by
    cases e with
    | tuple ys =>
      simp only [nb] at h h2
      simp only [PyData.eqv]
      rw [eqvAll_eq xs ys h h2]
      exact ⟨fun e => by rw [e], fun e => by injection e⟩
    | _ => first | (simp [nb] at h2; done) | simp [PyData.eqv]
  | .dict _, _, h, _ => by simp [nb] at h
theorem eqvAll_eq : ∀ xs ys : List PyData, nbAll xs = true → nbAll ys = true → (PyData.eqvAll xs ys = true ↔ xs = ys)
  | [], [], _, _ => by simp [PyData.eqvAll]
  | [], _ :: _, _, _ => by simp [PyData.eqvAll]
  | _ :: _, [], _, _ => by simp [PyData.eqvAll]
  | x :: xs, y :: ys, h, h2 => by
    simp only [nbAll, Bool.and_eq_true] at h h2
    simp only [PyData.eqvAll, Bool.and_eq_true]
    rw [eqv_eq x y h.1 h2.1, eqvAll_eq xs ys h.2 h2.2]
    exact ⟨fun ⟨a, b⟩ => by rw [a, b], fun e => by injection e with a b; exact ⟨a, b⟩⟩
end
/-- data that == can compare and tells apart -/
def okd (d : PyData) : Prop := nb d = true ∧ SeqAt.shaped d = true
section
variable {K : PySem.W.Frag}
theorem o_eqP {d e : PyData} {p : Prop} [Decidable p] (hd : okd d) (he : okd e) (h : d = e ↔ p) : Po K (rEqD K) d e (.bool (decide p)) := by
  have := o_eqD (K := K) hd.2 he.2
  rw [show PyData.eqv d e = decide p by
    rw [Bool.eq_iff_iff, decide_eq_true_iff, eqv_eq d e hd.1 he.1]; exact h] at this
  exact this
theorem o_neP {d e : PyData} {p : Prop} [Decidable p] (hd : okd d) (he : okd e) (h : d = e ↔ p) : Po K (rNeD K) d e (.bool (!decide p)) := by
  have := o_neD (K := K) hd.2 he.2
  rw [show PyData.eqv d e = decide p by
    rw [Bool.eq_iff_iff, decide_eq_true_iff, eqv_eq d e hd.1 he.1]; exact h] at this
  exact this
/-- equal ones -/
theorem o_eqT {d e : PyData} (hd : SeqAt.shaped d = true) (h : d = e) : Po K (rEqD K) d e (.bool true) := by
  subst h
  have := o_eqD (K := K) hd hd
  rw [PySem.SeqAt.eqv_refl d (SeqAt.canLay_of_shaped hd)] at this
  exact this
theorem o_neF {d e : PyData} (hd : SeqAt.shaped d = true) (h : d = e) : Po K (rNeD K) d e (.bool false) := by
  subst h
  have := o_neD (K := K) hd hd
  rw [PySem.SeqAt.eqv_refl d (SeqAt.canLay_of_shaped hd)] at this
  exact this
end
theorem nb_all {xs : List PyData} : nbAll xs = true ↔ ∀ x ∈ xs, nb x = true := by
  induction xs with
  | nil => exact ⟨fun _ x h => (nomatch h), fun _ => rfl⟩
  | cons y xs ih => rw [nbAll, Bool.and_eq_true, ih]; simp
theorem lay_all {xs : List PyData} : PyData.canLayAll0 xs = true ↔ ∀ x ∈ xs, x.canLay0 = true := by
  induction xs with
  | nil => exact ⟨fun _ x h => (nomatch h), fun _ => rfl⟩
  | cons y xs ih => rw [PyData.canLayAll0, Bool.and_eq_true, ih]; simp
theorem depth_all {xs : List PyData} {n : Nat} : PyData.depthAll xs ≤ n ↔ ∀ x ∈ xs, x.depth ≤ n := by
  induction xs with
  | nil => exact ⟨fun _ x h => (nomatch h), fun _ => Nat.zero_le n⟩
  | cons y xs ih => rw [PyData.depthAll, Nat.max_le, ih]; simp
/-- fit to be compared, with a depth of at most n -/
def okn (n : Nat) (d : PyData) : Prop := nb d = true ∧ d.canLay0 = true ∧ d.depth ≤ n
theorem okn.okd {n : Nat} {d : PyData} (h : okn n d) (hn : n ≤ 64 := by decide) : okd d := ⟨h.1, by
  unfold SeqAt.shaped
  rw [Bool.and_eq_true]
  exact ⟨h.2.1, decide_eq_true (Nat.le_trans h.2.2 hn)⟩⟩
theorem okn.sh {n : Nat} {d : PyData} (h : okn n d) (hn : n ≤ 64 := by decide) : SeqAt.shaped d = true := (h.okd hn).2
theorem okn_int {n : Nat} {i : Int} : okn n (.int i) := ⟨by simp [nb], by simp [PyData.canLay0], by simp [PyData.depth]⟩
theorem okn_non {n : Nat} : okn n .none := ⟨by simp [nb], by simp [PyData.canLay0], by simp [PyData.depth]⟩
theorem okn_str {n : Nat} {z : Str} (h : PyData.strOk z = true) : okn n (.str z) := ⟨by simp [nb], by simp [PyData.canLay0, h], by simp [PyData.depth]⟩
theorem okn_tup {n : Nat} {ds : List PyData} (h : ∀ d ∈ ds, okn n d) : okn (n + 1) (.tuple ds) :=
  ⟨by rw [nb]; exact nb_all.mpr fun d hd => (h d hd).1, by rw [PyData.canLay0]; exact lay_all.mpr fun d hd => (h d hd).2.1, by rw [PyData.depth]; exact Nat.succ_le_succ (depth_all.mpr fun d hd => (h d hd).2.2)⟩
theorem okn_lst {n : Nat} {ds : List PyData} (h : ∀ d ∈ ds, okn n d) : okn (n + 1) (.list ds) :=
  ⟨by rw [nb]; exact nb_all.mpr fun d hd => (h d hd).1, by rw [PyData.canLay0]; exact lay_all.mpr fun d hd => (h d hd).2.1, by rw [PyData.depth]; exact Nat.succ_le_succ (depth_all.mpr fun d hd => (h d hd).2.2)⟩
theorem okn_ints {n : Nat} {ns : List Int} : ∀ d ∈ ns.map PyData.int, okn n d := fun d hd => by
  obtain ⟨i, _, rfl⟩ := List.mem_map.mp hd
  exact okn_int
theorem all_nil {p : PyData → Prop} : ∀ d ∈ ([] : List PyData), p d := fun _ h => nomatch h
theorem all_cons {p : PyData → Prop} {x : PyData} {xs : List PyData} (h : p x) (t : ∀ d ∈ xs, p d) : ∀ d ∈ x :: xs, p d := fun d hd => (List.mem_cons.mp hd).elim (fun e => by rw [e]; exact h) (t d)
end Y


/-! ### more: lists that are repeated, copied, stored into -/
namespace Y
open PySem L2
section
variable {K : PySem.W.Frag} {R : Rt} {B C N : EnvP} {env : List Sl} {t u v : TS}
theorem DqAll.rep {M : Hp} {vs : List V} {ds : List PyData} (h : DqAll K M vs ds) : ∀ n : Nat, DqAll K M (List.replicate n vs).flatten (List.replicate n ds).flatten
  | 0 => .nil
  | n + 1 => by
    rw [List.replicate_succ, List.replicate_succ, List.flatten_cons, List.flatten_cons]
    exact DqAll.app h (DqAll.rep h n)
theorem o_rep {ds : List PyData} {k : Int} (h1 : -(2 ^ 63) ≤ k) (h2 : k < 2 ^ 63) (h3 : ds.length * k.toNat ≤ sizeLine) : Po K rRep (.list ds) (.int k) (.list (List.replicate k.toNat ds).flatten) := fun H M x y Q s hx hy q => by
  obtain ⟨a, xs, rfl, e1, e2⟩ := dq_lstI hx
  refine ⟨a, k, xs, rfl, dq_int hy, s _ _ e1, h1, h2, by rw [DqAll.len e2]; exact h3, fun p hp => ?_⟩
  exact q _ _ _ (Ext.laid s hp) (.lst upd_same (DqAll.same (Ext.laid s hp).m (DqAll.rep e2 _)))
/-- list(xs), a new list -/
theorem f_list {te : TE} {ds : List PyData} (he : Pe K te env (.list ds)) : Pf K (tCB (fun xs H Q => ∃ p ys, xs = [.ref p] ∧ (SqL K H p ys ∨ SqT K H p ys) ∧ ∀ l, H l = none → Q (.ref l) (upd H l (.lst ys))) (tCons te tNil)) env ds := fun H0 M0 H M fps σ Q k q => by
  refine he H0 M0 H M fps σ _ k fun v H1 M1 x1 dv => ?_
  obtain ⟨a, xs, rfl, e1, e2⟩ := dq_lstI dv
  refine ⟨a, xs, rfl, .inl (SqL.of (x1.s _ _ e1)), fun p hp => ?_⟩
  have mp := none_of x1.s hp
  refine q p xs _ M1 ⟨fun b u e => ?_, x1.m, fun b u e => ?_, x1.n⟩ (none_of x1.h hp) mp upd_same e2
  · have e' := x1.h b u e
    rw [upd_ne (fun z => by rw [z, hp] at e'; cases e')]; exact e'
  · rw [upd_ne (fun z => by rw [z, mp] at e; cases e)]; exact x1.s b u e
/-- an own list as a new one: list(xs) -/
theorem f_listO {i : Nat} {ds : List PyData} (hi : env[i]? = some (ownL K ds)) : Pf K (tCB (fun xs H Q => ∃ p ys, xs = [.ref p] ∧ (SqL K H p ys ∨ SqT K H p ys) ∧ ∀ l, H l = none → Q (.ref l) (upd H l (.lst ys))) (tCons (tVar i) tNil)) env ds := fun H0 M0 H M fps σ Q k q => by
  obtain ⟨v, fp, e1, e2, a, xs, rfl, rfl, e3, e4⟩ := k.sls.getR hi
  refine ⟨.ref a, e1, a, xs, rfl, .inl (SqL.of e3), fun p hp => ?_⟩
  have mp := none_of k.sub hp
  refine q p xs _ M ⟨fun b u e => ?_, Same.refl M, fun b u e => ?_, fun _ _ e => .inl e⟩ hp mp upd_same e4
  · rw [upd_ne (fun z => by rw [z, hp] at e; cases e)]; exact e
  · rw [upd_ne (fun z => by rw [z, mp] at e; cases e)]; exact k.sub b u e
theorem DqAll.set {M : Hp} {v : V} {d : PyData} (h : Dq K M v d) : ∀ {vs : List V} {ds : List PyData} (n : Nat), DqAll K M vs ds → DqAll K M (vs.set n v) (ds.set n d)
  | _, _, _, .nil => .nil
  | _, _, 0, .cons _ t => .cons h t
  | _, _, n + 1, .cons a t => .cons a (DqAll.set h n t)
/-- xs[j] = e, xs an own list -/
theorem s_setIt {i n : Nat} {ds : List PyData} {te ti : TE} {d : PyData} {j : Int} (hi : env[i]? = some (ownL K ds)) (he : Pe K te env d) (hj : Pe K ti env (.int j)) (hn : ixN ds.length j = some n) (h : N (env.set i (ownL K (ds.set n d)))) : Ps K R B C (tAsg te (gSub (tVar i) ti rSetL)) env N := fun H0 M0 D σ H M fps k r nn b c => by
  refine he H0 M0 H M fps σ _ k fun v H1 M1 x1 dv => ?_
  have k1 := k.ext x1
  obtain ⟨w, fp, e1, e2, p, vs, rfl, rfl, e3, e4⟩ := k1.sls.getR hi
  refine ⟨.ref p, e1, hj H0 M0 H1 M1 fps σ _ k1 fun y H2 M2 x2 dy => ?_⟩
  refine ⟨p, vs, j, n, rfl, dq_int dy, x2.h _ _ e3, by rw [DqAll.len e4]; exact hn, nn _ _ _ _ _ h ((k1.ext x2).put (ds := ds) (vs := vs) e1 e2 (DqAll.set (Dq.same x2.m dv) n (DqAll.same x2.m e4)))⟩
theorem s_seq_setIt {i n : Nat} {ds : List PyData} {te ti : TE} {d : PyData} {j : Int} (hi : env[i]? = some (ownL K ds)) (he : Pe K te env d) (hj : Pe K ti env (.int j)) (hn : ixN ds.length j = some n) (h : Ps K R B C u (env.set i (ownL K (ds.set n d))) N) : Ps K R B C (tSeq (tAsg te (gSub (tVar i) ti rSetL)) u) env N :=
  s_mid (fun e => e = env.set i (ownL K (ds.set n d))) (s_setIt hi he hj hn rfl) fun e he => by rw [he]; exact h
theorem s_seq_listF {i : Nat} {te : TE} {ds : List PyData} (he : Pe K te env (.list ds)) (hi : i < env.length) (h : Ps K R B C u (env.set i (ownL K ds)) N) : Ps K R B C (tSeq (tAsg (tCB (fun xs H Q => ∃ p ys, xs = [.ref p] ∧ (SqL K H p ys ∨ SqT K H p ys) ∧ ∀ l, H l = none → Q (.ref l) (upd H l (.lst ys))) (tCons te tNil)) (gName i)) u) env N :=
  s_seq_setF (f_list he) h hi
/-- .. and from then on it is data -/
theorem s_seq_setItZ {i n : Nat} {ds es : List PyData} {te ti : TE} {d : PyData} {j : Int} (hi : env[i]? = some (ownL K ds)) (he : Pe K te env d) (hj : Pe K ti env (.int j)) (hn : ixN ds.length j = some n) (hs : ds.set n d = es) (hl : i < env.length) (h : Ps K R B C u (env.set i (.val (.list es))) N) : Ps K R B C (tSeq (tAsg te (gSub (tVar i) ti rSetL)) u) env N := by
  refine s_seq_setIt hi he hj hn (s_froz i (ds := es) ?_ ?_)
  · rw [hs, List.getElem?_set_self hl]
  · rw [List.set_set]; exact h
end
end Y


/-! ### dicts as data, dict comprehensions -/
namespace Y
open PySem L2
section
variable {K : PySem.W.Frag} {env : List Sl}
theorem dq_dctI {M : Hp} {v : V} {ds : List (PyData × PyData)} (h : Dq K M v (.dict ds)) : ∃ a kvs, v = .ref a ∧ M a = some (.dK kvs) ∧ DqKV K M kvs ds := by
  cases h with | dct h a => exact ⟨_, _, rfl, h, a⟩
theorem DqKV.app {M : Hp} : ∀ {vs ws : List (Key × V)} {ds es : List (PyData × PyData)}, DqKV K M vs ds → DqKV K M ws es → DqKV K M (vs ++ ws) (ds ++ es)
  | _, _, _, _, .nil, h => h
  | _, _, _, _, .cons a b, h => .cons a (DqKV.app b h)
theorem keyD_inj {k l : Key} (h : keyD k = keyD l) : k = l := by
  cases k <;> cases l <;> simp [keyD] at h <;> rw [h]
/-- what stands under a key -/
def lookD (ds : List (PyData × PyData)) (k : Key) : Option PyData := (ds.find? fun kv => match k, kv.1 with | .inl i, .int j => decide (i = j) | .inr z, .str y => decide (z = y) | _, _ => false).map (·.2)
theorem lookD_cons (k l : Key) (d : PyData) (ds : List (PyData × PyData)) : lookD ((keyD l, d) :: ds) k = if l = k then some d else lookD ds k := by
  unfold lookD
  rw [List.find?_cons]
  by_cases e : l = k
  · subst e
    rw [if_pos rfl]
    cases l <;> simp [keyD]
  · rw [if_neg e]
    cases k <;> cases l <;> simp [keyD]
    · rename_i i j
      rw [decide_eq_false (fun z => e (by rw [z]))]
    · rename_i i j
      rw [decide_eq_false (fun z => e (by rw [z]))]
theorem valV_lookD {M : Hp} {k : Key} : ∀ {kvs : List (Key × V)} {ds : List (PyData × PyData)}, DqKV K M kvs ds → (match valV kvs k, lookD ds k with | some v, some d => Dq K M v d | none, none => True | _, _ => False)
  | _, _, .nil => True.intro
  | _, _, .cons (k := l) (v := v) (d := d) (kvs := kvs) (ds := ds) a b => by
    have ih := valV_lookD (k := k) b
    rw [lookD_cons]
    have e : valV ((l, v) :: kvs) k = if l = k then some v else valV kvs k := by
      unfold valV
      rw [List.find?_cons]
      by_cases c : l = k
      · rw [if_pos c]; simp [c]
      · rw [if_neg c]; simp [c]
    rw [e]
    by_cases c : l = k
    · rw [if_pos c, if_pos c]; exact a
    · rw [if_neg c, if_neg c]; exact ih
theorem keyV_dq {M : Hp} {v : V} {k : Key} (h : Dq K M v (keyD k)) : v = kV k := by
  cases k with
  | inl i => exact dq_int h
  | inr z => exact dq_str h
theorem e_dget {td ty : TE} {ds : List (PyData × PyData)} {k : Key} {d : PyData} (ho : Pe K td env (.dict ds)) (hi : Pe K ty env (keyD k)) (hk : lookD ds k = some d) : Pe K (tDGet td ty) env d := fun H0 M0 H M fps σ Q kk q =>
  ho H0 M0 H M fps σ _ kk fun x H1 M1 x1 dx => hi H0 M0 H1 M1 fps σ _ (kk.ext x1) fun y H2 M2 x2 dy => by
    obtain ⟨a, kvs, rfl, h1, h2⟩ := dq_dctI (Dq.same x2.m dx)
    have hv := valV_lookD (k := k) h2
    rw [hk] at hv
    cases c : valV kvs k with
    | none => rw [c] at hv; exact hv.elim
    | some v =>
      rw [c] at hv
      refine ⟨a, v, rfl, ?_, q v H2 M2 (x1.trans x2) hv⟩
      rw [keyV_dq dy, ← c]
      exact DGet.k (x2.s _ _ h1)
theorem e_din {td ty : TE} {ds : List (PyData × PyData)} {k : Key} (hi : Pe K ty env (keyD k)) (ho : Pe K td env (.dict ds)) : Pe K (tDIn ty td) env (.bool (lookD ds k).isSome) := fun H0 M0 H M fps σ Q kk q =>
  hi H0 M0 H M fps σ _ kk fun y H1 M1 x1 dy => ho H0 M0 H1 M1 fps σ _ (kk.ext x1) fun x H2 M2 x2 dx => by
    obtain ⟨a, kvs, rfl, h1, h2⟩ := dq_dctI dx
    have hv := valV_lookD (k := k) h2
    refine ⟨a, valV kvs k, rfl, ?_, ?_⟩
    · rw [keyV_dq dy]; exact DGet.k (x2.s _ _ h1)
    · have e : (valV kvs k).isSome = (lookD ds k).isSome := by
        cases c : valV kvs k <;> cases c2 : lookD ds k <;> rw [c, c2] at hv <;> first | rfl | exact hv.elim
      rw [e]
      exact q _ H2 M2 (x1.trans x2) (.bl _)
/-- a dict comprehension, its keys all different -/
theorem e_dc {wi : TI} {g : TG} {tk tv : TE} {vs : List Nat} {α : Type} {xs : List α} {enc : α → PyData} (kf : α → Key) (vf : α → PyData) (hw : Pw K wi env (xs.map enc))
    (hs : ∀ (i : Nat) (a : α), xs[i]? = some a → ∃ (env2 : List Sl) (is : List Nat), Pg K g (wipeE env vs) (enc a) env2 is ∧ (∀ j ∈ is, j ∈ vs) ∧ Pe K tk env2 (keyD (kf a)) ∧ Pe K tv env2 (vf a)) (hnd : (xs.map kf).Nodup) (hl : xs.length < sizeLine) :
    Pe K (tDc wi g tYes tk tv vs) env (.dict (xs.map fun a => (keyD (kf a), vf a))) := fun H0 M0 H M fps σ Q k q => by
  refine hw H0 M0 H M fps σ _ k fun J H1 M1 x1 ⟨G, Y, w, hG, hY⟩ => ?_
  rw [List.length_map] at w hY
  have k1 := k.ext x1
  intro D hD
  have mD := none_of x1.s hD
  have zD := none_of k1.base hD
  obtain ⟨fw, kw, hfw⟩ := k1.wiped vs
  have nD : D ∉ fw.flatten := fun z => (kw.own D z).2.2 hD
  let Pv : Nat → Hp → Prop := fun i H => ∃ M2 acc, Ext H1 M1 H M2 ∧ M2 D = none ∧ H D = some (.dK acc) ∧ acc.map (·.1) = (xs.take i).map kf ∧ DqKV K M2 acc ((xs.take i).map fun a => (keyD (kf a), vf a)) ∧ Ok K H0 M0 (wipeE env vs) fw (wipe σ vs) H M2
  refine ⟨fun i m H => m = xs.length - i ∧ i ≤ xs.length ∧ Pv i H, ⟨xs.length, by simp, Nat.zero_le _, M1, [], ⟨fun a u e => ?_, Same.refl M1, fun a u e => ?_, fun _ _ e => .inl e⟩, mD, upd_same, rfl, .nil, kw.side zD mD nD⟩, ?_⟩
  · rw [upd_ne (fun z => by rw [z, hD] at e; cases e)]; exact e
  · rw [upd_ne (fun z => by rw [z, mD] at e; cases e)]; exact x1.s a u e
  rintro i m H2 ⟨rfl, hi, M2, acc, x2, m2, h2, ka, a2, k2⟩
  have hgo := hG H2 M2 x2.m x2.s
  by_cases hlt : i < xs.length
  · refine .inr ⟨w.goes i H2 hlt hgo, Pv (i + 1), fun H' p' => ⟨xs.length - (i + 1), by omega, rfl, hlt, p'⟩, fun x H3 y => ?_⟩
    obtain ⟨M3, d, x3, hd', dv⟩ := hY i H2 M2 x H3 hlt x2.m x2.s (w.yields i H2 x H3 hlt hgo y)
    obtain ⟨a, hda, rfl⟩ := mapget hd'
    clear hd'
    obtain ⟨env2, is, hg, his, hk, hv⟩ := hs i a hda
    refine hg H0 M0 H3 M3 fw (wipe σ vs) x _ (k2.ext x3) dv fun σ4 f4 k4 e4 l4 ff4 => ⟨wipe_eq e4 l4 his, ?_⟩
    have out : ∀ {H' M'}, Ext H2 M2 H' M' → M' D = none := fun {H' M'} z => by
      cases c : M' D with
      | none => rfl
      | some u =>
        rcases z.n D u c with e | e
        · rw [m2] at e; cases e
        · rw [h2] at e; cases e
    show (if (true = true) then tk σ4 H3 (fun y H4 => tv σ4 H4 fun z H5 => ∃ kvs k, y = kV k ∧ H5 D = some (.dK kvs) ∧ kvs.length < sizeLine ∧ Pv (i + 1) (upd H5 D (.dK (putK kvs k z)))) else Pv (i + 1) H3)
    rw [if_pos rfl]
    refine hk H0 M0 H3 M3 f4 σ4 _ k4 fun y H5 M5 x5 dy => hv H0 M0 H5 M5 f4 σ4 _ (k4.ext x5) fun z H6 M6 x6 dz => ?_
    have x36 := (x3.trans x5).trans x6
    have m6 := out x36
    have hlen : acc.length = i := by
      have e := congrArg List.length ka
      rw [List.length_map, List.length_map, List.length_take] at e
      omega
    refine ⟨acc, kf a, keyV_dq dy, x36.h _ _ h2, by omega, M6, putK acc (kf a) z, ?_, m6, upd_same, ?_, ?_, (k2.ext x36).side zD m6 nD⟩
    · have z := x2.trans x36
      refine ⟨fun b u e => ?_, z.m, fun b u e => ?_, z.n⟩
      · rw [upd_ne (fun z => by rw [z, hD] at e; cases e)]; exact z.h b u e
      · rw [upd_ne (fun z => by rw [z, m6] at e; cases e)]; exact z.s b u e
    all_goals
      have hnew : kf a ∉ acc.map (·.1) := by
        rw [ka]
        intro hm
        obtain ⟨j, hj⟩ := List.getElem?_of_mem hm
        rw [List.getElem?_map] at hj
        have hj2 : j < i := by
          have := List.length_take_le i xs
          cases c : (xs.take i)[j]? with
          | none => rw [c] at hj; cases hj
          | some _ => have := (List.getElem?_eq_some_iff.mp c).1; omega
        have e1 : (xs.map kf)[j]? = some (kf a) := by
          rw [List.getElem?_map]
          rw [List.getElem?_take_of_lt hj2] at hj
          exact hj
        have e2 : (xs.map kf)[i]? = some (kf a) := by rw [List.getElem?_map, hda]; rfl
        have := (List.getElem?_inj (by rw [List.length_map]; omega) hnd).mp (e1.trans e2.symm)
        omega
      have eput : putK acc (kf a) z = acc ++ [(kf a, z)] := by
        unfold putK
        rw [if_neg]
        intro hh
        obtain ⟨p, hp, e⟩ := List.any_eq_true.mp hh
        exact hnew (List.mem_map.mpr ⟨p, hp, of_decide_eq_true e⟩)
      rw [eput]
    · rw [List.map_append, ka, take_snoc hda, List.map_append]; rfl
    · rw [take_snoc hda, List.map_append]
      exact DqKV.app (DqKV.same x36.m a2) (.cons dz .nil)
  · have e : i = xs.length := by omega
    subst e
    refine .inl ⟨w.stops H2 hgo, ?_⟩
    rw [List.take_of_length_le (Nat.le_refl _)] at a2
    refine q _ H2 (upd M2 D (.dK acc)) (x1.trans ⟨x2.h, fun a u e => ?_, fun a u e => ?_, fun a u e => ?_⟩) (.dct upd_same (DqKV.same (fun a u e => ?_) a2))
    · rw [upd_ne (fun z => by rw [z, mD] at e; cases e)]; exact x2.m a u e
    · by_cases z : a = D
      · subst z; rw [upd_same] at e; rw [← Option.some.inj e]; exact h2
      · rw [upd_ne z] at e; exact x2.s a u e
    · by_cases z : a = D
      · subst z; exact .inr hD
      · rw [upd_ne z] at e; exact x2.n a u e
    · rw [upd_ne (fun z => by rw [z, m2] at e; cases e)]; exact e
theorem e_m1 {r : V → List V → Hp → VK → Prop} {to te : TE} {a : Str} {e c : PyData} (ho : Pe K to env (.str a)) (he : Pe K te env e) (hr : Pm K r (.str a) [e] c) : Pe K (tM1 r to te) env c := fun H0 M0 H M fps σ Q k q =>
  ho H0 M0 H M fps σ _ k fun x H1 M1 x1 dx => ⟨⟨a, dq_str dx⟩, he H0 M0 H1 M1 fps σ _ (k.ext x1) fun y H2 M2 x2 dy => hr H2 M2 x [y] Q x2.s (Dq.same x2.m dx) (.cons dy .nil) fun v H3 M3 x3 dv => q v H3 M3 ((x1.trans x2).trans x3) dv⟩
theorem dqA_strs {M : Hp} : ∀ {vs : List V} {zs : List Str}, DqAll K M vs (zs.map .str) → vs = zs.map V.str
  | _, [], h => dqA_nil h
  | _, z :: zs, h => by
    cases h with | cons a b =>
    rw [dq_str a, dqA_strs b]; rfl
theorem m_join {a : Str} {zs : List Str} (h : (zs.map (·.length)).sum + zs.length * a.length ≤ 16777216) : Pm K (fun x xs H Q => ∃ a p, ∃ ys : List Str, x = .str a ∧ xs = [.ref p] ∧ (SqL K H p (ys.map V.str) ∨ SqT K H p (ys.map V.str)) ∧
    (ys.map (·.length)).sum + ys.length * a.length ≤ 16777216 ∧ Q (.str (Txt.join a ys)) H) (.str a) [.list (zs.map .str)] (.str (Txt.join a zs)) := fun H M x vs Q s hx hv0 q => by
  obtain ⟨v, rfl, hv⟩ := dqA_one hv0
  obtain ⟨p, xs, rfl, h1, h2⟩ := dq_lstI hv
  rw [dqA_strs h2] at h1
  exact ⟨a, p, zs, dq_str hx, rfl, .inl (SqL.of (s _ _ h1)), h, q _ H M (Ext.refl s) (.str _)⟩
end
end Y


/-! ### steps by themselves -/
open Y
theorem cxK {CX : CXT} {P : Program} {w : World} {K : PySem.W.Frag} {mg : Str → Option Value} {base : Heap} {N : List Str} {q : Str} {sc : Scope} {f : Addr} {cd : Value} {A : Around} {outer : List Env} {s : Shared} {H : Hp} {E : XK} : (cxOf CX P w K mg base N q sc f cd A outer s H E).nox.K = K := rfl
theorem cxK' {CX : CXT} {P : Program} {w : World} {K : PySem.W.Frag} {mg : Str → Option Value} {base : Heap} {N : List Str} {q : Str} {sc : Scope} {f : Addr} {cd : Value} {A : Around} {outer : List Env} {s : Shared} {H : Hp} {E : XK} : (cxOf CX P w K mg base N q sc f cd A outer s H E).K = K := rfl
def ySpLaw (K : PySem.W.Frag) : Sp := fun vs H Q _ => ∃ (a : Addr) (ns : List Int), vs = [.ref a] ∧ SqL K H a (ns.map V.int) ∧ ns.length ≤ 63 ∧ ∀ H', Q (.bl true) H'


open Y
local macro_rules
  | `(tactic| tb_start) => `(tactic| ((try dsimp only [cxK, cxK', List.map, List.length_cons, List.length_nil, List.cons_append, List.nil_append, Nat.reduceAdd, Nat.reduceSub, Nat.zero_add, Nat.add_zero, List.replicate, List.set]); repeat (first | ((with_reducible change Pe _ _ _ _); (first | ((with_reducible apply e_var); rfl) | ((with_reducible change Pe _ (tC _) _ _); (first | (with_reducible apply e_int) | (with_reducible apply e_str) | (with_reducible apply e_bl) | (with_reducible apply e_non))) | ((with_reducible change Pe _ (tOp _ _ _) _ _); (first | ((with_reducible apply e_scrIx); rfl) | ((with_reducible apply e_ownIx); rfl) | (with_reducible apply e_op))) | ((with_reducible change Pe _ (tCall _ _ _ _) _ _); (first | ((with_reducible apply e_callS); rfl) | (with_reducible apply e_call) | ((with_reducible apply e_of); (with_reducible apply f_call)))) | ((with_reducible change Pe _ (tCB _ _) _ _); (first | ((with_reducible apply e_scrLen); rfl) | ((with_reducible apply e_ownLen); rfl) | (with_reducible apply e_cb))) | (with_reducible apply e_tup) | (with_reducible apply e_lst) | (with_reducible apply e_sl) | (with_reducible apply e_ifS) | (with_reducible apply e_un) | (with_reducible apply e_and) | (with_reducible apply e_or) | (with_reducible apply e_not) | (with_reducible apply e_chain) | (with_reducible apply e_dget) | (with_reducible apply e_din) | (with_reducible apply e_m1))) | ((with_reducible change Pa _ _ _ _); (first | (with_reducible apply a_nil) | (with_reducible apply a_cons))) | ((with_reducible change Po _ _ _ _ _); (first | (with_reducible apply o_i0) | (with_reducible apply o_b0) | (with_reducible apply o_iC) | (with_reducible apply o_eqI) | (with_reducible apply o_neI) | (with_reducible apply o_ixL) | (with_reducible apply o_ixT) | (with_reducible apply o_eqS) | (with_reducible apply o_neS) | (with_reducible apply o_eqB) | (with_reducible apply o_neB) | (with_reducible apply o_isN) | (with_reducible apply o_notN) | (with_reducible apply o_ip) | (with_reducible apply o_addS) | (with_reducible apply o_inS) | (with_reducible apply o_cat) | (with_reducible apply o_catA) | (with_reducible apply o_ixS))) | ((with_reducible change Pc _ _ _ _); (first | (with_reducible apply c_int) | (with_reducible apply c_lenL) | (with_reducible apply c_lenT) | (with_reducible apply c_lenS) | (with_reducible apply c_intB) | (with_reducible apply c_ord) | (with_reducible apply c_max2) | (with_reducible apply c_min2) | (with_reducible apply c_listL) | (with_reducible apply c_listT) | (with_reducible apply c_tupL) | (with_reducible apply c_tupT))) | ((with_reducible change Pt _ _ _ _); (first | (with_reducible apply t_test) | (with_reducible apply t_b) | (with_reducible apply t_and) | (with_reducible apply t_or) | (with_reducible apply t_not) | (with_reducible apply t_yes))) | ((with_reducible change Ps _ _ _ _ _ _ _); (first | dsimp only [List.set] | (with_reducible apply s_assoc) | (with_reducible apply s_seq_next) | (with_reducible apply s_next) | ((with_reducible change Ps _ _ _ _ (tSeq (tRet _) _) _ _); (first | ((with_reducible apply s_seq_retO); rfl) | (with_reducible apply s_seq_ret))) | ((with_reducible change Ps _ _ _ _ (tRet _) _ _); (first | ((with_reducible apply s_retO); rfl) | (with_reducible apply s_ret))) | (with_reducible apply s_seq_if) | (with_reducible apply s_if) | tb_rel | (with_reducible apply s_seq_new0) | (with_reducible apply s_seq_callF) | ((with_reducible apply s_seq_app); rfl) | ((with_reducible apply s_app); rfl) | (with_reducible apply s_seq_set) | (with_reducible apply s_set) | ((with_reducible apply s_seq_aug); rfl) | ((with_reducible apply s_aug); rfl) | (with_reducible apply s_seq_asg) | (with_reducible apply s_asg))) | ((with_reducible change Psl _ _ _ _); (first | (with_reducible apply p_no) | (with_reducible apply p_at))) | ((with_reducible change Psr _ _ _ _ _ _); (first | (with_reducible assumption) | (with_reducible apply sl_L) | (with_reducible apply sl_T) | (with_reducible apply sl_S))) | ((with_reducible change Pw _ _ _ _); (first | (with_reducible apply w_list) | (with_reducible apply w_tup) | (with_reducible apply w_str) | (with_reducible apply w_range1) | (with_reducible apply w_range2) | (with_reducible apply w_enum) | (with_reducible apply w_zip))) | ((with_reducible change Pg _ _ _ _ _ _); (first | (with_reducible apply g_name) | (with_reducible apply g_tup))) | ((with_reducible change Pgs _ _ _ _ _ _); (first | (with_reducible apply gs_nil) | (with_reducible apply gs_cons))) | (with_reducible apply u_i) | tb_rel | (with_reducible assumption) | (first | ((change CMul _ _); first | exact .inl ⟨by (first | decide | omega), by (first | decide | omega)⟩ | exact .inr ⟨by (first | decide | omega), by (first | decide | omega)⟩) | ((change CDiv _ _); exact ⟨by (first | decide | omega), by (first | decide | omega)⟩) | ((change CPow _ _); exact ⟨by decide, by decide, by decide⟩) | ((change @Eq PyData _ _); rfl) | ((change List.length _ = _); rfl) | ((change atI _ _ = some _); rfl) | ((change _ < List.length _); simp only [List.length_cons, List.length_nil]; omega) | ((change -(2 ^ 62) ≤ _); (first | decide | omega)) | ((change _ < 2 ^ 62); (first | decide | omega)) | ((change (0 : Int) < _); (first | decide | omega)) | ((change _ ≠ (0 : Int)); (first | decide | omega)) | ((change (0 : Int) ≤ _); (first | decide | omega)) | ((change _ ≤ sizeLine); (first | decide | (unfold sizeLine; first | omega | (simp only [List.length_cons, List.length_nil, List.length_append, List.length_map, List.length_take, List.length_drop, List.length_range]; omega)))) | ((change _ < sizeLine); (first | decide | (unfold sizeLine; first | omega | (simp only [List.length_cons, List.length_nil, List.length_append, List.length_map, List.length_take, List.length_drop, List.length_range]; omega))))) | (first | ((with_reducible intro hb); (first | (exfalso; exact Bool.noConfusion (show true = false from hb)) | (exfalso; exact Bool.noConfusion (show false = true from hb)) | ((try simp only [Bool.and_eq_true, Bool.or_eq_true, Bool.and_eq_false_imp, Bool.or_eq_false_iff, Bool.not_eq_true', Bool.not_eq_false', Bool.not_eq_true, Bool.not_eq_false, decide_eq_true_eq, decide_eq_false_iff_not, Bool.not_not, List.length_map, isN, Bool.false_or, Bool.true_or, Bool.or_false, Bool.true_and, Bool.and_true, Bool.false_and, Bool.not_true, Bool.not_false, Bool.false_eq_true, Bool.true_eq_false, reduceCtorEq] at hb); first | (exfalso; omega) | (exfalso; contradiction) | skip)))) | dsimp only [List.set] | ((with_reducible change Bool); exact false) | ((with_reducible change PyData); exact PyData.none))))


/-! ### cells and digits of the script (laws of the later stages) -/
section
variable {P : Program} {w : World} {K : PySem.W.Frag} {mg : Str → Option Value} {base : Heap} {A : Nat → Addr} {D : Nat → FuncData}
def cellF (ns : List Int) (k : Nat) : Int := ns.getD k 0
inductive RCell (ns : List Int) : List PyData → PyData → Prop
  | mk (k : Nat) : RCell ns [.int (k : Int)] (.int (cellF ns k))
theorem at_cell {ns : List Int} {k : Nat} (h : k < ns.length) : atI ns (k : Int) = some (cellF ns k) := atI_nat (by unfold cellF; rw [List.getD_eq_getElem?_getD, List.getElem?_eq_getElem h]; rfl)
theorem cell_out {ns : List Int} {k : Nat} (h : ¬ k < ns.length) : cellF ns k = 0 := by unfold cellF; rw [List.getD_eq_getElem?_getD, List.getElem?_eq_none (by omega)]; rfl
theorem ok__law_cell (T : Txt K mg A D) : FnOk P w K mg base CX0 1 (A 4) (D 4) ["script", "k"] (PFS K RCell) := by
  refine T.F__law_cell.ok (k := 0) sc__law_cell (PFS.len (by rintro _ _ _ ⟨⟩ <;> rfl)) (fun cdv A' outer s H vs Q E hr h => ?_)
  have hnd := sc__law_cell.nd
  refine ⟨_, (pss_cons (ps_if (pt_cmpR op_lt (pv 1) (pe_callB call_len_seq rfl T.z_len PySem.boot_len (pa_cons (pv 0) pa_nil)) (nomark _)) (pss_one (ps_ret (pe_ix (r := rIxL K) ix_list (pv 0) (pv 1) (fun _ _ => rfl)))) pss_nil) (pss_one (ps_ret pe_int))), runS h ?_⟩
  rintro ns _ _ ⟨k⟩
  by_cases c : k < ns.length
  · tb_start
    · exact at_cell c
    tb_start
  · have e := cell_out c
    tb_start
    rw [e]
end


/-! ### digits -/
section
variable {P : Program} {w : World} {K : PySem.W.Frag} {mg : Str → Option Value} {base : Heap} {A : Nat → Addr} {D : Nat → FuncData}
def stepB (m : Int) (p : Int × List Int) : Int × List Int := if 0 < p.1 ∧ (p.2.length : Int) < m then (p.1 / 1000, p.2 ++ [p.1 % 1000]) else p
def bigN (m c : Int) : Nat → Int × List Int
  | 0 => (c, [])
  | n + 1 => stepB m (bigN m c n)
def seedN (s : Int) : Nat → Int
  | 0 => s
  | n + 1 => (seedN s n * 16807 + 7 * (n : Int) + 1) % 2147483647
def absC (c : Int) : Int := if c < 0 then -1 - c else c
def smallD (s : Int) (n : Nat) : List Int := (List.range n).map fun i => (seedN s (i + 1) / 997) % 1000
def digF0 (c k m : Int) : List Int := if 10 ^ 18 ≤ absC c then (bigN m (absC c) 60).2 else smallD ((absC c * 48271 + k * 69621 + 11) % 2147483647) m.toNat
theorem digF_ex : ∃ f : Int → Int → Int → List Int, ∀ c k m, f c k m = digF0 c k m := ⟨_, fun _ _ _ => rfl⟩
noncomputable def digF : Int → Int → Int → List Int := Classical.choose digF_ex
theorem digF_eq (c k m : Int) : digF c k m = digF0 c k m := Classical.choose_spec digF_ex c k m
theorem smallD_succ (s : Int) (n : Nat) : smallD s (n + 1) = smallD s n ++ [(seedN s (n + 1) / 997) % 1000] := by
  unfold smallD
  rw [List.range_succ, List.map_append]; rfl
theorem bigN_len (m c : Int) : ∀ n, (bigN m c n).2.length ≤ n
  | 0 => Nat.le_refl 0
  | n + 1 => by
    have ih := bigN_len m c n
    show (stepB m (bigN m c n)).2.length ≤ n + 1
    unfold stepB
    split
    · rw [List.length_append]
      exact Nat.succ_le_succ ih
    · omega
theorem bigN_pos (m c : Int) : ∀ n, ∀ d ∈ (bigN m c n).2, 0 ≤ d
  | 0, d, h => nomatch h
  | n + 1, d, h => by
    have ih := bigN_pos m c n
    change d ∈ (stepB m (bigN m c n)).2 at h
    unfold stepB at h
    split at h
    · rcases List.mem_append.mp h with h | h
      · exact ih d h
      · rw [List.mem_singleton.mp h]
        exact Int.emod_nonneg _ (by decide)
    · exact ih d h
theorem digF_pos (c k m : Int) : ∀ d ∈ digF c k m, 0 ≤ d := fun d h => by
  rw [digF_eq] at h
  unfold digF0 at h
  split at h
  · exact bigN_pos _ _ _ d h
  · unfold smallD at h
    obtain ⟨i, _, rfl⟩ := List.mem_map.mp h
    exact Int.emod_nonneg _ (by decide)
theorem digF_len (c k m : Int) (hm : m ≤ 60) : (digF c k m).length ≤ 60 := by
  rw [digF_eq]
  unfold digF0
  split
  · exact bigN_len _ _ _
  · unfold smallD
    rw [List.length_map, List.length_range]; omega
inductive RDig : List PyData → List PyData → Prop
  | mk (c k m : Int) (h0 : 0 ≤ m) (h1 : m ≤ 60) : RDig [.int c, .int k, .int m] ((digF c k m).map .int)
theorem snocI {ds : List Int} {z : Int} : ds.map PyData.int ++ [.int z] = (ds ++ [z]).map .int := by rw [List.map_append]; rfl
theorem seedN_range (s : Int) (h : 0 ≤ s ∧ s < 2147483647) : ∀ n, 0 ≤ seedN s n ∧ seedN s n < 2147483647
  | 0 => h
  | n + 1 => ⟨Int.emod_nonneg _ (by decide), Int.emod_lt_of_pos _ (by decide)⟩
theorem ok__law_digits (T : Txt K mg A D) : FnOk P w K mg base CX0 1 (A 5) (D 5) ["cell", "k", "most"] (PFO K RDig) := by
  refine T.F__law_digits.ok (k := 0) sc__law_digits (PFO.len (by rintro _ _ ⟨⟩ <;> rfl)) (fun cdv A' outer s H vs Q E hr h => ?_)
  have hnd := sc__law_digits.nd
  refine ⟨_, (pss_cons (ps_set (i := 3) hnd rfl (Or.inl rfl) (pe_lst pa_nil)) (pss_cons (ps_if (pt_cmpR op_lt (pv 0) pe_int (nomark _)) (pss_one (ps_set (i := 0) hnd rfl (Or.inl rfl) (pe_op op_sub (pe_un un_neg pe_int) (pv 0)))) pss_nil) (pss_cons (ps_if (pt_cmpR op_ge (pv 0) (pe_op op_pow pe_int pe_int) (nomark _)) (pss_one (ps_for PassesOwn.never rfl (pi_range1 rfl T.z_range (pa_cons pe_int pa_nil)) (pg_name (i := 4) hnd rfl (Or.inl rfl)) (pss_one (ps_if (PW.pt (pw_and (pt_cmpR op_gt (pv 0) pe_int (nomark _)) (pw_and1 (pt_cmpR op_lt (pe_callB call_len_seq rfl T.z_len PySem.boot_len (pa_cons (pv 3) pa_nil)) (pv 2) (nomark _))))) (pss_cons (ps_expr (pe_bm PySem.F.plainAttrs_list PySem.F.slot_list_append PySem.F.type_list_append mt_append (pv 3) (pa_cons (pe_op op_mod (pe_callTy call_int1 rfl T.z_int (by decide +kernel) (pa_cons (pv 0) pa_nil)) pe_int) pa_nil))) (pss_one (ps_set (i := 0) hnd rfl (Or.inl rfl) (pe_op op_fdiv (pv 0) pe_int)))) pss_nil)))) (pss_cons (ps_set (i := 5) hnd rfl (Or.inl rfl) (pe_op op_mod (pe_callTy call_int1 rfl T.z_int (by decide +kernel) (pa_cons (pe_op op_add (pe_op op_add (pe_op op_mul (pv 0) pe_int) (pe_op op_mul (pv 1) pe_int)) pe_int) pa_nil)) pe_int)) (pss_one (ps_for PassesOwn.never rfl (pi_range1 rfl T.z_range (pa_cons (pv 2) pa_nil)) (pg_name (i := 4) hnd rfl (Or.inl rfl)) (pss_cons (ps_set (i := 5) hnd rfl (Or.inl rfl) (pe_op op_mod (pe_callTy call_int1 rfl T.z_int (by decide +kernel) (pa_cons (pe_op op_add (pe_op op_add (pe_op op_mul (pv 5) pe_int) (pe_op op_mul pe_int (pv 4))) pe_int) pa_nil)) pe_int)) (pss_one (ps_expr (pe_bm PySem.F.plainAttrs_list PySem.F.slot_list_append PySem.F.type_list_append mt_append (pv 3) (pa_cons (pe_op op_mod (pe_callTy call_int1 rfl T.z_int (by decide +kernel) (pa_cons (pe_op op_fdiv (pv 5) pe_int) pa_nil)) pe_int) pa_nil))))))))) (pss_one (ps_ret (pv 3)))))), runO h ?_⟩
  rintro _ _ ⟨c, k, m, h0, h1⟩
  (try dsimp only [cxK, cxK', List.map, List.length_cons, List.length_nil, List.cons_append, List.nil_append, Nat.reduceAdd, Nat.reduceSub, Nat.zero_add, Nat.add_zero, List.replicate, List.set])
  apply s_seq_new0
  · exact Nat.lt_of_sub_pos (Nat.zero_lt_succ _)
  (try dsimp only [cxK, cxK', List.map, List.length_cons, List.length_nil, List.cons_append, List.nil_append, Nat.reduceAdd, Nat.reduceSub, Nat.zero_add, Nat.add_zero, List.replicate, List.set])
  apply s_mid (fun e => e = [.val (.int (absC c)), .val (.int k), .val (.int m), ownL K [], .unk, .unk])
  · by_cases hc : c < 0
    · have e : absC c = -1 - c := if_pos hc
      rw [e]
      tb_start
    · have e : absC c = c := if_neg hc
      rw [e]
      tb_start
  rintro _ rfl
  apply s_mid (fun e => ∃ x y z, e = [x, .val (.int k), .val (.int m), ownL K ((digF c k m).map .int), y, z])
  · by_cases hb : (10 : Int) ^ Int.toNat 18 ≤ absC c
    · have e : digF c k m = (bigN m (absC c) 60).2 := (digF_eq c k m).trans (if_pos hb)
      rw [e]
      tb_start
      refine s_for (xs := List.range 60) (enc := encR 0) (fun i e => ∃ x, e = [.val (.int (bigN m (absC c) i).1), .val (.int k), .val (.int m), ownL K ((bigN m (absC c) i).2.map .int), x, .unk]) (fun _ => False) ?_ ⟨_, rfl⟩ ?_ ?_ (fun _ z => z.elim)
      · exact w_range1 (j := 60) (by tb_start) (by decide) (by decide)
      · rintro i a _ ha ⟨x, rfl⟩
        refine ⟨_, _, g_name, ?_⟩
        have hl := bigN_len m (absC c) i
        have hi : i < 60 := by have := (List.getElem?_eq_some_iff.mp ha).1; rwa [List.length_range] at this
        by_cases hh : 0 < (bigN m (absC c) i).1 ∧ ((bigN m (absC c) i).2.length : Int) < m
        · have e2 : bigN m (absC c) (i + 1) = ((bigN m (absC c) i).1 / 1000, (bigN m (absC c) i).2 ++ [(bigN m (absC c) i).1 % 1000]) := if_pos hh
          simp only [e2, ← snocI]
          obtain ⟨h1, h2⟩ := hh
          tb_start
          · exact ⟨_, rfl⟩
          tb_start
        · have e2 : bigN m (absC c) (i + 1) = bigN m (absC c) i := if_neg hh
          simp only [e2]
          tb_start
          exact ⟨_, rfl⟩
      · rintro _ ⟨x, rfl⟩
        rw [List.length_range]
        exact ⟨_, _, _, rfl⟩
      tb_start
    · have e : digF c k m = smallD ((absC c * 48271 + k * 69621 + 11) % 2147483647) m.toNat := (digF_eq c k m).trans (if_neg hb)
      rw [e]
      tb_start
      generalize hs : (absC c * 48271 + k * 69621 + 11) % 2147483647 = s
      have hr : 0 ≤ s ∧ s < 2147483647 := by rw [← hs]; exact ⟨Int.emod_nonneg _ (by decide), Int.emod_lt_of_pos _ (by decide)⟩
      refine s_for (xs := List.range m.toNat) (enc := encR 0) (fun i e => ∃ x, e = [.val (.int (absC c)), .val (.int k), .val (.int m), ownL K ((smallD s i).map .int), x, .val (.int (seedN s i))]) (fun _ => False) ?_ ⟨_, rfl⟩ ?_ ?_ (fun _ z => z.elim)
      · exact w_range1 (j := m) (by tb_start) (by omega) (by omega)
      · rintro i a _ ha ⟨x, rfl⟩
        refine ⟨_, _, g_name, ?_⟩
        obtain ⟨hi, ea⟩ := List.getElem?_eq_some_iff.mp ha
        rw [List.length_range] at hi
        rw [List.getElem_range] at ea
        subst ea
        have hq := seedN_range s hr i
        have hl : (smallD s i).length = i := by unfold smallD; rw [List.length_map, List.length_range]
        simp only [smallD_succ, ← snocI, encR, Int.zero_add]
        tb_start
        exact ⟨_, rfl⟩
      · rintro _ ⟨x, rfl⟩
        rw [List.length_range]
        exact ⟨_, _, _, rfl⟩
  · rintro _ ⟨x, y, z, rfl⟩
    tb_start
/-! padded digits -/
def zero20 (n : Nat) : List Int := (List.range n).map fun (i : Nat) => Int.ofNat i
theorem zero20_succ (n : Nat) : zero20 (n + 1) = zero20 n ++ [(n : Int)] := by
  unfold zero20
  rw [List.range_succ, List.map_append]; rfl
theorem padF_ex : ∃ f : Int → Int → List Int, ∀ c k, f c k = digF c k 20 ++ zero20 20 := ⟨_, fun _ _ => rfl⟩
noncomputable def padF : Int → Int → List Int := Classical.choose padF_ex
theorem padF_eq (c k : Int) : padF c k = digF c k 20 ++ zero20 20 := Classical.choose_spec padF_ex c k
inductive RPad : List PyData → List PyData → Prop
  | mk (c k : Int) : RPad [.int c, .int k] ((padF c k).map .int)
local macro_rules
  | `(tactic| tb_rel) => `(tactic| ((with_reducible change RDig _ _); exact RDig.mk _ _ _ (by first | decide | omega) (by first | decide | omega)))
theorem ok__law_padded (T : Txt K mg A D) : FnOk P w K mg base CX0 2 (A 6) (D 6) ["cell", "k"] (PFO K RPad) := by
  refine T.F__law_padded.ok (k := 1) sc__law_padded (PFO.len (by rintro _ _ ⟨⟩ <;> rfl)) (fun cdv A' outer s H vs Q E hr h => ?_)
  have hnd := sc__law_padded.nd
  have G__law_digits := ok__law_digits (P := P) (w := w) (base := base) T
  refine ⟨_, (pss_cons (ps_set (i := 2) hnd rfl (Or.inl rfl) (pe_call G__law_digits (hr.mono (by first | decide | omega)) rfl T.m__law_digits T.F__law_digits.kp T.b__law_digits .nil pass0 (pa_cons (pv 0) (pa_cons (pv 1) (pa_cons pe_int pa_nil))))) (pss_cons (ps_for PassesOwn.never rfl (pi_range1 rfl T.z_range (pa_cons pe_int pa_nil)) (pg_name (i := 3) hnd rfl (Or.inl rfl)) (pss_one (ps_expr (pe_bm PySem.F.plainAttrs_list PySem.F.slot_list_append PySem.F.type_list_append mt_append (pv 2) (pa_cons (pv 3) pa_nil))))) (pss_one (ps_ret (pv 2))))), runO h ?_⟩
  rintro _ _ ⟨c, k⟩
  have hl := digF_len c k 20 (by decide)
  tb_start
  refine s_seq_for (xs := List.range 20) (enc := encR 0) (fun i e => ∃ x, e = [.val (.int c), .val (.int k), ownL K ((digF c k 20 ++ zero20 i).map .int), x]) (fun _ => False) ?_ ⟨_, by rw [show zero20 0 = [] from rfl, List.append_nil]⟩ ?_ ?_ (fun _ z => z.elim)
  · exact w_range1 (j := 20) (by tb_start) (by decide) (by decide)
  · rintro i a _ ha ⟨x, rfl⟩
    refine ⟨_, _, g_name, ?_⟩
    obtain ⟨hi, ea⟩ := List.getElem?_eq_some_iff.mp ha
    rw [List.length_range] at hi
    rw [List.getElem_range] at ea
    subst ea
    have hz : (zero20 i).length = i := by unfold zero20; rw [List.length_map, List.length_range]
    simp only [zero20_succ, ← List.append_assoc]
    simp only [← snocI, encR, Int.zero_add]
    tb_start
    exact ⟨_, rfl⟩
  · rintro _ ⟨x, rfl⟩
    rw [List.length_range]
    rw [padF_eq]
    tb_start
theorem padF_len (c k : Int) : 20 ≤ (padF c k).length := by
  rw [padF_eq]
  unfold zero20
  rw [List.length_append, List.length_map, List.length_range]; omega
theorem padF_pos (c k : Int) : ∀ d ∈ padF c k, 0 ≤ d := fun d h => by
  rw [padF_eq] at h
  rcases List.mem_append.mp h with h | h
  · exact digF_pos _ _ _ d h
  · unfold zero20 at h
    obtain ⟨i, _, rfl⟩ := List.mem_map.mp h
    exact Int.natCast_nonneg i
noncomputable def dG (c k : Int) (i : Nat) : Int := (padF c k).getD i 0
theorem at_pad {c k : Int} (i : Nat) (h : i < 20) : atI ((padF c k).map PyData.int) (i : Int) = some (.int (dG c k i)) := by
  have hl := padF_len c k
  refine atI_nat ?_
  unfold dG
  rw [List.getElem?_map, List.getD_eq_getElem?_getD, List.getElem?_eq_getElem (by omega)]; rfl
theorem dG_pos (c k : Int) (i : Nat) : 0 ≤ dG c k i := by
  unfold dG
  rw [List.getD_eq_getElem?_getD]
  cases h : (padF c k)[i]? with
  | none => exact Int.le_refl 0
  | some d => exact padF_pos c k d (List.mem_of_getElem? h)
def pick {α : Type} (l : List α) (r : Int) (d : α) : α := l.getD r.toNat d
theorem atP {α : Type} (f : α → PyData) (l : List α) (d : α) {r : Int} (h0 : 0 ≤ r) (h1 : r < (l.length : Int)) : atI (l.map f) r = some (f (pick l r d)) := by
  obtain ⟨n, rfl⟩ := Int.eq_ofNat_of_zero_le h0
  refine atI_nat ?_
  unfold pick
  rw [Int.toNat_natCast, List.getElem?_map, List.getD_eq_getElem?_getD, List.getElem?_eq_getElem (by omega)]; rfl
theorem pick_mem {α : Type} (l : List α) (d : α) {r : Int} (h0 : 0 ≤ r) (h1 : r < (l.length : Int)) : pick l r d ∈ l := by
  unfold pick
  rw [List.getD_eq_getElem?_getD, List.getElem?_eq_getElem (by omega)]
  exact List.getElem_mem _
theorem mod_r (a : Int) {m : Int} (h : 0 < m) : 0 ≤ a % m ∧ a % m < m := ⟨Int.emod_nonneg _ (by omega), Int.emod_lt_of_pos _ h⟩
theorem cutG_take {α : Type} (xs : List α) {n : Int} (h : 0 ≤ n) : cutG xs none (some n) = xs.take n.toNat := by
  show (xs.drop 0).take ((if n < 0 then (n + (xs.length : Int)).toNat else min n.toNat xs.length) - 0) = _
  rw [if_neg (by omega), List.drop_zero, Nat.sub_zero]
  by_cases c : n.toNat ≤ xs.length
  · rw [Nat.min_eq_left c]
  · rw [Nat.min_eq_right (by omega), List.take_of_length_le (Nat.le_refl _), List.take_of_length_le (by omega)]
theorem cutG_drop {α : Type} (xs : List α) {n : Int} (h : 0 ≤ n) : cutG xs (some n) none = xs.drop n.toNat := by
  show (xs.drop (if n < 0 then (n + (xs.length : Int)).toNat else min n.toNat xs.length)).take (xs.length - (if n < 0 then (n + (xs.length : Int)).toNat else min n.toNat xs.length)) = _
  rw [if_neg (by omega)]
  by_cases c : n.toNat ≤ xs.length
  · rw [Nat.min_eq_left c, List.take_of_length_le (by rw [List.length_drop]; omega)]
  · rw [Nat.min_eq_right (by omega), Nat.sub_self, List.take_zero, List.drop_eq_nil_of_le (by omega)]
end


/-! ### numbers as bytes -/
section
variable {P : Program} {w : World} {K : PySem.W.Frag} {mg : Str → Option Value} {base : Heap} {A : Nat → Addr} {D : Nat → FuncData}
def numB (n : Nat) : List Int := if h : n < 128 then [(n : Int)] else ((n % 128 + 128 : Nat) : Int) :: numB (n / 128)
termination_by n
decreasing_by omega
theorem numB_lt {n : Nat} (h : n < 128) : numB n = [(n : Int)] := by rw [numB, dif_pos h]
theorem numB_ge {n : Nat} (h : ¬ n < 128) : numB n = ((n % 128 + 128 : Nat) : Int) :: numB (n / 128) := by rw [numB, dif_neg h]
theorem numB_len : ∀ (k n : Nat), n < 128 ^ k → 0 < k → (numB n).length ≤ k
  | 0, n, _, h => absurd h (Nat.lt_irrefl 0)
  | k + 1, n, h, _ => by
    by_cases c : n < 128
    · rw [numB_lt c]; exact Nat.succ_le_succ (Nat.zero_le k)
    · rw [numB_ge c, List.length_cons]
      refine Nat.succ_le_succ (numB_len k (n / 128) ?_ ?_)
      · rw [Nat.pow_succ] at h
        omega
      · rcases k with _ | k
        · simp at h; omega
        · omega
theorem numB_pos (n : Nat) : 0 < (numB n).length := by
  by_cases c : n < 128
  · rw [numB_lt c]; exact Nat.one_pos
  · rw [numB_ge c]; exact Nat.succ_pos _
theorem numB_byte (n : Nat) : ∀ d ∈ numB n, 0 ≤ d ∧ d < 256 := by
  induction n using Nat.strongRecOn with
  | ind n ih =>
    intro d hd
    by_cases c : n < 128
    · rw [numB_lt c, List.mem_singleton] at hd
      omega
    · rw [numB_ge c] at hd
      rcases List.mem_cons.mp hd with hd | hd
      · omega
      · exact ih (n / 128) (by omega) d hd
/-- what stands where a number is read: its value with what stands so far, the index behind it -/
def rdG : List Int → Bool → Int → Int → Nat → Option (Int × Nat)
  | [], _, _, _, _ => none
  | d :: r, first, num, worth, i => if d < 128 then (if d = 0 ∧ first = false then none else some (num + d * worth, i + 1)) else rdG r false (num + (d - 128) * worth) (worth * 128) (i + 1)
def readN (data : List Int) (at_ : Nat) : Option (Int × Nat) := rdG (data.drop at_) true 0 1 at_
theorem rd_num : ∀ (n : Nat) (post : List Int) (first : Bool) (num worth : Int) (i : Nat), (first = true ∨ 0 < n) → rdG (numB n ++ post) first num worth i = some (num + (n : Int) * worth, i + (numB n).length) := by
  intro n
  induction n using Nat.strongRecOn with
  | ind n ih =>
    intro post first num worth i hf
    by_cases c : n < 128
    · rw [numB_lt c]
      show (if (n : Int) < 128 then _ else _) = _
      rw [if_pos (by omega), if_neg]
      · rfl
      · rintro ⟨h1, h2⟩
        rcases hf with hf | hf
        · rw [hf] at h2; cases h2
        · omega
    · rw [numB_ge c, List.cons_append]
      show (if (((n % 128 + 128 : Nat) : Int)) < 128 then _ else rdG (numB (n / 128) ++ post) false _ _ _) = _
      rw [if_neg (by omega)]
      rw [ih (n / 128) (by omega) post false _ _ _ (.inr (by omega))]
      have e1 : (((n % 128 + 128 : Nat) : Int) - 128) = ((n % 128 : Nat) : Int) := by omega
      have e2 : (n : Int) = 128 * ((n / 128 : Nat) : Int) + ((n % 128 : Nat) : Int) := by omega
      rw [e1, List.length_cons]
      congr 2
      · generalize ((n / 128 : Nat) : Int) = q at e2 ⊢
        generalize ((n % 128 : Nat) : Int) = r at e2 ⊢
        rw [e2, Int.add_mul, Int.add_assoc, Int.add_comm (r * worth), Int.mul_comm worth 128, ← Int.mul_assoc, Int.mul_comm q 128]
      · omega
theorem rd_none : ∀ (l : List Int) (first : Bool) (num worth : Int) (i : Nat), (∀ d ∈ l, 128 ≤ d) → rdG l first num worth i = none
  | [], _, _, _, _, _ => rfl
  | d :: r, _, _, _, _, h => by
    show (if d < 128 then _ else _) = _
    have := h d List.mem_cons_self
    rw [if_neg (by omega)]
    exact rd_none r _ _ _ _ fun x hx => h x (List.mem_cons_of_mem _ hx)
theorem numB_init : ∀ (n : Nat) (k : Nat), k < (numB n).length → ∀ d ∈ (numB n).take k, 128 ≤ d := by
  intro n
  induction n using Nat.strongRecOn with
  | ind n ih =>
    intro k hk d hd
    by_cases c : n < 128
    · rw [numB_lt c] at hk hd
      have : k = 0 := by simpa using hk
      subst this
      exact nomatch hd
    · rw [numB_ge c] at hk hd
      cases k with
      | zero => exact nomatch hd
      | succ k =>
        rw [List.take_succ_cons] at hd
        rcases List.mem_cons.mp hd with hd | hd
        · omega
        · exact ih (n / 128) (by omega) k (by simpa using hk) d hd
theorem readN_at (pre : List Int) (n : Nat) (post : List Int) : readN (pre ++ (numB n ++ post)) pre.length = some ((n : Int), pre.length + (numB n).length) := by
  unfold readN
  rw [List.drop_left, rd_num n post true 0 1 _ (.inl rfl)]
  simp
theorem readN_cut (pre : List Int) (n k : Nat) (hk : k < (numB n).length) : readN (pre ++ (numB n).take k) pre.length = none := by
  unfold readN
  rw [List.drop_left]
  exact rd_none _ _ _ _ _ (numB_init n k hk)
def oNN : Option (Int × Nat) → PyData
  | none => .none
  | some (a, b) => .tuple [.int a, .int (b : Nat)]
theorem snocJ {ds : List Int} {z : Int} : ds.map PyData.int ++ [.int z] = (ds ++ [z]).map .int := by rw [List.map_append]; rfl
inductive RNB : List PyData → List PyData → Prop
  | mk (n : Nat) (h : n < 128 ^ 20) : RNB [.int (n : Int)] ((numB n).map .int)
theorem ok_number_bytes (T : Txt K mg A D) : FnOk P w K mg base CX0 1 (A 0) (D 0) ["n"] (PFO K RNB) := by
  refine T.F_number_bytes.ok (k := 0) sc_number_bytes (PFO.len (by rintro _ _ ⟨⟩ <;> rfl)) (fun cdv A' outer s H vs Q E hr h => ?_)
  have hnd := sc_number_bytes.nd
  obtain ⟨_, hBASE⟩ := T.c_BASE
  refine ⟨_, (pss_cons (ps_set (i := 1) hnd rfl (Or.inl rfl) (pe_lst pa_nil)) (pss_cons (ps_while PassesOwn.never (pt_cmpR op_ge (pv 0) (pe_glob (v := V.int _) rfl hBASE ⟨_, rfl⟩) (nomark _)) (pss_cons (ps_expr (pe_bm PySem.F.plainAttrs_list PySem.F.slot_list_append PySem.F.type_list_append mt_append (pv 1) (pa_cons (pe_op op_add (pe_op op_modN (pv 0) (pe_glob (v := V.int _) rfl hBASE ⟨_, rfl⟩)) (pe_glob (v := V.int _) rfl hBASE ⟨_, rfl⟩)) pa_nil))) (pss_one (ps_set (i := 0) hnd rfl (Or.inl rfl) (pe_op op_fdivN (pv 0) (pe_glob (v := V.int _) rfl hBASE ⟨_, rfl⟩)))))) (pss_cons (ps_expr (pe_bm PySem.F.plainAttrs_list PySem.F.slot_list_append PySem.F.type_list_append mt_append (pv 1) (pa_cons (pv 0) pa_nil))) (pss_one (ps_ret (pv 1)))))), runO h ?_⟩
  rintro _ _ ⟨n, hn⟩
  have hl := numB_len 20 n hn (by decide)
  tb_start
  apply s_mid (fun e => ∃ (m : Nat) (acc : List Int), m < 128 ∧ acc ++ numB m = numB n ∧ e = [.val (.int (m : Int)), ownL K (acc.map .int)])
  · refine s_while (fun m e => ∃ acc : List Int, acc ++ numB m = numB n ∧ e = [.val (.int (m : Int)), ownL K (acc.map .int)]) n ⟨[], rfl, rfl⟩ ?_
    rintro m _ ⟨acc, hacc, rfl⟩
    refine ⟨decide ((128 : Int) ≤ (m : Int)), by tb_start, fun hb => ?_, fun hb => ?_⟩
    · have hm : ¬ m < 128 := by have := of_decide_eq_true hb; omega
      have hla : acc.length ≤ 20 := by
        have e := congrArg List.length hacc
        rw [List.length_append] at e; omega
      have e1 : Int.fmod (m : Int) 128 + 128 = ((m % 128 + 128 : Nat) : Int) := by rw [Int.fmod_eq_emod_of_nonneg _ (by decide)]; omega
      have e2 : Int.fdiv (m : Int) 128 = ((m / 128 : Nat) : Int) := by rw [Int.fdiv_eq_ediv_of_nonneg _ (by decide)]; omega
      tb_start
      · exact ⟨by decide, by decide⟩
      tb_start
      refine ⟨m / 128, by omega, acc ++ [((m % 128 + 128 : Nat) : Int)], ?_, ?_⟩
      · rw [List.append_assoc, ← hacc, numB_ge hm]; rfl
      · rw [e1, e2, snocJ]
    · have hm : m < 128 := by have := of_decide_eq_false hb; omega
      exact ⟨m, acc, hm, hacc, rfl⟩
  rintro _ ⟨m, acc, hm, hacc, rfl⟩
  have hla : acc.length ≤ 20 := by
    have e := congrArg List.length hacc
    rw [List.length_append] at e; omega
  rw [numB_lt hm] at hacc
  rw [← hacc, ← snocJ]
  tb_start
/-! read_number -/
inductive RRN : List PyData → PyData → Prop
  | mk (data : List Int) (a : Nat) (h : data.length ≤ 100000) (hb : ∀ d ∈ data, 0 ≤ d ∧ d < 1000) (ha : a ≤ 100000) : RRN [.list (data.map .int), .int (a : Int)] (oNN (readN data a))
theorem at_data {data : List Int} {i : Nat} (h : i < data.length) : atI (data.map PyData.int) (i : Int) = some (.int (data.getD i 0)) := by
  refine atI_nat ?_
  rw [List.getElem?_map, List.getD_eq_getElem?_getD, List.getElem?_eq_getElem h]; rfl
theorem rdG_step {data : List Int} {i : Nat} (h : i < data.length) (first : Bool) (num worth : Int) : rdG (data.drop i) first num worth i = if data.getD i 0 < 128 then (if data.getD i 0 = 0 ∧ first = false then none else some (num + data.getD i 0 * worth, i + 1)) else rdG (data.drop (i + 1)) false (num + (data.getD i 0 - 128) * worth) (worth * 128) (i + 1) := by
  rw [List.drop_eq_getElem_cons h, List.getD_eq_getElem?_getD, List.getElem?_eq_getElem h]; rfl
theorem toNat_sub (a b : Nat) : ((b : Int) - (a : Int)).toNat = b - a := by omega
theorem ok_read_number (T : Txt K mg A D) : FnOk P w K mg base CX0 1 (A 2) (D 2) ["data", "at"] (PF K RRN) := by
  refine T.F_read_number.ok (k := 0) sc_read_number (PF.len (by rintro _ _ ⟨⟩ <;> rfl)) (fun cdv A' outer s H vs Q E hr h => ?_)
  have hnd := sc_read_number.nd
  obtain ⟨_, hBASE⟩ := T.c_BASE
  refine ⟨_, (pss_cons (ps_set (i := 2) hnd rfl (Or.inl rfl) pe_int) (pss_cons (ps_set (i := 3) hnd rfl (Or.inl rfl) pe_int) (pss_cons (ps_for PassesOwn.never rfl (pi_range2 rfl T.z_range (pa_cons (pv 1) (pa_cons (pe_callB call_len_seq rfl T.z_len PySem.boot_len (pa_cons (pv 0) pa_nil)) pa_nil))) (pg_name (i := 4) hnd rfl (Or.inl rfl)) (pss_cons (ps_set (i := 5) hnd rfl (Or.inl rfl) (pe_ix (r := rIxL K) ix_list (pv 0) (pv 4) (fun _ _ => rfl))) (pss_cons (ps_if (pt_cmpR op_lt (pv 5) (pe_glob (v := V.int _) rfl hBASE ⟨_, rfl⟩) (nomark _)) (pss_cons (ps_if (PW.pt (pw_and (pt_cmpR op_eq (pv 5) pe_int (nomark _)) (pw_and1 (pt_cmpR op_gt (pv 4) (pv 1) (nomark _))))) (pss_one (ps_ret pe_non)) pss_nil) (pss_one (ps_ret (pe_tup (pa_cons (pe_op op_add (pv 2) (pe_op op_mul (pv 5) (pv 3))) (pa_cons (pe_op op_add (pv 4) pe_int) pa_nil)))))) pss_nil) (pss_cons (ps_aug (i := 2) hnd rfl (Or.inl rfl) (pe_op op_mul (pe_op op_sub (pv 5) (pe_glob (v := V.int _) rfl hBASE ⟨_, rfl⟩)) (pv 3)) ip_add) (pss_one (ps_aug (i := 3) hnd rfl (Or.inl rfl) (pe_glob (v := V.int _) rfl hBASE ⟨_, rfl⟩) iop_mul)))))) (pss_one (ps_ret pe_non))))), run h ?_⟩
  rintro _ _ ⟨data, a, hl, hb, ha⟩
  tb_start
  apply s_seq_for (xs := List.range (data.length - a)) (enc := encR (a : Int)) (fun i e => ∃ num worth x y, e = [.val (.list (data.map .int)), .val (.int (a : Int)), .val (.int num), .val (.int worth), x, y] ∧ readN data a = rdG (data.drop (a + i)) (decide (i = 0)) num worth (a + i)) (fun _ => False)
  · rw [← toNat_sub]
    apply w_range2
    · refine a_cons (d := .int (a : Int)) ?_ (a_cons (d := .int (data.length : Int)) ?_ a_nil)
      · tb_start
      · apply e_as <;> tb_start
        rw [List.length_map]
    · omega
    · omega
    · omega
    · omega
  · exact ⟨0, 1, _, _, rfl, rfl⟩
  · rintro i x _ hx ⟨num, worth, y, z, rfl, hr⟩
    obtain ⟨hi, ex⟩ := List.getElem?_eq_some_iff.mp hx
    rw [List.length_range] at hi
    rw [List.getElem_range] at ex
    subst ex
    refine ⟨_, _, g_name, ?_⟩
    have hlt : a + i < data.length := by omega
    rw [rdG_step hlt] at hr
    have e1 : atI (data.map PyData.int) ((a : Int) + (i : Nat)) = some (.int (data.getD (a + i) 0)) := at_data hlt
    have hd : 0 ≤ data.getD (a + i) 0 ∧ data.getD (a + i) 0 < 1000 := by
      rw [List.getD_eq_getElem?_getD, List.getElem?_eq_getElem hlt]
      exact hb _ (List.getElem_mem hlt)
    generalize data.getD (a + i) 0 = d at e1 hd hr
    by_cases h1 : d < 128
    · rw [if_pos h1] at hr
      by_cases h2 : d = 0 ∧ 0 < i
      · have hi0 : decide (i = 0) = false := decide_eq_false (by omega)
        rw [hi0, if_pos ⟨h2.1, rfl⟩] at hr
        rw [hr]
        obtain ⟨h3, h4⟩ := h2
        tb_start
      · rw [if_neg (by
          rintro ⟨h3, h4⟩
          exact h2 ⟨h3, by have := of_decide_eq_false h4; omega⟩)] at hr
        rw [hr]
        tb_start
    · rw [if_neg h1] at hr
      tb_start
      refine ⟨_, _, _, _, rfl, ?_⟩
      rw [decide_eq_false (by omega), ← Nat.add_assoc]
      exact hr
  · rintro _ ⟨num, worth, y, z, rfl, hr⟩
    rw [List.length_range, List.drop_eq_nil_of_le (by omega)] at hr
    rw [hr]
    tb_start
  · exact fun _ z => z.elim
end


section
variable {P : Program} {w : World} {K : PySem.W.Frag} {mg : Str → Option Value} {base : Heap} {A : Nat → Addr} {D : Nat → FuncData}
/-! the law's own -/
def lnN : Nat → Nat → Nat × List Int
  | _, 0 => (0, [])
  | n, 1 => (n, [])
  | n, k + 2 => (n, [])
inductive RLN : List PyData → List PyData → Prop
  | mk (n : Nat) (h : n < 128 ^ 20) : RLN [.int (n : Int)] ((numB n).map .int)
/-- after i turns -/
def stepL (p : Nat × List Int) : Nat × List Int := if p.1 < 128 then p else (p.1 / 128, p.2 ++ [((p.1 % 128 + 128 : Nat) : Int)])
def turnL (n : Nat) : Nat → Nat × List Int
  | 0 => (n, [])
  | i + 1 => stepL (turnL n i)
theorem turnL_inv (n : Nat) : ∀ i, (turnL n i).2 ++ numB (turnL n i).1 = numB n
  | 0 => rfl
  | i + 1 => by
    have ih := turnL_inv n i
    show (stepL (turnL n i)).2 ++ numB (stepL (turnL n i)).1 = numB n
    unfold stepL
    by_cases c : (turnL n i).1 < 128
    · rw [if_pos c]; exact ih
    · rw [if_neg c]
      dsimp only
      rw [List.append_assoc, ← ih, numB_ge c]; rfl
theorem turnL_lt (n k : Nat) (h : n < 128 ^ (k + 1)) : (turnL n k).1 < 128 := by
  have key : ∀ i, i ≤ k → (turnL n i).1 < 128 ^ (k + 1 - i) := by
    intro i
    induction i with
    | zero => intro _; exact h
    | succ i ih =>
      intro hi
      have h1 := ih (by omega)
      show (stepL (turnL n i)).1 < _
      unfold stepL
      by_cases c : (turnL n i).1 < 128
      · rw [if_pos c]
        refine Nat.lt_of_lt_of_le c ?_
        rw [show k + 1 - (i + 1) = (k - i - 1) + 1 by omega, Nat.pow_succ]
        have := Nat.pow_pos (n := k - i - 1) (show 0 < 128 by decide)
        omega
      · rw [if_neg c]
        rw [show k + 1 - i = (k + 1 - (i + 1)) + 1 by omega, Nat.pow_succ] at h1
        dsimp only
        omega
  have := key k (Nat.le_refl k)
  rwa [show k + 1 - k = 1 by omega, Nat.pow_one] at this
theorem ok__law_number (T : Txt K mg A D) : FnOk P w K mg base CX0 1 (A 7) (D 7) ["n"] (PFO K RLN) := by
  refine T.F__law_number.ok (k := 0) sc__law_number (PFO.len (by rintro _ _ ⟨⟩ <;> rfl)) (fun cdv A' outer s H vs Q E hr h => ?_)
  have hnd := sc__law_number.nd
  refine ⟨_, (pss_cons (ps_set (i := 1) hnd rfl (Or.inl rfl) (pe_lst pa_nil)) (pss_cons (ps_for PassesOwn.never rfl (pi_range1 rfl T.z_range (pa_cons pe_int pa_nil)) (pg_name (i := 2) hnd rfl (Or.inl rfl)) (pss_one (ps_if (pt_cmpR op_ge (pv 0) pe_int (nomark _)) (pss_cons (ps_expr (pe_bm PySem.F.plainAttrs_list PySem.F.slot_list_append PySem.F.type_list_append mt_append (pv 1) (pa_cons (pe_op op_add (pe_op op_mod (pe_callTy call_int1 rfl T.z_int (by decide +kernel) (pa_cons (pv 0) pa_nil)) pe_int) pe_int) pa_nil))) (pss_one (ps_set (i := 0) hnd rfl (Or.inl rfl) (pe_op op_fdiv (pv 0) pe_int)))) pss_nil))) (pss_cons (ps_expr (pe_bm PySem.F.plainAttrs_list PySem.F.slot_list_append PySem.F.type_list_append mt_append (pv 1) (pa_cons (pv 0) pa_nil))) (pss_one (ps_ret (pv 1)))))), runO h ?_⟩
  rintro _ _ ⟨n, hn⟩
  have hl := numB_len 20 n hn (by decide)
  have hlen : ∀ i, (turnL n i).2.length ≤ 20 := fun i => by
    have e := congrArg List.length (turnL_inv n i)
    rw [List.length_append] at e; omega
  tb_start
  apply s_seq_for (xs := List.range 20) (enc := encR 0) (fun i e => ∃ x, e = [.val (.int ((turnL n i).1 : Int)), ownL K ((turnL n i).2.map .int), x]) (fun _ => False)
  · exact w_range1 (j := 20) (by tb_start) (by decide) (by decide)
  · exact ⟨_, rfl⟩
  · rintro i x _ hx ⟨y, rfl⟩
    refine ⟨_, _, g_name, ?_⟩
    have h1 := hlen i
    by_cases c : (turnL n i).1 < 128
    · have e : turnL n (i + 1) = turnL n i := if_pos c
      rw [e]
      tb_start
      exact ⟨_, rfl⟩
    · have e : turnL n (i + 1) = ((turnL n i).1 / 128, (turnL n i).2 ++ [(((turnL n i).1 % 128 + 128 : Nat) : Int)]) := if_neg c
      rw [e]
      dsimp only
      rw [← snocJ]
      have e1 : ((turnL n i).1 : Int) % 128 + 128 = (((turnL n i).1 % 128 + 128 : Nat) : Int) := by omega
      have e2 : ((turnL n i).1 : Int) / 128 = (((turnL n i).1 / 128 : Nat) : Int) := by omega
      rw [← e1, ← e2]
      tb_start
      · exact ⟨_, rfl⟩
      tb_start
  · rintro _ ⟨y, rfl⟩
    have h1 := hlen 20
    have e := turnL_inv n 20
    have h2 := turnL_lt n 20 (Nat.lt_trans hn (by decide))
    rw [numB_lt h2] at e
    rw [List.length_range, ← e, ← snocJ]
    clear hlen
    generalize turnL n 20 = p at *
    tb_start
  · exact fun _ z => z.elim
end


section
variable {P : Program} {w : World} {K : PySem.W.Frag} {mg : Str → Option Value} {base : Heap} {A : Nat → Addr} {D : Nat → FuncData}
/-! ### strings as bytes -/
theorem len_cps (z : Str) : z.cps.toList.length = z.length := by rw [Array.length_toList]; rfl
def codes (z : Str) : List Int := z.cps.toList.map Int.ofNat
def textB (z : Str) : List Int := numB z.length ++ codes z
theorem numB_len3 {n : Nat} (h : n ≤ 100000) : (numB n).length ≤ 3 := numB_len 3 n (Nat.lt_of_le_of_lt h (by decide)) (by decide)
inductive RTB : List PyData → PyData → Prop
  | mk (z : Str) (h : z.length ≤ 1000) : RTB [.str z] (.list ((textB z).map .int))
theorem ok_text_bytes (T : Txt K mg A D) : FnOk P w K mg base CX0 2 (A 1) (D 1) ["text"] (PF K RTB) := by
  refine T.F_text_bytes.ok (k := 1) sc_text_bytes (PF.len (by rintro _ _ ⟨⟩ <;> rfl)) (fun cdv A' outer s H vs Q E hr h => ?_)
  have hnd := sc_text_bytes.nd
  have G_number_bytes := ok_number_bytes (P := P) (w := w) (base := base) T
  refine ⟨_, (pss_one (ps_ret (pe_op op_cat (pe_call G_number_bytes (hr.mono (by first | decide | omega)) rfl T.m_number_bytes T.F_number_bytes.kp T.b_number_bytes .nil pass0 (pa_cons (pe_callB call_len_str rfl T.z_len PySem.boot_len (pa_cons (pv 0) pa_nil)) pa_nil)) (pe_lc (own := [("character", 1)]) rfl hnd (pi_str (pv 0)) (blkOk_by (own := [("character", 1)]) (N := N_text_bytes) (sc := defScope s_text_bytes) (by decide +kernel)) (fun _ _ _ _ _ => (pg_name (i := 1) hnd rfl (Or.inl rfl))) (fun _ _ _ _ _ => pts_nil) (fun _ _ _ _ _ => (pe_callB call_ord rfl T.z_ord (by decide +kernel) (pa_cons (pv 1) pa_nil))))))), run h ?_⟩
  rintro _ _ ⟨z, hz⟩
  have h1 : z.length < 128 ^ 20 := Nat.lt_of_le_of_lt hz (by decide)
  have e1 : RNB [.int (z.length : Int)] ((numB z.length).map .int) := RNB.mk _ h1
  have h3 := numB_len3 (n := z.length) (by omega)
  have h4 := len_cps z
  tb_start
  · apply e_map (xs := z.cps.toList) (enc := encS) (fun c => .int (Int.ofNat c))
    · tb_start
    · intro i c hc
      (refine ⟨_, _, g_name, fun _ h => h, ?_⟩; dsimp only [wipeE, List.set])
      apply e_as <;> tb_start
    · (unfold sizeLine; first | omega | (simp only [List.length_cons, List.length_nil, List.length_append, List.length_map, List.length_take, List.length_drop, List.length_range]; omega))
  tb_start
  unfold textB codes
  rw [List.map_append, List.map_map]; rfl
/-! read_text -/
def charsS : Str := " !\"#$&'()*+,-./0123456789:;<=>?@ABCDEFGHIJKLMNOPQRSTUVWXYZ[\\]^_`abcdefghijklmnopqrstuvwxyz{|}~"
def charsL : List Nat := (charsS ++ ("\n" : Str)).cps.toList
theorem charsL_nodup : (charsL.map fun c => (Sum.inl (Int.ofNat c) : Key)).Nodup := by decide +kernel
def byCode : List (PyData × PyData) := charsL.map fun c => (keyD (.inl (Int.ofNat c)), .str ⟨#[c]⟩)
def isCh (c : Int) : Bool := decide (c.toNat ∈ charsL)
theorem look_map (i : Int) (h : 0 ≤ i) : ∀ l : List Nat, lookD (l.map fun c => (keyD (.inl (Int.ofNat c)), PyData.str ⟨#[c]⟩)) (.inl i) = if i.toNat ∈ l then some (.str ⟨#[i.toNat]⟩) else none
  | [] => rfl
  | c :: l => by
    rw [List.map_cons, lookD_cons]
    by_cases e : c = i.toNat
    · subst e
      rw [if_pos (by rw [Int.ofNat_eq_natCast, Int.toNat_of_nonneg h]), if_pos List.mem_cons_self]
    · rw [if_neg (fun z => e (by
        have z := Sum.inl.inj z
        rw [← z]; rfl)), look_map i h l]
      by_cases m : i.toNat ∈ l
      · rw [if_pos m, if_pos (List.mem_cons_of_mem _ m)]
      · rw [if_neg m, if_neg (fun z => (List.mem_cons.mp z).elim (fun q => e q.symm) m)]
theorem look_code {i : Int} (h : 0 ≤ i) : lookD byCode (.inl i) = if i.toNat ∈ charsL then some (.str ⟨#[i.toNat]⟩) else none := look_map i h charsL
def sgn1 (c : Int) : Str := ⟨#[c.toNat]⟩
def joinT (cs : List Int) : Str := Txt.join (Str.ofString "") (cs.map sgn1)
def readT (data : List Int) (a : Nat) : Option (Str × Nat) :=
  match readN data a with
  | none => none
  | some (l, s) => if (((data.drop s).take l.toNat).filter isCh).length < l.toNat then none else some (joinT (((data.drop s).take l.toNat).filter isCh), s + l.toNat)
def oTT : Option (Str × Nat) → PyData
  | none => .none
  | some (z, e) => .tuple [.str z, .int (e : Nat)]
inductive RRT : List PyData → PyData → Prop
  | mk (data : List Int) (a : Nat) (h : data.length ≤ 50000) (hb : ∀ d ∈ data, 0 ≤ d ∧ d < 1000) (ha : a ≤ data.length) : RRT [.list (data.map .int), .int (a : Int)] (oTT (readT data a))
theorem rdG_bounds : ∀ (l : List Int) (f : Bool) (n wo : Int) (i : Nat) (r : Int × Nat), (∀ d ∈ l, 0 ≤ d) → 0 ≤ n → 0 ≤ wo → rdG l f n wo i = some r → 0 ≤ r.1 ∧ i < r.2 ∧ r.2 ≤ i + l.length
  | [], _, _, _, _, _, _, _, _, h => nomatch h
  | d :: t, f, n, wo, i, r, hp, hn, hw, h => by
    have hd := hp d List.mem_cons_self
    change (if d < 128 then (if d = 0 ∧ f = false then none else some (n + d * wo, i + 1)) else rdG t false (n + (d - 128) * wo) (wo * 128) (i + 1)) = some r at h
    by_cases c : d < 128
    · rw [if_pos c] at h
      by_cases c2 : d = 0 ∧ f = false
      · rw [if_pos c2] at h; cases h
      · rw [if_neg c2] at h
        cases h
        have := Int.mul_nonneg hd hw
        rw [List.length_cons]
        exact ⟨by show 0 ≤ n + d * wo; omega, by show i < i + 1; omega, by show i + 1 ≤ i + (t.length + 1); omega⟩
    · rw [if_neg c] at h
      have h1 := Int.mul_nonneg (show 0 ≤ d - 128 by omega) hw
      have := rdG_bounds t false _ _ (i + 1) r (fun x hx => hp x (List.mem_cons_of_mem _ hx)) (by omega) (by omega) h
      rw [List.length_cons]
      omega
theorem readN_bounds {data : List Int} {a : Nat} {r : Int × Nat} (hp : ∀ d ∈ data, 0 ≤ d) (ha : a ≤ data.length) (h : readN data a = some r) : 0 ≤ r.1 ∧ a < r.2 ∧ r.2 ≤ data.length := by
  have := rdG_bounds _ _ _ _ _ r (fun d hd => hp d (List.mem_of_mem_drop hd)) (by decide) (by decide) h
  rw [List.length_drop] at this
  omega
theorem cutG_mid {α : Type} (xs : List α) {s l : Int} (h : 0 ≤ s) (h2 : 0 ≤ l) : cutG xs (some s) (some (s + l)) = (xs.drop s.toNat).take l.toNat := by
  show (xs.drop (if s < 0 then (s + (xs.length : Int)).toNat else min s.toNat xs.length)).take ((if s + l < 0 then (s + l + (xs.length : Int)).toNat else min (s + l).toNat xs.length) - (if s < 0 then (s + (xs.length : Int)).toNat else min s.toNat xs.length)) = _
  rw [if_neg (by omega), if_neg (by omega), show (s + l).toNat = s.toNat + l.toNat by omega]
  generalize s.toNat = a
  generalize l.toNat = b
  by_cases c : a ≤ xs.length
  · rw [Nat.min_eq_left c]
    by_cases d : a + b ≤ xs.length
    · rw [Nat.min_eq_left d, Nat.add_sub_cancel_left]
    · rw [Nat.min_eq_right (by omega), List.take_of_length_le (by rw [List.length_drop]; omega), List.take_of_length_le (by rw [List.length_drop]; omega)]
  · rw [Nat.min_eq_right (by omega), Nat.min_eq_right (by omega), Nat.sub_self, List.take_zero, List.drop_eq_nil_of_le (by omega : xs.length ≤ a), List.take_nil]
theorem sgn_sum : ∀ q : List Int, ((q.map sgn1).map (·.length)).sum = q.length
  | [] => rfl
  | c :: q => by
    rw [List.map_cons, List.map_cons, List.sum_cons, sgn_sum q, List.length_cons]
    show 1 + _ = _
    omega
theorem ok_read_text (T : Txt K mg A D) : FnOk P w K mg base CX0 2 (A 3) (D 3) ["data", "at"] (PF K RRT) := by
  refine T.F_read_text.ok (k := 1) sc_read_text (PF.len (by rintro _ _ ⟨⟩ <;> rfl)) (fun cdv A' outer s H vs Q E hr h => ?_)
  have hnd := sc_read_text.nd
  obtain ⟨_, hCHARACTERS⟩ := T.c_CHARACTERS
  have G_read_number := ok_read_number (P := P) (w := w) (base := base) T
  refine ⟨_, (pss_cons (ps_set (i := 4) hnd rfl (Or.inl rfl) (pe_call G_read_number (hr.mono (by first | decide | omega)) rfl T.m_read_number T.F_read_number.kp T.b_read_number .nil pass0 (pa_cons (pv 0) (pa_cons (pv 1) pa_nil)))) (pss_cons (ps_if (pt_cmpR op_isN (pv 4) pe_non (nomark _)) (pss_one (ps_ret pe_non)) pss_nil) (pss_cons (ps_asg (pv 4) (pg_tup rfl (pgs_cons (pg_name (i := 5) hnd rfl (Or.inl rfl)) (pgs_cons (pg_name (i := 6) hnd rfl (Or.inl rfl)) pgs_nil)))) (pss_cons (ps_set (i := 7) hnd rfl (Or.inr rfl) (pe_dc (own := [("character", 2)]) rfl hnd (pi_str (pe_op op_add_str (pe_glob (v := V.str _) rfl hCHARACTERS ⟨_, rfl⟩) pe_str)) (blkOk_by (own := [("character", 2)]) (N := N_read_text) (sc := defScope s_read_text) (by decide +kernel)) (fun _ _ _ _ _ => (pg_name (i := 2) hnd rfl (Or.inl rfl))) (fun _ _ _ _ _ => pts_nil) (fun _ _ _ _ _ => (pe_callB call_ord rfl T.z_ord (by decide +kernel) (pa_cons (pv 2) pa_nil))) (fun _ _ _ _ _ => (pv 2)))) (pss_cons (ps_setLc (i := 8) (own := [("code", 3)]) rfl hnd rfl rfl (sw_true rfl rfl rfl (by decide +kernel)) (pi_list (pe_slice sl_list (pv 0) (po_some (pv 6)) (po_some (pe_op op_add (pv 6) (pv 5))))) (blkOk_by (own := [("code", 3)]) (N := N_read_text) (sc := defScope s_read_text) (by decide +kernel)) (fun _ _ _ _ _ => (pg_name (i := 3) hnd rfl (Or.inl rfl))) (fun _ _ _ _ _ => (pts_one (pt_cmp (pc_din (hu_of hr) (pv 3) (pv 7))))) (fun _ _ _ _ _ => (pe_dget (hu_of hr) (pv 7) (pv 3) (fun _ _ => rfl)))) (pss_cons (ps_if (pt_cmpR op_lt (pe_callB call_len_seq rfl T.z_len PySem.boot_len (pa_cons (pv 8) pa_nil)) (pv 5) (nomark _)) (pss_one (ps_ret pe_non)) pss_nil) (pss_one (ps_ret (pe_tup (pa_cons (pe_join pe_str (pv 8)) (pa_cons (pe_op op_add (pv 6) (pv 5)) pa_nil))))))))))), run h ?_⟩
  rintro _ _ ⟨data, a, hl, hb, ha⟩
  have e1 : RRN [.list (data.map .int), .int (a : Int)] (oNN (readN data a)) := RRN.mk data a (by omega) (fun d hd => by have := hb d hd; omega) (by omega)
  cases hn : readN data a with
  | none =>
    rw [hn] at e1
    dsimp only [oNN] at e1
    have e2 : readT data a = none := by unfold readT; rw [hn]
    rw [e2]
    tb_start
  | some r =>
    obtain ⟨l, s⟩ := r
    rw [hn] at e1
    dsimp only [oNN] at e1
    obtain ⟨b1, b2, b3⟩ := readN_bounds (fun d hd => (hb d hd).1) ha hn
    dsimp only at b1 b2 b3
    have ecut := cutG_mid (data.map PyData.int) (s := (s : Int)) (l := l) (by omega) b1
    rw [Int.toNat_natCast, ← List.map_drop, ← List.map_take] at ecut
    have esl : Psr K (rSlL K) (.list (data.map .int)) (some ((s : Nat) : Int)) (some (((s : Nat) : Int) + l)) (.list (((data.drop s).take l.toNat).map .int)) := by
      rw [← ecut]; exact sl_L
    have hseg : ∀ d ∈ (data.drop s).take l.toNat, 0 ≤ d := fun d hd => (hb d (List.mem_of_mem_drop (List.mem_of_mem_take hd))).1
    have hsl : ((data.drop s).take l.toNat).length ≤ 50000 := by rw [List.length_take, List.length_drop]; omega
    have e3 : readT data a = if (((data.drop s).take l.toNat).filter isCh).length < l.toNat then none else some (joinT (((data.drop s).take l.toNat).filter isCh), s + l.toNat) := by unfold readT; rw [hn]
    rw [e3]
    generalize (data.drop s).take l.toNat = seg at esl hseg hsl
    tb_start
    · refine e_as (d := .dict (charsL.map fun c => (keyD (.inl (Int.ofNat c)), encS c))) (d' := .dict byCode) ?_ rfl
      apply e_dc (xs := charsL) (enc := encS) (fun c => .inl (Int.ofNat c)) encS
      · apply w_str (z := charsS ++ ("\n" : Str))
        tb_start
        exact o_addS (a := charsS) (b := ("\n" : Str)) (by decide +kernel)
      · intro i c hc
        (refine ⟨_, _, g_name, fun _ h => h, ?_⟩; dsimp only [wipeE, List.set])
        exact ⟨by apply e_as <;> tb_start, by tb_start⟩
      · exact charsL_nodup
      · decide +kernel
    tb_start
    · refine e_as (d := .list ((seg.filter isCh).map fun c => .str (sgn1 c))) (d' := .list (((seg.filter isCh).map sgn1).map .str)) ?_ (by rw [List.map_map]; rfl)
      apply e_lc (xs := seg) (enc := .int) isCh
      · tb_start
      · intro i c hc
        have hc0 := hseg c (List.mem_of_getElem? hc)
        have hlk := look_code hc0
        refine ⟨_, _, g_name, fun _ h => h, ?_⟩
        dsimp only [wipeE, List.set]
        refine ⟨?_, fun hy => ?_⟩
        · refine t_as (t_b (e_din (k := .inl c) (ds := byCode) (e_var rfl) (e_var rfl))) ?_
          rw [hlk]
          unfold isCh
          by_cases m : c.toNat ∈ charsL
          · rw [if_pos m, decide_eq_true m]; rfl
          · rw [if_neg m, decide_eq_false m]; rfl
        · have m : c.toNat ∈ charsL := of_decide_eq_true hy
          rw [if_pos m] at hlk
          exact e_dget (k := .inl c) (ds := byCode) (e_var rfl) (e_var rfl) hlk
      · (unfold sizeLine; first | omega | (simp only [List.length_cons, List.length_nil, List.length_append, List.length_map, List.length_take, List.length_drop, List.length_range]; omega))
    have hfl : (seg.filter isCh).length ≤ 50000 := Nat.le_trans (List.length_filter_le _ _) hsl
    by_cases hs : (seg.filter isCh).length < l.toNat
    · rw [if_pos hs]
      tb_start
    · rw [if_neg hs]
      tb_start
      · apply m_join
        rw [sgn_sum, show (Str.ofString "").length = 0 from rfl]
        omega
      tb_start
      rw [show ((s : Int) + l) = ((s + l.toNat : Nat) : Int) by omega]
      rfl
end


section
open TL
variable {P : Program} {w : World} {K : PySem.W.Frag} {mg : Str → Option Value} {base : Heap} {A : Nat → Addr} {D : Nat → FuncData}
theorem joinL_nil1 : ∀ l : List Nat, joinL [] (l.map fun c => [c]) = l
  | [] => rfl
  | [c] => rfl
  | c :: d :: r => by
    show [c] ++ ([] ++ joinL [] ((d :: r).map fun c => [c])) = _
    rw [joinL_nil1 (d :: r)]
    rfl
theorem joinT_codes (z : Str) : joinT (codes z) = z := by
  have h : tl (joinT (codes z)) = tl z := by
    unfold joinT codes
    rw [join_eq, tl_join, List.map_map, List.map_map, show tl (Str.ofString "") = [] by decide +kernel]
    exact joinL_nil1 (tl z)
  exact PySem.W.str_of_cps h
def OkT (z : Str) : Prop := ∀ c ∈ z.cps.toList, c ∈ charsL
theorem codes_len (z : Str) : (codes z).length = z.length := by unfold codes; rw [List.length_map, len_cps]
theorem codes_ok {z : Str} (h : OkT z) : (codes z).filter isCh = codes z := by
  rw [List.filter_eq_self]
  intro x hx
  unfold codes at hx
  obtain ⟨c, hc, rfl⟩ := List.mem_map.mp hx
  exact decide_eq_true (h c hc)
theorem readT_at (pre : List Int) (z : Str) (post : List Int) (h : OkT z) : readT (pre ++ (textB z ++ post)) pre.length = some (z, pre.length + (textB z).length) := by
  have h1 := readN_at pre z.length (codes z ++ post)
  have e : pre ++ (textB z ++ post) = pre ++ (numB z.length ++ (codes z ++ post)) := by unfold textB; rw [List.append_assoc]
  have e2 : (pre ++ (numB z.length ++ (codes z ++ post))).drop (pre.length + (numB z.length).length) = codes z ++ post := by
    rw [← List.append_assoc, ← List.length_append, List.drop_left]
  unfold readT
  rw [e, h1]
  dsimp only
  rw [Int.toNat_natCast, e2, ← codes_len z, List.take_left, codes_ok h, if_neg (Nat.lt_irrefl _), joinT_codes]
  unfold textB
  rw [List.length_append, codes_len, Nat.add_assoc]
theorem filter_less {l : List Int} {n : Nat} (h : l.length < n) : (l.filter isCh).length < n := Nat.lt_of_le_of_lt (List.length_filter_le _ _) h
theorem readT_short (z : Str) : readT (textB z).dropLast 0 = none := by
  by_cases hz : z.length = 0
  · have e : textB z = [0] := by
      unfold textB
      rw [hz, numB_lt (by decide), List.eq_nil_of_length_eq_zero ((codes_len z).trans hz)]; rfl
    rw [e]; rfl
  · have hc : codes z ≠ [] := fun e => hz (by rw [← codes_len, e]; rfl)
    have e : (textB z).dropLast = numB z.length ++ (codes z).dropLast := by
      unfold textB
      rw [List.dropLast_append_of_ne_nil hc]
    have h1 := readN_at [] z.length (codes z).dropLast
    rw [List.nil_append, List.length_nil, Nat.zero_add] at h1
    unfold readT
    rw [e, h1]
    dsimp only
    rw [Int.toNat_natCast, List.drop_left, if_pos]
    refine filter_less (Nat.lt_of_le_of_lt (List.length_take_le' _ _) ?_)
    rw [List.length_dropLast, codes_len]
    omega
theorem readT_bad (z : Str) (c : Int) (hz : 0 < z.length) (hc : isCh c = false) : readT (numB z.length ++ (c :: (codes z).drop 1)) 0 = none := by
  have h1 := readN_at [] z.length (c :: (codes z).drop 1)
  rw [List.nil_append, List.length_nil, Nat.zero_add] at h1
  unfold readT
  rw [h1]
  dsimp only
  rw [Int.toNat_natCast, List.drop_left, if_pos]
  have e : ((c :: (codes z).drop 1).take z.length) = c :: (codes z).drop 1 := List.take_of_length_le (by rw [List.length_cons, List.length_drop, codes_len]; omega)
  rw [e, List.filter_cons_of_neg (by rw [hc]; exact Bool.false_ne_true)]
  refine filter_less ?_
  rw [List.length_drop, codes_len]; omega
theorem cutG_init {α : Type} (xs : List α) : cutG xs none (some (-1)) = xs.dropLast := by
  show (xs.drop 0).take ((if (-1 : Int) < 0 then ((-1 : Int) + (xs.length : Int)).toNat else min (-1 : Int).toNat xs.length) - 0) = _
  rw [if_pos (by decide), List.drop_zero, Nat.sub_zero, List.dropLast_eq_take]
  congr 1
  omega
/-! the law's numbers, texts -/
theorem digF_lt (c k m : Int) : ∀ d ∈ digF c k m, d < 1000 := fun d h => by
  rw [digF_eq] at h
  unfold digF0 at h
  split at h
  · have : ∀ n, ∀ d ∈ (bigN m (absC c) n).2, d < 1000 := by
      intro n
      induction n with
      | zero => intro d h; exact nomatch h
      | succ n ih =>
        intro d h
        change d ∈ (stepB m (bigN m (absC c) n)).2 at h
        unfold stepB at h
        split at h
        · rcases List.mem_append.mp h with h | h
          · exact ih d h
          · rw [List.mem_singleton.mp h]
            exact Int.emod_lt_of_pos _ (by decide)
        · exact ih d h
    exact this _ d h
  · unfold smallD at h
    obtain ⟨i, _, rfl⟩ := List.mem_map.mp h
    exact Int.emod_lt_of_pos _ (by decide)
theorem digF_le (c k m : Int) (hm : 0 ≤ m) : (digF c k m).length ≤ m.toNat := by
  rw [digF_eq]
  unfold digF0
  split
  · have : ∀ n, ((bigN m (absC c) n).2.length : Int) ≤ m := by
      intro n
      induction n with
      | zero => exact hm
      | succ n ih =>
        show ((stepB m (bigN m (absC c) n)).2.length : Int) ≤ m
        unfold stepB
        split
        · rename_i h
          rw [List.length_append, List.length_singleton]
          omega
        · exact ih
    have := this 60
    omega
  · unfold smallD
    rw [List.length_map, List.length_range]; exact Nat.le_refl _
def foldI (l : List Int) : Int := l.foldl (fun n d => n * 1000 + d) 0
theorem foldI_succ {l : List Int} {i : Nat} {d : Int} (h : l[i]? = some d) : foldI (l.take (i + 1)) = foldI (l.take i) * 1000 + d := by
  unfold foldI
  rw [List.take_add_one, h, List.foldl_append]; rfl
theorem foldI_range : ∀ (i : Nat) (l : List Int), (∀ d ∈ l, 0 ≤ d ∧ d < 1000) → 0 ≤ foldI (l.take i) ∧ foldI (l.take i) < 1000 ^ i
  | 0, l, _ => by rw [List.take_zero]; exact ⟨Int.le_refl 0, by decide⟩
  | i + 1, l, h => by
    have ih := foldI_range i l h
    cases c : l[i]? with
    | none =>
      have e : l.take (i + 1) = l.take i := by
        have := List.getElem?_eq_none_iff.mp c
        rw [List.take_of_length_le (by omega), List.take_of_length_le this]
      rw [e]
      refine ⟨ih.1, Int.lt_of_lt_of_le ih.2 ?_⟩
      rw [Int.pow_succ]
      have : (0 : Int) < 1000 ^ i := Int.pow_pos (by decide)
      omega
    | some d =>
      have hd := h d (List.mem_of_getElem? c)
      rw [foldI_succ c, Int.pow_succ]
      omega
noncomputable def intZ (ns : List Int) (k : Nat) : Int :=
  foldI (digF (cellF ns k) k (cellF ns k % 9)) + pick [0, 128, 16384, 2097152, 268435456] (cellF ns k / 9 % 5) 0 - (if decide (0 < foldI (digF (cellF ns k) k (cellF ns k % 9))) = true then 1 else 0)
theorem intZ_range (ns : List Int) (k : Nat) : 0 ≤ intZ ns k ∧ intZ ns k < 128 ^ 19 := by
  have h9 := mod_r (cellF ns k) (m := 9) (by decide)
  have hl := digF_le (cellF ns k) k (cellF ns k % 9) h9.1
  have hf := foldI_range 8 (digF (cellF ns k) k (cellF ns k % 9)) fun d hd => ⟨digF_pos _ _ _ d hd, digF_lt _ _ _ d hd⟩
  rw [List.take_of_length_le (by omega)] at hf
  have hp := pick_mem [0, 128, 16384, 2097152, (268435456 : Int)] 0 (mod_r (cellF ns k / 9) (m := 5) (by decide)).1 (mod_r (cellF ns k / 9) (m := 5) (by decide)).2
  unfold intZ
  generalize foldI (digF (cellF ns k) k (cellF ns k % 9)) = f at hf
  generalize pick [0, 128, 16384, 2097152, (268435456 : Int)] (cellF ns k / 9 % 5) 0 = q at hp
  have hq : 0 ≤ q ∧ q ≤ 268435456 := by
    simp only [List.mem_cons, List.not_mem_nil, or_false] at hp
    rcases hp with rfl | rfl | rfl | rfl | rfl <;> decide
  have e1 : (1000 : Int) ^ 8 = 1000000000000000000000000 := by decide
  have e2 : (128 : Int) ^ 19 = 10889035741470030830827987437816582766592 := by decide
  rw [e1] at hf
  rw [e2]
  by_cases c : 0 < f
  · rw [if_pos (decide_eq_true c)]; omega
  · rw [if_neg (by rw [decide_eq_false c]; exact Bool.false_ne_true)]; omega
inductive RLI (ns : List Int) : List PyData → PyData → Prop
  | mk (k : Nat) : RLI ns [.int (k : Int)] (.int (intZ ns k))
local macro_rules
  | `(tactic| tb_rel) => `(tactic| first
    | ((with_reducible change RCell _ _ _); exact RCell.mk _)
    | ((with_reducible change RDig _ _); exact RDig.mk _ _ _ (by omega) (by omega)))
theorem ok__law_integer (T : Txt K mg A D) : FnOk P w K mg base CX0 2 (A 9) (D 9) ["script", "k"] (PFS K RLI) := by
  refine T.F__law_integer.ok (k := 1) sc__law_integer (PFS.len (by rintro _ _ _ ⟨⟩ <;> rfl)) (fun cdv A' outer s H vs Q E hr h => ?_)
  have hnd := sc__law_integer.nd
  have G__law_digits := ok__law_digits (P := P) (w := w) (base := base) T
  have G__law_cell := ok__law_cell (P := P) (w := w) (base := base) T
  refine ⟨_, (pss_cons (ps_set (i := 2) hnd rfl (Or.inl rfl) pe_int) (pss_cons (ps_for PassesOwn.never rfl (pi_list (pe_call G__law_digits (hr.mono (by first | decide | omega)) rfl T.m__law_digits T.F__law_digits.kp T.b__law_digits .nil pass0 (pa_cons (pe_call G__law_cell (hr.mono (by first | decide | omega)) rfl T.m__law_cell T.F__law_cell.kp T.b__law_cell .nil pass0 (pa_cons (pv 0) (pa_cons (pv 1) pa_nil))) (pa_cons (pv 1) (pa_cons (pe_op op_mod (pe_callTy call_int1 rfl T.z_int (by decide +kernel) (pa_cons (pe_call G__law_cell (hr.mono (by first | decide | omega)) rfl T.m__law_cell T.F__law_cell.kp T.b__law_cell .nil pass0 (pa_cons (pv 0) (pa_cons (pv 1) pa_nil))) pa_nil)) pe_int) pa_nil))))) (pg_name (i := 3) hnd rfl (Or.inl rfl)) (pss_one (ps_set (i := 2) hnd rfl (Or.inl rfl) (pe_op op_add (pe_op op_mul (pv 2) pe_int) (pe_callTy call_int1 rfl T.z_int (by decide +kernel) (pa_cons (pv 3) pa_nil)))))) (pss_cons (ps_set (i := 4) hnd rfl (Or.inl rfl) (pe_lst (pa_cons pe_int (pa_cons pe_int (pa_cons pe_int (pa_cons pe_int (pa_cons pe_int pa_nil))))))) (pss_one (ps_ret (pe_op op_sub (pe_op op_add (pv 2) (pe_ix (r := rIxL K) ix_list (pv 4) (pe_op op_mod (pe_callTy call_int1 rfl T.z_int (by decide +kernel) (pa_cons (pe_op op_fdiv (pe_call G__law_cell (hr.mono (by first | decide | omega)) rfl T.m__law_cell T.F__law_cell.kp T.b__law_cell .nil pass0 (pa_cons (pv 0) (pa_cons (pv 1) pa_nil))) pe_int) pa_nil)) pe_int) (fun _ _ => rfl))) (pe_callTy call_int1 rfl T.z_int (by decide +kernel) (pa_cons (pe_cmpR op_gt (pv 2) pe_int (nomark _)) pa_nil)))))))), runS h ?_⟩
  rintro ns _ _ ⟨k⟩
  have h9 := mod_r (cellF ns k) (m := 9) (by decide)
  have e5 : atI [PyData.int 0, PyData.int 128, PyData.int 16384, PyData.int 2097152, PyData.int 268435456] (cellF ns k / 9 % 5) = some (.int (pick [0, 128, 16384, 2097152, 268435456] (cellF ns k / 9 % 5) 0)) := atP PyData.int [0, 128, 16384, 2097152, 268435456] 0 (mod_r _ (by decide)).1 (mod_r _ (by decide)).2
  unfold intZ
  have hf := fun i => foldI_range i (digF (cellF ns k) k (cellF ns k % 9)) fun d hd => ⟨digF_pos _ _ _ d hd, digF_lt _ _ _ d hd⟩
  generalize hds : digF (cellF ns k) k (cellF ns k % 9) = ds
  tb_start
  apply s_seq_for (xs := ds) (enc := .int) (fun i e => ∃ x, e = [scr K ns, .val (.int (k : Int)), .val (.int (foldI (ds.take i))), x, .unk]) (fun _ => False)
  · rw [← hds]
    tb_start
  · exact ⟨_, rfl⟩
  · rintro i d _ hd ⟨x, rfl⟩
    refine ⟨_, _, g_name, ?_⟩
    simp only [foldI_succ hd]
    tb_start
    exact ⟨_, rfl⟩
  · rintro _ ⟨x, rfl⟩
    rw [List.take_length]
    tb_start
  · exact fun _ z => z.elim
end


section
open TL
variable {P : Program} {w : World} {K : PySem.W.Frag} {mg : Str → Option Value} {base : Heap} {A : Nat → Addr} {D : Nat → FuncData}
/-! drawn texts -/
def wordsT : List Str := ["old", "mill", "mills", "weir", "the", "Miller", "a1", "Old-mill", "by"]
def sepsT : List Str := [" ", ", ", "\n"]
noncomputable def textN (c k : Int) : Nat → Str
  | 0 => Str.ofString ""
  | n + 1 => textN c k n ++ pick wordsT (dG c k (1 + n) % 9) "old" ++ pick sepsT (dG c k (7 + n) % 3) " "
noncomputable def textF (c k : Int) : Str := textN c k (dG c k 0 % 6).toNat
def okT (z : Str) (n : Nat) : Prop := OkT z ∧ z.length ≤ n
theorem okT_app {z y : Str} {n m : Nat} (h : okT z n) (g : okT y m) : okT (z ++ y) (n + m) := by
  refine ⟨fun c hc => ?_, ?_⟩
  · have e : (z ++ y).cps.toList = z.cps.toList ++ y.cps.toList := by
      show (z.cps ++ y.cps).toList = _
      rw [Array.toList_append]
    rw [e] at hc
    exact (List.mem_append.mp hc).elim (h.1 c) (g.1 c)
  · have e : (z ++ y).length = z.length + y.length := by
      rw [← len_cps, ← len_cps, ← len_cps]
      show ((z.cps ++ y.cps).toList).length = _
      rw [Array.toList_append, List.length_append]
    have := h.2
    have := g.2
    omega
theorem words_ok : ∀ z ∈ wordsT, okT z 8 := by
  have : wordsT.all (fun z => z.cps.toList.all (fun c => decide (c ∈ charsL)) && decide (z.length ≤ 8)) = true := by decide +kernel
  intro z hz
  have := List.all_eq_true.mp this z hz
  rw [Bool.and_eq_true] at this
  exact ⟨fun c hc => of_decide_eq_true (List.all_eq_true.mp this.1 c hc), of_decide_eq_true this.2⟩
theorem seps_ok : ∀ z ∈ sepsT, okT z 2 := by
  have : sepsT.all (fun z => z.cps.toList.all (fun c => decide (c ∈ charsL)) && decide (z.length ≤ 2)) = true := by decide +kernel
  intro z hz
  have := List.all_eq_true.mp this z hz
  rw [Bool.and_eq_true] at this
  exact ⟨fun c hc => of_decide_eq_true (List.all_eq_true.mp this.1 c hc), of_decide_eq_true this.2⟩
theorem textN_ok (c k : Int) : ∀ n, okT (textN c k n) (10 * n)
  | 0 => ⟨fun c hc => (nomatch hc), Nat.le_refl 0⟩
  | n + 1 => by
    have h1 := words_ok _ (pick_mem wordsT "old" (mod_r (dG c k (1 + n)) (m := 9) (by decide)).1 (mod_r (dG c k (1 + n)) (m := 9) (by decide)).2)
    have h2 := seps_ok _ (pick_mem sepsT " " (mod_r (dG c k (7 + n)) (m := 3) (by decide)).1 (mod_r (dG c k (7 + n)) (m := 3) (by decide)).2)
    have := okT_app (okT_app (textN_ok c k n) h1) h2
    rw [show 10 * (n + 1) = 10 * n + 8 + 2 by omega]
    exact this
inductive RTx : List PyData → PyData → Prop
  | mk (c k : Int) : RTx [.list ((padF c k).map .int)] (.str (textF c k))
local macro_rules
  | `(tactic| tb_rel) => `(tactic| first
    | ((with_reducible change atI _ _ = some _); first
      | (with_reducible assumption)
      | exact at_pad 0 (by decide)
      | exact at_pad 12 (by decide)))
theorem ok__law_text (T : Txt K mg A D) : FnOk P w K mg base CX0 1 (A 8) (D 8) ["d"] (PF K RTx) := by
  refine T.F__law_text.ok (k := 0) sc__law_text (PF.len (by rintro _ _ ⟨⟩ <;> rfl)) (fun cdv A' outer s H vs Q E hr h => ?_)
  have hnd := sc__law_text.nd
  refine ⟨_, (pss_cons (ps_set (i := 1) hnd rfl (Or.inl rfl) (pe_lst (pa_cons pe_str (pa_cons pe_str (pa_cons pe_str (pa_cons pe_str (pa_cons pe_str (pa_cons pe_str (pa_cons pe_str (pa_cons pe_str (pa_cons pe_str pa_nil))))))))))) (pss_cons (ps_set (i := 2) hnd rfl (Or.inl rfl) pe_str) (pss_cons (ps_for PassesOwn.never rfl (pi_range1 rfl T.z_range (pa_cons (pe_op op_mod (pe_callTy call_int1 rfl T.z_int (by decide +kernel) (pa_cons (pe_ix (r := rIxL K) ix_list (pv 0) pe_int (fun _ _ => rfl)) pa_nil)) pe_int) pa_nil)) (pg_name (i := 3) hnd rfl (Or.inl rfl)) (pss_one (ps_set (i := 2) hnd rfl (Or.inl rfl) (pe_op op_add_str (pe_op op_add_str (pv 2) (pe_ix (r := rIxL K) ix_list (pv 1) (pe_op op_mod (pe_callTy call_int1 rfl T.z_int (by decide +kernel) (pa_cons (pe_ix (r := rIxL K) ix_list (pv 0) (pe_op op_add pe_int (pv 3)) (fun _ _ => rfl)) pa_nil)) pe_int) (fun _ _ => rfl))) (pe_ix (r := rIxL K) ix_list (pe_lst (pa_cons pe_str (pa_cons pe_str (pa_cons pe_str pa_nil)))) (pe_op op_mod (pe_callTy call_int1 rfl T.z_int (by decide +kernel) (pa_cons (pe_ix (r := rIxL K) ix_list (pv 0) (pe_op op_add pe_int (pv 3)) (fun _ _ => rfl)) pa_nil)) pe_int) (fun _ _ => rfl)))))) (pss_one (ps_ret (pv 2)))))), run h ?_⟩
  rintro _ _ ⟨c, k⟩
  have h6 := mod_r (dG c k 0) (m := 6) (by decide)
  unfold textF
  tb_start
  apply s_seq_for (xs := List.range (dG c k 0 % 6).toNat) (enc := encR 0) (fun i e => ∃ x, e = [.val (.list ((padF c k).map .int)), .val (.list [.str "old", .str "mill", .str "mills", .str "weir", .str "the", .str "Miller", .str "a1", .str "Old-mill", .str "by"]), .val (.str (textN c k i)), x]) (fun _ => False)
  · exact w_range1 (j := dG c k 0 % 6) (by tb_start) (by omega) (by omega)
  · exact ⟨_, rfl⟩
  · rintro i a _ ha ⟨x, rfl⟩
    obtain ⟨hi, ea⟩ := List.getElem?_eq_some_iff.mp ha
    rw [List.length_range] at hi
    rw [List.getElem_range] at ea
    subst ea
    refine ⟨_, _, g_name, ?_⟩
    simp only [encR, Int.zero_add]
    have e1 : atI ((padF c k).map PyData.int) (1 + (i : Int)) = some (.int (dG c k (1 + i))) := at_pad (1 + i) (by omega)
    have e2 : atI ((padF c k).map PyData.int) (7 + (i : Int)) = some (.int (dG c k (7 + i))) := at_pad (7 + i) (by omega)
    have e3 : atI [PyData.str "old", PyData.str "mill", PyData.str "mills", PyData.str "weir", PyData.str "the", PyData.str "Miller", PyData.str "a1", PyData.str "Old-mill", PyData.str "by"] (dG c k (1 + i) % 9) = some (.str (pick wordsT (dG c k (1 + i) % 9) "old")) := atP PyData.str wordsT "old" (mod_r _ (by decide)).1 (mod_r _ (by decide)).2
    have e4 : atI [PyData.str " ", PyData.str ", ", PyData.str "\n"] (dG c k (7 + i) % 3) = some (.str (pick sepsT (dG c k (7 + i) % 3) " ")) := atP PyData.str sepsT " " (mod_r _ (by decide)).1 (mod_r _ (by decide)).2
    have h1 := (textN_ok c k i).2
    have h2 := words_ok _ (pick_mem wordsT "old" (mod_r (dG c k (1 + i)) (m := 9) (by decide)).1 (mod_r (dG c k (1 + i)) (m := 9) (by decide)).2)
    have h3 := seps_ok _ (pick_mem sepsT " " (mod_r (dG c k (7 + i)) (m := 3) (by decide)).1 (mod_r (dG c k (7 + i)) (m := 3) (by decide)).2)
    have h4 := (okT_app (textN_ok c k i) h2).2
    have h2' := h2.2
    have h3' := h3.2
    tb_start
    exact ⟨_, rfl⟩
  · rintro _ ⟨x, rfl⟩
    rw [List.length_range]
    tb_start
  · exact fun _ z => z.elim
/-! the law -/
def tailS : Str := "~ !"
theorem tail_ok (r : Int) : okT (cutS tailS none (some r)) 3 := by
  have h : ∀ c ∈ (cutS tailS none (some r)).cps.toList, c ∈ tailS.cps.toList := fun c hc => by
    have : (cutS tailS none (some r)).cps.toList = (tailS.cps.toList.drop 0).take (HT.sIx tailS.length tailS.length (some r) - 0) := rfl
    rw [this] at hc
    exact List.mem_of_mem_drop (List.mem_of_mem_take hc)
  have h2 : ∀ c ∈ tailS.cps.toList, c ∈ charsL := by decide +kernel
  refine ⟨fun c hc => h2 c (h c hc), ?_⟩
  rw [← len_cps]
  show ((tailS.cps.toList.drop 0).take (HT.sIx tailS.length tailS.length (some r) - 0)).length ≤ 3
  rw [List.length_take, List.length_drop]
  have : tailS.cps.toList.length = 3 := by decide +kernel
  omega
theorem txt_ok (c k : Int) (r : Int) : okT (textF c k ++ cutS ("~ !" : Str) none (some r)) 53 := by
  have h6 := mod_r (dG c k 0) (m := 6) (by decide)
  have h1 := textN_ok c k (dG c k 0 % 6).toNat
  have h2 := okT_app h1 (tail_ok r)
  exact ⟨h2.1, Nat.le_trans h2.2 (by omega)⟩
structure Facts (K : PySem.W.Frag) (T : Str) : Prop where
  ln : RLN [.int (T.length : Int)] ((numB T.length).map .int)
  tb : RTB [.str T] (.list ((numB T.length).map .int ++ (codes T).map .int))
  sh : SeqAt.shaped (.list ((numB T.length).map .int ++ (codes T).map .int)) = true
  r1 : RRT [.list ([.int 5] ++ ((numB T.length).map .int ++ (codes T).map .int) ++ [.int 0]), .int 1] (.tuple [.str T, .int (1 + (((numB T.length).map PyData.int ++ (codes T).map PyData.int).length : Nat))])
  so : PyData.strOk T = true
  s2 : Psr K (rSlL K) (.list ((numB T.length).map .int ++ (codes T).map .int)) none (some (-1)) (.list ((textB T).dropLast.map .int))
  r2 : RRT [.list ((textB T).dropLast.map .int), .int 0] .none
  s3 : Psr K (rSlL K) (.list ((numB T.length).map .int ++ (codes T).map .int)) none (some 1) (.list [.int (T.length : Int)])
  s4 : Psr K (rSlL K) (.list ((numB T.length).map .int ++ (codes T).map .int)) (some 2) none (.list (((codes T).drop 1).map .int))
  r3 : ∀ c : Int, 0 ≤ c → c < 256 → isCh c = false → ∃ d, RRT [.list ([.int (T.length : Int)] ++ [.int c] ++ ((codes T).drop 1).map .int), .int 0] d ∧ (0 < T.length → d = .none)
theorem facts {T : Str} (h : okT T 53) : Facts K T := by
  have hl := h.2
  have hcl := codes_len T
  have e : (numB T.length).map PyData.int ++ (codes T).map PyData.int = (textB T).map .int := by unfold textB; rw [List.map_append]
  have hcb : ∀ d ∈ codes T, 0 ≤ d ∧ d < 256 := fun d hd => by
    unfold codes at hd
    obtain ⟨c, hc, rfl⟩ := List.mem_map.mp hd
    have : ∀ c ∈ charsL, c < 256 := by decide +kernel
    have := this c (h.1 c hc)
    show 0 ≤ (c : Int) ∧ (c : Int) < 256
    omega
  have hn3 := numB_len3 (n := T.length) (by omega)
  have htb : ∀ d ∈ textB T, 0 ≤ d ∧ d < 256 := fun d hd => by
    unfold textB at hd
    rcases List.mem_append.mp hd with hd | hd
    · exact numB_byte _ d hd
    · exact hcb d hd
  have htl : (textB T).length ≤ 60 := by unfold textB; rw [List.length_append]; omega
  have e1 : numB T.length = [(T.length : Int)] := numB_lt (by omega)
  refine ⟨RLN.mk _ (Nat.lt_of_le_of_lt hl (by decide)), by rw [e]; exact RTB.mk T (by omega), by rw [e]; exact (okn_lst (n := 0) okn_ints).sh, ?_, ?_, ?_, ?_, ?_, ?_, ?_⟩
  · have := RRT.mk ([5] ++ (textB T ++ [0])) 1 (by simp; omega) (fun d hd => by
      simp only [List.mem_append, List.mem_singleton] at hd
      rcases hd with rfl | hd | rfl
      · decide
      · have := htb d hd; omega
      · decide) (by simp)
    rw [show readT ([5] ++ (textB T ++ [0])) 1 = some (T, 1 + (textB T).length) from readT_at [5] T [0] h.1] at this
    rw [e, List.length_map]
    rw [List.map_append, List.map_append, ← List.append_assoc] at this
    exact this
  · unfold PyData.strOk
    rw [Array.all_eq_true']
    intro c hc
    have h3 : ∀ c ∈ charsL, c < 0x110000 := by decide +kernel
    exact decide_eq_true (h3 c (h.1 c (Array.mem_toList_iff.mpr hc)))
  · rw [e, List.map_dropLast, ← cutG_init]
    exact sl_L
  · have := RRT.mk (textB T).dropLast 0 (by rw [List.length_dropLast]; omega) (fun d hd => by have := htb d (List.dropLast_subset _ hd); omega) (Nat.zero_le _)
    rw [readT_short] at this
    exact this
  · rw [e1, show (PyData.list [.int (T.length : Int)]) = .list (cutG ([(T.length : Int)].map PyData.int ++ (codes T).map PyData.int) none (some 1)) by rw [cutG_take _ (by decide)]; rfl]
    exact sl_L
  · rw [e1, show (PyData.list (((codes T).drop 1).map .int)) = .list (cutG ([(T.length : Int)].map PyData.int ++ (codes T).map PyData.int) (some 2) none) by rw [cutG_drop _ (by decide), List.map_drop]; rfl]
    exact sl_L
  · intro c h0 h1 h2
    have hb : ∀ d ∈ [(T.length : Int)] ++ ([c] ++ (codes T).drop 1), 0 ≤ d ∧ d < 1000 := fun d hd => by
      simp only [List.mem_append, List.mem_singleton] at hd
      rcases hd with rfl | rfl | hd
      · omega
      · omega
      · have := hcb d (List.mem_of_mem_drop hd); omega
    have := RRT.mk ([(T.length : Int)] ++ ([c] ++ (codes T).drop 1)) 0 (by simp; omega) hb (Nat.zero_le _)
    rw [List.map_append, List.map_append, ← List.append_assoc] at this
    refine ⟨_, this, fun hp => ?_⟩
    have hb := readT_bad T c hp h2
    rw [e1] at hb
    show oTT (readT ([(T.length : Int)] ++ (c :: (codes T).drop 1)) 0) = .none
    rw [hb]; rfl
local macro_rules
  | `(tactic| tb_rel) => `(tactic| first
    | ((with_reducible change RCell _ _ _); first | exact RCell.mk (10 + _) | exact RCell.mk _)
    | ((with_reducible change RPad _ _); exact RPad.mk _ _)
    | ((with_reducible change RTx _ _); exact RTx.mk _ _)
    | ((with_reducible change Ps _ _ _ _ (tSeq (tAsg _ (gName 4)) _) _ _); with_reducible apply s_seq_set)
    | ((with_reducible change Ps _ _ _ _ (tSeq (tAsg _ (gName 5)) _) _ _); with_reducible apply s_seq_set)
    | ((with_reducible change Po _ (rNeD _) _ _ _); first | exact o_neF (okn_lst (n := 0) okn_ints).sh rfl | exact o_neF (okn_tup (n := 0) (all_cons okn_int (all_cons okn_int all_nil))).sh rfl | exact o_neF (by assumption) rfl | exact o_neF (okn_tup (n := 0) (all_cons (okn_str (by assumption)) (all_cons okn_int all_nil))).sh rfl))
theorem ok_lawY (T : Txt K mg A D) : FnOk P w K mg base CX0 3 (A 10) (D 10) ["script"] (PFS K RLaw) := by
  refine T.F_law.ok (k := 2) sc_law (PFS.len (by rintro _ _ _ ⟨⟩ <;> rfl)) (fun cdv A' outer s H vs Q E hr h => ?_)
  have hnd := sc_law.nd
  have G__law_integer := ok__law_integer (P := P) (w := w) (base := base) T
  have G__law_number := ok__law_number (P := P) (w := w) (base := base) T
  have G__law_padded := ok__law_padded (P := P) (w := w) (base := base) T
  have G__law_cell := ok__law_cell (P := P) (w := w) (base := base) T
  have G__law_text := ok__law_text (P := P) (w := w) (base := base) T
  have G_read_text := ok_read_text (P := P) (w := w) (base := base) T
  have G_read_number := ok_read_number (P := P) (w := w) (base := base) T
  have G_number_bytes := ok_number_bytes (P := P) (w := w) (base := base) T
  have G_text_bytes := ok_text_bytes (P := P) (w := w) (base := base) T
  refine ⟨_, (pss_cons (ps_for PassesOwn.never rfl (pi_range1 rfl T.z_range (pa_cons pe_int pa_nil)) (pg_name (i := 2) hnd rfl (Or.inl rfl)) (pss_cons (ps_set (i := 3) hnd rfl (Or.inl rfl) (pe_call G__law_integer (hr.mono (by first | decide | omega)) rfl T.m__law_integer T.F__law_integer.kp T.b__law_integer .nil pass0 (pa_cons (pv 0) (pa_cons (pv 2) pa_nil)))) (pss_cons (ps_set (i := 4) hnd rfl (Or.inl rfl) (pe_call G__law_number (hr.mono (by first | decide | omega)) rfl T.m__law_number T.F__law_number.kp T.b__law_number .nil pass0 (pa_cons (pv 3) pa_nil))) (pss_cons (ps_if (PW.pt (pw_or (pt_cmpR (r := rNeD K) (op_neD hr.units) (pe_callTy call_list_of rfl T.z_list (by decide +kernel) (pa_cons (pe_call G_number_bytes (hr.mono (by first | decide | omega)) rfl T.m_number_bytes T.F_number_bytes.kp T.b_number_bytes .nil pass0 (pa_cons (pv 3) pa_nil)) pa_nil)) (pv 4) (nomark _)) (pw_or1 (pt_cmpR (r := rNeD K) (op_neD hr.units) (pe_call G_read_number (hr.mono (by first | decide | omega)) rfl T.m_read_number T.F_read_number.kp T.b_read_number .nil pass0 (pa_cons (pe_op op_cat (pe_op op_cat (pe_lst (pa_cons pe_int (pa_cons pe_int pa_nil))) (pv 4)) (pe_lst (pa_cons pe_int pa_nil))) (pa_cons pe_int pa_nil))) (pe_tup (pa_cons (pv 3) (pa_cons (pe_op op_add pe_int (pe_callB call_len_seq rfl T.z_len PySem.boot_len (pa_cons (pv 4) pa_nil))) pa_nil))) (nomark _))))) (pss_one (ps_ret pe_bl)) pss_nil) (pss_cons (ps_if (PW.pt (pw_or (pt_cmpR op_notN (pe_call G_read_number (hr.mono (by first | decide | omega)) rfl T.m_read_number T.F_read_number.kp T.b_read_number .nil pass0 (pa_cons (pe_slice sl_list (pv 4) po_none (po_some (pe_un un_neg pe_int))) (pa_cons pe_int pa_nil))) pe_non (nomark _)) (pw_or1 (pt_cmpR op_notN (pe_call G_read_number (hr.mono (by first | decide | omega)) rfl T.m_read_number T.F_read_number.kp T.b_read_number .nil pass0 (pa_cons (pe_op op_cat (pe_slice sl_list (pv 4) po_none (po_some (pe_un un_neg pe_int))) (pe_lst (pa_cons (pe_op op_add (pe_ix (r := rIxL K) ix_list (pv 4) (pe_un un_neg pe_int) (fun _ _ => rfl)) pe_int) (pa_cons pe_int pa_nil)))) (pa_cons pe_int pa_nil))) pe_non (nomark _))))) (pss_one (ps_ret pe_bl)) pss_nil) (pss_cons (ps_set (i := 5) hnd rfl (Or.inl rfl) (pe_call G__law_padded (hr.mono (by first | decide | omega)) rfl T.m__law_padded T.F__law_padded.kp T.b__law_padded .nil pass0 (pa_cons (pe_call G__law_cell (hr.mono (by first | decide | omega)) rfl T.m__law_cell T.F__law_cell.kp T.b__law_cell .nil pass0 (pa_cons (pv 0) (pa_cons (pe_op op_add pe_int (pv 2)) pa_nil))) (pa_cons (pe_op op_add pe_int (pv 2)) pa_nil)))) (pss_cons (ps_set (i := 6) hnd rfl (Or.inl rfl) (pe_op op_add_str (pe_call G__law_text (hr.mono (by first | decide | omega)) rfl T.m__law_text T.F__law_text.kp T.b__law_text .nil pass0 (pa_cons (pv 5) pa_nil)) (pe_slice sl_str pe_str po_none (po_some (pe_op op_mod (pe_callTy call_int1 rfl T.z_int (by decide +kernel) (pa_cons (pe_ix (r := rIxL K) ix_list (pv 5) pe_int (fun _ _ => rfl)) pa_nil)) pe_int))))) (pss_cons (ps_set (i := 7) hnd rfl (Or.inl rfl) (pe_op op_cat (pe_call G__law_number (hr.mono (by first | decide | omega)) rfl T.m__law_number T.F__law_number.kp T.b__law_number .nil pass0 (pa_cons (pe_callB call_len_str rfl T.z_len PySem.boot_len (pa_cons (pv 6) pa_nil)) pa_nil)) (pe_lc (own := [("char", 1)]) rfl hnd (pi_str (pv 6)) (blkOk_by (own := [("char", 1)]) (N := N_law) (sc := defScope s_law) (by decide +kernel)) (fun _ _ _ _ _ => (pg_name (i := 1) hnd rfl (Or.inl rfl))) (fun _ _ _ _ _ => pts_nil) (fun _ _ _ _ _ => (pe_callB call_ord rfl T.z_ord (by decide +kernel) (pa_cons (pv 1) pa_nil)))))) (pss_cons (ps_if (PW.pt (pw_or (pt_cmpR (r := rNeD K) (op_neD hr.units) (pe_callTy call_list_of rfl T.z_list (by decide +kernel) (pa_cons (pe_call G_text_bytes (hr.mono (by first | decide | omega)) rfl T.m_text_bytes T.F_text_bytes.kp T.b_text_bytes .nil pass0 (pa_cons (pv 6) pa_nil)) pa_nil)) (pv 7) (nomark _)) (pw_or1 (pt_cmpR (r := rNeD K) (op_neD hr.units) (pe_call G_read_text (hr.mono (by first | decide | omega)) rfl T.m_read_text T.F_read_text.kp T.b_read_text .nil pass0 (pa_cons (pe_op op_cat (pe_op op_cat (pe_lst (pa_cons pe_int pa_nil)) (pv 7)) (pe_lst (pa_cons pe_int pa_nil))) (pa_cons pe_int pa_nil))) (pe_tup (pa_cons (pv 6) (pa_cons (pe_op op_add pe_int (pe_callB call_len_seq rfl T.z_len PySem.boot_len (pa_cons (pv 7) pa_nil))) pa_nil))) (nomark _))))) (pss_one (ps_ret pe_bl)) pss_nil) (pss_cons (ps_if (pt_cmpR op_notN (pe_call G_read_text (hr.mono (by first | decide | omega)) rfl T.m_read_text T.F_read_text.kp T.b_read_text .nil pass0 (pa_cons (pe_slice sl_list (pv 7) po_none (po_some (pe_un un_neg pe_int))) (pa_cons pe_int pa_nil))) pe_non (nomark _)) (pss_one (ps_ret pe_bl)) pss_nil) (pss_one (ps_for PassesOwn.never rfl (pi_list (pe_lst (pa_cons pe_int (pa_cons pe_int (pa_cons pe_int (pa_cons pe_int pa_nil)))))) (pg_name (i := 8) hnd rfl (Or.inl rfl)) (pss_one (ps_if (PW.pt (pw_and (pt_cmpR op_notN (pe_call G_read_text (hr.mono (by first | decide | omega)) rfl T.m_read_text T.F_read_text.kp T.b_read_text .nil pass0 (pa_cons (pe_op op_cat (pe_op op_cat (pe_slice sl_list (pv 7) po_none (po_some pe_int)) (pe_lst (pa_cons (pv 8) pa_nil))) (pe_slice sl_list (pv 7) (po_some pe_int) po_none)) (pa_cons pe_int pa_nil))) pe_non (nomark _)) (pw_and1 (pt_cmpR op_gt (pe_callB call_len_str rfl T.z_len PySem.boot_len (pa_cons (pv 6) pa_nil)) pe_int (nomark _))))) (pss_one (ps_ret pe_bl)) pss_nil)))))))))))))) (pss_one (ps_ret pe_bl))), runS h ?_⟩
  rintro ns _ _ ⟨hn⟩
  (try dsimp only [cxK, cxK', List.map, List.length_cons, List.length_nil, List.cons_append, List.nil_append, Nat.reduceAdd, Nat.reduceSub, Nat.zero_add, Nat.add_zero, List.replicate, List.set])
  apply s_seq_for (xs := List.range 6) (enc := encR 0) (fun i e => ∃ a b c d f g h, e = [scr K ns, .unk, a, b, c, d, f, g, h]) (fun _ => False)
  · exact w_range1 (j := 6) (by tb_start) (by decide) (by decide)
  · exact ⟨_, _, _, _, _, _, _, rfl⟩
  rotate_left
  · rintro _ ⟨a, b, c, d, f, g, h, rfl⟩
    tb_start
  · exact fun _ z => z.elim
  rintro i a _ ha ⟨a1, b, c, d, f, g, h, rfl⟩
  obtain ⟨hi, ea⟩ := List.getElem?_eq_some_iff.mp ha
  rw [List.length_range] at hi
  rw [List.getElem_range] at ea
  subst ea
  refine ⟨_, _, g_name, ?_⟩
  simp only [encR, Int.zero_add]
  obtain ⟨n, hnz⟩ := Int.eq_ofNat_of_zero_le (intZ_range ns i).1
  have hn20 : n < 128 ^ 20 := by
    have := (intZ_range ns i).2
    rw [hnz] at this
    have e2 : (128 : Int) ^ 19 = 10889035741470030830827987437816582766592 := by decide
    have e3 : (128 : Nat) ^ 20 = 1393796574908163946345982392040522594123776 := by decide
    rw [e2] at this
    rw [e3]
    omega
  have eRI : RLI ns [.int (i : Int)] (.int (n : Int)) := by rw [← hnz]; exact RLI.mk i
  have eNB : RNB [.int (n : Int)] ((numB n).map .int) := RNB.mk n hn20
  have eLN : RLN [.int (n : Int)] ((numB n).map .int) := RLN.mk n hn20
  have hnl := numB_len 20 n hn20 (by decide)
  have hnp := numB_pos n
  have eA : RRN [.list ([.int 9, .int 9] ++ (numB n).map .int ++ [.int 7]), .int 2] (.tuple [.int (n : Int), .int (2 + (((numB n).map PyData.int).length : Nat))]) := by
    have := RRN.mk ([9, 9] ++ (numB n ++ [7])) 2 (by simp; omega) (fun d hd => by
      simp only [List.mem_append, List.mem_cons, List.not_mem_nil, or_false] at hd
      rcases hd with (rfl | rfl) | hd | rfl
      · decide
      · decide
      · have := numB_byte n d hd; omega
      · decide) (by decide)
    rw [show readN ([9, 9] ++ (numB n ++ [7])) 2 = some ((n : Int), 2 + (numB n).length) from readN_at [9, 9] n [7]] at this
    rw [List.length_map]
    rw [List.map_append, List.map_append, ← List.append_assoc] at this
    exact this
  obtain ⟨init, lst, hsp⟩ : ∃ init lst, numB n = init ++ [lst] := ⟨(numB n).dropLast, (numB n).getLast (by intro z; rw [z] at hnp; exact absurd hnp (Nat.lt_irrefl 0)), (List.dropLast_concat_getLast _).symm⟩
  have hin : ∀ d ∈ init, 128 ≤ d := by
    have := numB_init n (numB n).dropLast.length (by rw [List.length_dropLast]; omega)
    rw [hsp, List.dropLast_concat, List.take_left] at this
    exact this
  have hib : ∀ d ∈ init, d < 256 := fun d hd => (numB_byte n d (by rw [hsp]; exact List.mem_append_left _ hd)).2
  have hlb := numB_byte n lst (by rw [hsp]; exact List.mem_append_right _ List.mem_cons_self)
  have hil : init.length ≤ 20 := by have e := congrArg List.length hsp; rw [List.length_append] at e; omega
  have eI : Psr K (rSlL K) (.list ((numB n).map .int)) none (some (-1)) (.list (init.map .int)) := by
    rw [show (PyData.list (init.map .int)) = .list (cutG ((numB n).map PyData.int) none (some (-1))) by rw [cutG_init, ← List.map_dropLast, hsp, List.dropLast_concat]]
    exact sl_L
  have eB : RRN [.list (init.map .int), .int 0] .none := by
    have := RRN.mk init 0 (by omega) (fun d hd => ⟨by have := hin d hd; omega, by have := hib d hd; omega⟩) (by decide)
    rw [show readN init 0 = none from rd_none _ _ _ _ _ hin] at this
    exact this
  have eL : atI ((numB n).map PyData.int) (-1) = some (.int lst) := by rw [hsp, List.map_append]; exact atI_last _ _
  have eC : RRN [.list (init.map .int ++ [.int (lst + 128), .int 0]), .int 0] .none := by
    have := RRN.mk (init ++ [lst + 128, 0]) 0 (by simp; omega) (fun d hd => by
      simp only [List.mem_append, List.mem_cons, List.not_mem_nil, or_false] at hd
      rcases hd with hd | rfl | rfl
      · have := hin d hd; have := hib d hd; omega
      · omega
      · decide) (by decide)
    have hz : ∀ (l : List Int) (f : Bool) (a b : Int) (j : Nat), (∀ d ∈ l, 128 ≤ d) → (l = [] → f = false) → rdG (l ++ [0]) f a b j = none := by
      intro l
      induction l with
      | nil =>
        intro f a b j _ hf
        rw [hf rfl]; rfl
      | cons d l ih =>
        intro f a b j h _
        have hd := h d List.mem_cons_self
        show (if d < 128 then _ else rdG (l ++ [0]) false _ _ _) = _
        rw [if_neg (by omega)]
        exact ih false _ _ _ (fun x hx => h x (List.mem_cons_of_mem _ hx)) fun _ => rfl
    rw [show readN (init ++ [lst + 128, 0]) 0 = none by
      unfold readN
      rw [List.drop_zero, show init ++ [lst + 128, 0] = (init ++ [lst + 128]) ++ [0] by simp]
      refine hz _ _ _ _ _ (fun d hd => ?_) (fun e => by simp at e)
      rcases List.mem_append.mp hd with hd | hd
      · exact hin d hd
      · rw [List.mem_singleton.mp hd]; omega, List.map_append] at this
    exact this
  have hT := txt_ok (cellF ns (10 + i)) (10 + (i : Int)) (dG (cellF ns (10 + i)) (10 + (i : Int)) 12 % 4)
  have hTl := hT.2
  have hcl := codes_len (textF (cellF ns (10 + i)) (10 + (i : Int)) ++ cutS (Str.ofString "~ !") none (some (dG (cellF ns (10 + i)) (10 + (i : Int)) 12 % 4)))
  have hn3 := numB_len3 (n := (textF (cellF ns (10 + i)) (10 + (i : Int)) ++ cutS (Str.ofString "~ !") none (some (dG (cellF ns (10 + i)) (10 + (i : Int)) 12 % 4))).length) (by omega)
  have h6 := mod_r (dG (cellF ns (10 + i)) (10 + (i : Int)) 0) (m := 6) (by decide)
  have hA : (textF (cellF ns (10 + i)) (10 + (i : Int))).length ≤ 60 := Nat.le_trans (textN_ok (cellF ns (10 + i)) (10 + (i : Int)) (dG (cellF ns (10 + i)) (10 + (i : Int)) 0 % 6).toNat).2 (by omega)
  have hB : (cutS ("~ !" : Str) none (some (dG (cellF ns (10 + i)) (10 + (i : Int)) 12 % 4))).length ≤ 3 := (tail_ok _).2
  have e12 : atI ((padF (cellF ns (10 + i)) (10 + (i : Int))).map PyData.int) 12 = some (.int (dG (cellF ns (10 + i)) (10 + (i : Int)) 12)) := at_pad 12 (by decide)
  obtain ⟨f1, f2, f3, f4, f5, f6, f7, f8, f9, f10⟩ := facts (K := K) hT
  tb_start
  · refine e_as (d := .list ((textF (cellF ns (10 + i)) (10 + (i : Int)) ++ cutS (Str.ofString "~ !") none (some (dG (cellF ns (10 + i)) (10 + (i : Int)) 12 % 4))).cps.toList.map fun c => .int (Int.ofNat c))) (d' := .list ((codes (textF (cellF ns (10 + i)) (10 + (i : Int)) ++ cutS (Str.ofString "~ !") none (some (dG (cellF ns (10 + i)) (10 + (i : Int)) 12 % 4)))).map .int)) ?_ (by unfold codes; rw [List.map_map]; rfl)
    apply e_map (xs := (textF (cellF ns (10 + i)) (10 + (i : Int)) ++ cutS (Str.ofString "~ !") none (some (dG (cellF ns (10 + i)) (10 + (i : Int)) 12 % 4))).cps.toList) (enc := encS) (fun c => .int (Int.ofNat c))
    · tb_start
    · intro j c hc
      (refine ⟨_, _, g_name, fun _ h => h, ?_⟩; dsimp only [wipeE, List.set])
      apply e_as <;> tb_start
    · have := len_cps (textF (cellF ns (10 + i)) (10 + (i : Int)) ++ cutS (Str.ofString "~ !") none (some (dG (cellF ns (10 + i)) (10 + (i : Int)) 12 % 4)))
      (unfold sizeLine; first | omega | (simp only [List.length_cons, List.length_nil, List.length_append, List.length_map, List.length_take, List.length_drop, List.length_range]; omega))
  tb_start
  have hch : ∀ c ∈ [37, 31, 127, (11 : Int)], 0 ≤ c ∧ c < 256 ∧ isCh c = false := by decide +kernel
  refine s_for (xs := [37, 31, 127, 11]) (enc := .int) (fun _ e => ∃ z, e = [scr K ns, .unk, .val (.int (i : Int)), .val (.int (n : Int)), .val (.list ((numB n).map .int)), .val (.list ((padF (cellF ns (10 + i)) (10 + (i : Int))).map .int)), .val (.str (textF (cellF ns (10 + i)) (10 + (i : Int)) ++ cutS (Str.ofString "~ !") none (some (dG (cellF ns (10 + i)) (10 + (i : Int)) 12 % 4)))), .val (.list ((numB (textF (cellF ns (10 + i)) (10 + (i : Int)) ++ cutS (Str.ofString "~ !") none (some (dG (cellF ns (10 + i)) (10 + (i : Int)) 12 % 4))).length).map .int ++ (codes (textF (cellF ns (10 + i)) (10 + (i : Int)) ++ cutS (Str.ofString "~ !") none (some (dG (cellF ns (10 + i)) (10 + (i : Int)) 12 % 4)))).map .int)), z]) (fun _ => False) ?_ ⟨_, rfl⟩ ?_ ?_ (fun _ z => z.elim)
  · tb_start
  · rintro j c _ hc ⟨z, rfl⟩
    obtain ⟨hc0, hc1, hc2⟩ := hch c (List.mem_of_getElem? hc)
    obtain ⟨d, hd, hd0⟩ := f10 c hc0 hc1 hc2
    refine ⟨_, _, g_name, ?_⟩
    have hdl : (List.drop 1 (codes (textF (cellF ns (10 + i)) (10 + (i : Int)) ++ cutS (Str.ofString "~ !") none (some (dG (cellF ns (10 + i)) (10 + (i : Int)) 12 % 4))))).length ≤ 60 := by rw [List.length_drop]; omega
    by_cases hp : 0 < (textF (cellF ns (10 + i)) (10 + (i : Int)) ++ cutS (Str.ofString "~ !") none (some (dG (cellF ns (10 + i)) (10 + (i : Int)) 12 % 4))).length
    · rw [hd0 hp] at hd
      tb_start
      all_goals (try exact ⟨_, rfl⟩)
      all_goals tb_start
      all_goals (try exact ⟨_, rfl⟩)
    · tb_start
      all_goals (try exact ⟨_, rfl⟩)
      all_goals tb_start
      all_goals (try exact ⟨_, rfl⟩)
  · rintro _ ⟨z, rfl⟩
    exact ⟨_, _, _, _, _, _, _, rfl⟩
theorem ok_law (T : Txt K mg A D) : FnOk P w K mg base CX0 3 (A 10) (D 10) ["script"] (ySpLaw K) := (ok_lawY T).imp fun _ _ _ _ h => law_imp h
end

theorem all_mk {l : PySem.W.OpenLaw} {w : World} {K : PySem.W.Frag} {h : Heap} {mg : Str → Option Value} {fa f0 f1 f2 f3 f4 f5 f6 f7 f8 f9 f10 : Addr} (X : K.In h) (G : h.Ns mainGlobals mg) (hfa : mg "law" = some (.ref fa))
    {od0 od1 od2 od3 od4 od5 od6 od7 od8 od9 od10 an0 an1 an2 an3 an4 an5 an6 an7 an8 an9 an10 : Option Addr} {sl0 sl1 sl2 sl3 sl4 sl5 sl6 sl7 sl8 sl9 sl10 : Array (Option Value)} {oc0 oc1 oc2 oc3 oc4 oc5 oc6 oc7 oc8 oc9 oc10 kV0 kV1 kV2 kV3 kV4 kV5 kV6 kV7 kV8 kV9 kV10 dc0 dc1 dc2 dc3 dc4 dc5 dc6 dc7 dc8 dc9 dc10 pm0 pm1 pm2 pm3 pm4 pm5 pm6 pm7 pm8 pm9 pm10 cd0 cd1 cd2 cd3 cd4 cd5 cd6 cd7 cd8 cd9 cd10 ct0 ct1 ct2 ct3 ct4 ct5 ct6 ct7 ct8 ct9 ct10 : Value} {t0 t1 : Tok}
    (a0 : PySem.W.nsIn K mainGlobals "number_bytes" = some (some (.ref f0))) (l0 : K.lookup f0 = some ⟨oc0, od0, .func (PySem.W.fnOf "number_bytes" "number_bytes" (defArgs s_number_bytes) (defBody s_number_bytes) (defScope s_number_bytes) .none kV0 dc0 pm0 an0 cd0 ct0), sl0⟩) (c0 : PySem.W.codeIn K cd0 "number_bytes" = true) (k0 : PySem.W.keepIn K (.ref f0) = true)
    (a1 : PySem.W.nsIn K mainGlobals "text_bytes" = some (some (.ref f1))) (l1 : K.lookup f1 = some ⟨oc1, od1, .func (PySem.W.fnOf "text_bytes" "text_bytes" (defArgs s_text_bytes) (defBody s_text_bytes) (defScope s_text_bytes) .none kV1 dc1 pm1 an1 cd1 ct1), sl1⟩) (c1 : PySem.W.codeIn K cd1 "text_bytes" = true) (k1 : PySem.W.keepIn K (.ref f1) = true)
    (a2 : PySem.W.nsIn K mainGlobals "read_number" = some (some (.ref f2))) (l2 : K.lookup f2 = some ⟨oc2, od2, .func (PySem.W.fnOf "read_number" "read_number" (defArgs s_read_number) (defBody s_read_number) (defScope s_read_number) .none kV2 dc2 pm2 an2 cd2 ct2), sl2⟩) (c2 : PySem.W.codeIn K cd2 "read_number" = true) (k2 : PySem.W.keepIn K (.ref f2) = true)
    (a3 : PySem.W.nsIn K mainGlobals "read_text" = some (some (.ref f3))) (l3 : K.lookup f3 = some ⟨oc3, od3, .func (PySem.W.fnOf "read_text" "read_text" (defArgs s_read_text) (defBody s_read_text) (defScope s_read_text) .none kV3 dc3 pm3 an3 cd3 ct3), sl3⟩) (c3 : PySem.W.codeIn K cd3 "read_text" = true) (k3 : PySem.W.keepIn K (.ref f3) = true)
    (a4 : PySem.W.nsIn K mainGlobals "_law_cell" = some (some (.ref f4))) (l4 : K.lookup f4 = some ⟨oc4, od4, .func (PySem.W.fnOf "_law_cell" "_law_cell" (defArgs s__law_cell) (defBody s__law_cell) (defScope s__law_cell) .none kV4 dc4 pm4 an4 cd4 ct4), sl4⟩) (c4 : PySem.W.codeIn K cd4 "_law_cell" = true) (k4 : PySem.W.keepIn K (.ref f4) = true)
    (a5 : PySem.W.nsIn K mainGlobals "_law_digits" = some (some (.ref f5))) (l5 : K.lookup f5 = some ⟨oc5, od5, .func (PySem.W.fnOf "_law_digits" "_law_digits" (defArgs s__law_digits) (defBody s__law_digits) (defScope s__law_digits) .none kV5 dc5 pm5 an5 cd5 ct5), sl5⟩) (c5 : PySem.W.codeIn K cd5 "_law_digits" = true) (k5 : PySem.W.keepIn K (.ref f5) = true)
    (a6 : PySem.W.nsIn K mainGlobals "_law_padded" = some (some (.ref f6))) (l6 : K.lookup f6 = some ⟨oc6, od6, .func (PySem.W.fnOf "_law_padded" "_law_padded" (defArgs s__law_padded) (defBody s__law_padded) (defScope s__law_padded) .none kV6 dc6 pm6 an6 cd6 ct6), sl6⟩) (c6 : PySem.W.codeIn K cd6 "_law_padded" = true) (k6 : PySem.W.keepIn K (.ref f6) = true)
    (a7 : PySem.W.nsIn K mainGlobals "_law_number" = some (some (.ref f7))) (l7 : K.lookup f7 = some ⟨oc7, od7, .func (PySem.W.fnOf "_law_number" "_law_number" (defArgs s__law_number) (defBody s__law_number) (defScope s__law_number) .none kV7 dc7 pm7 an7 cd7 ct7), sl7⟩) (c7 : PySem.W.codeIn K cd7 "_law_number" = true) (k7 : PySem.W.keepIn K (.ref f7) = true)
    (a8 : PySem.W.nsIn K mainGlobals "_law_text" = some (some (.ref f8))) (l8 : K.lookup f8 = some ⟨oc8, od8, .func (PySem.W.fnOf "_law_text" "_law_text" (defArgs s__law_text) (defBody s__law_text) (defScope s__law_text) .none kV8 dc8 pm8 an8 cd8 ct8), sl8⟩) (c8 : PySem.W.codeIn K cd8 "_law_text" = true) (k8 : PySem.W.keepIn K (.ref f8) = true)
    (a9 : PySem.W.nsIn K mainGlobals "_law_integer" = some (some (.ref f9))) (l9 : K.lookup f9 = some ⟨oc9, od9, .func (PySem.W.fnOf "_law_integer" "_law_integer" (defArgs s__law_integer) (defBody s__law_integer) (defScope s__law_integer) .none kV9 dc9 pm9 an9 cd9 ct9), sl9⟩) (c9 : PySem.W.codeIn K cd9 "_law_integer" = true) (k9 : PySem.W.keepIn K (.ref f9) = true)
    (a10 : PySem.W.nsIn K mainGlobals "law" = some (some (.ref f10))) (l10 : K.lookup f10 = some ⟨oc10, od10, .func (PySem.W.fnOf "law" "law" (defArgs s_law) (defBody s_law) (defScope s_law) .none kV10 dc10 pm10 an10 cd10 ct10), sl10⟩) (c10 : PySem.W.codeIn K cd10 "law" = true) (k10 : PySem.W.keepIn K (.ref f10) = true)
    (gc0 : PySem.W.nsIn K mainGlobals "BASE" = some (some (.int 128 t0)))
    (gc1 : PySem.W.nsIn K mainGlobals "CHARACTERS" = some (some (.str " !\"#$&'()*+,-./0123456789:;<=>?@ABCDEFGHIJKLMNOPQRSTUVWXYZ[\\]^_`abcdefghijklmnopqrstuvwxyz{|}~" t1)))
    (z0 : PySem.W.nsIn K mainGlobals "int" = some none)
    (z1 : PySem.W.nsIn K mainGlobals "len" = some none)
    (z2 : PySem.W.nsIn K mainGlobals "list" = some none)
    (z3 : PySem.W.nsIn K mainGlobals "ord" = some none)
    (z4 : PySem.W.nsIn K mainGlobals "range" = some none)
    : ∃ fd : FuncData, (∀ (s : Shared) (v : Value), BindsTo s fd ⟨[v], []⟩ [("script", v)]) ∧ ∀ base : Heap, K.In base → base.Ns mainGlobals mg → FnOk l.prog w K mg base CX0 3 fa fd ["script"] (ySpLaw K) := by
  have e := hfa.symm.trans (PySem.W.mg_of X G a10)
  cases e
  have F0 := fun_mk (st := s_number_bytes) l0 c0 k0
  have F1 := fun_mk (st := s_text_bytes) l1 c1 k1
  have F2 := fun_mk (st := s_read_number) l2 c2 k2
  have F3 := fun_mk (st := s_read_text) l3 c3 k3
  have F4 := fun_mk (st := s__law_cell) l4 c4 k4
  have F5 := fun_mk (st := s__law_digits) l5 c5 k5
  have F6 := fun_mk (st := s__law_padded) l6 c6 k6
  have F7 := fun_mk (st := s__law_number) l7 c7 k7
  have F8 := fun_mk (st := s__law_text) l8 c8 k8
  have F9 := fun_mk (st := s__law_integer) l9 c9 k9
  have F10 := fun_mk (st := s_law) l10 c10 k10
  have b0 := F0.binds (ps := ["n"]) fun _ _ _ _ _ _ us hl => match us, hl with | [_], _ => rfl
  have b1 := F1.binds (ps := ["text"]) fun _ _ _ _ _ _ us hl => match us, hl with | [_], _ => rfl
  have b2 := F2.binds (ps := ["data", "at"]) fun _ _ _ _ _ _ us hl => match us, hl with | [_, _], _ => rfl
  have b3 := F3.binds (ps := ["data", "at"]) fun _ _ _ _ _ _ us hl => match us, hl with | [_, _], _ => rfl
  have b4 := F4.binds (ps := ["script", "k"]) fun _ _ _ _ _ _ us hl => match us, hl with | [_, _], _ => rfl
  have b5 := F5.binds (ps := ["cell", "k", "most"]) fun _ _ _ _ _ _ us hl => match us, hl with | [_, _, _], _ => rfl
  have b6 := F6.binds (ps := ["cell", "k"]) fun _ _ _ _ _ _ us hl => match us, hl with | [_, _], _ => rfl
  have b7 := F7.binds (ps := ["n"]) fun _ _ _ _ _ _ us hl => match us, hl with | [_], _ => rfl
  have b8 := F8.binds (ps := ["d"]) fun _ _ _ _ _ _ us hl => match us, hl with | [_], _ => rfl
  have b9 := F9.binds (ps := ["script", "k"]) fun _ _ _ _ _ _ us hl => match us, hl with | [_, _], _ => rfl
  have b10 := F10.binds (ps := ["script"]) fun _ _ _ _ _ _ us hl => match us, hl with | [_], _ => rfl
  let AA : Nat → Addr := fun i => match i with | 0 => f0 | 1 => f1 | 2 => f2 | 3 => f3 | 4 => f4 | 5 => f5 | 6 => f6 | 7 => f7 | 8 => f8 | 9 => f9 | 10 => fa | _ => fa
  let DD : Nat → FuncData := fun i => match i with | 0 => PySem.W.fnOf "number_bytes" "number_bytes" (defArgs s_number_bytes) (defBody s_number_bytes) (defScope s_number_bytes) .none kV0 dc0 pm0 an0 cd0 ct0 | 1 => PySem.W.fnOf "text_bytes" "text_bytes" (defArgs s_text_bytes) (defBody s_text_bytes) (defScope s_text_bytes) .none kV1 dc1 pm1 an1 cd1 ct1 | 2 => PySem.W.fnOf "read_number" "read_number" (defArgs s_read_number) (defBody s_read_number) (defScope s_read_number) .none kV2 dc2 pm2 an2 cd2 ct2 | 3 => PySem.W.fnOf "read_text" "read_text" (defArgs s_read_text) (defBody s_read_text) (defScope s_read_text) .none kV3 dc3 pm3 an3 cd3 ct3 | 4 => PySem.W.fnOf "_law_cell" "_law_cell" (defArgs s__law_cell) (defBody s__law_cell) (defScope s__law_cell) .none kV4 dc4 pm4 an4 cd4 ct4 | 5 => PySem.W.fnOf "_law_digits" "_law_digits" (defArgs s__law_digits) (defBody s__law_digits) (defScope s__law_digits) .none kV5 dc5 pm5 an5 cd5 ct5 | 6 => PySem.W.fnOf "_law_padded" "_law_padded" (defArgs s__law_padded) (defBody s__law_padded) (defScope s__law_padded) .none kV6 dc6 pm6 an6 cd6 ct6 | 7 => PySem.W.fnOf "_law_number" "_law_number" (defArgs s__law_number) (defBody s__law_number) (defScope s__law_number) .none kV7 dc7 pm7 an7 cd7 ct7 | 8 => PySem.W.fnOf "_law_text" "_law_text" (defArgs s__law_text) (defBody s__law_text) (defScope s__law_text) .none kV8 dc8 pm8 an8 cd8 ct8 | 9 => PySem.W.fnOf "_law_integer" "_law_integer" (defArgs s__law_integer) (defBody s__law_integer) (defScope s__law_integer) .none kV9 dc9 pm9 an9 cd9 ct9 | 10 => PySem.W.fnOf "law" "law" (defArgs s_law) (defBody s_law) (defScope s_law) .none kV10 dc10 pm10 an10 cd10 ct10 | _ => PySem.W.fnOf "law" "law" (defArgs s_law) (defBody s_law) (defScope s_law) .none kV10 dc10 pm10 an10 cd10 ct10
  have T : Txt K mg AA DD := { F_number_bytes := F0, b_number_bytes := b0, m_number_bytes := PySem.W.mg_of X G a0, F_text_bytes := F1, b_text_bytes := b1, m_text_bytes := PySem.W.mg_of X G a1, F_read_number := F2, b_read_number := b2, m_read_number := PySem.W.mg_of X G a2, F_read_text := F3, b_read_text := b3, m_read_text := PySem.W.mg_of X G a3, F__law_cell := F4, b__law_cell := b4, m__law_cell := PySem.W.mg_of X G a4, F__law_digits := F5, b__law_digits := b5, m__law_digits := PySem.W.mg_of X G a5, F__law_padded := F6, b__law_padded := b6, m__law_padded := PySem.W.mg_of X G a6, F__law_number := F7, b__law_number := b7, m__law_number := PySem.W.mg_of X G a7, F__law_text := F8, b__law_text := b8, m__law_text := PySem.W.mg_of X G a8, F__law_integer := F9, b__law_integer := b9, m__law_integer := PySem.W.mg_of X G a9, F_law := F10, b_law := b10, m_law := PySem.W.mg_of X G a10, c_BASE := ⟨t0, PySem.W.mg_of X G gc0⟩, c_CHARACTERS := ⟨t1, PySem.W.mg_of X G gc1⟩, z_int := PySem.W.mg_none_of X G z0, z_len := PySem.W.mg_none_of X G z1, z_list := PySem.W.mg_none_of X G z2, z_ord := PySem.W.mg_none_of X G z3, z_range := PySem.W.mg_none_of X G z4 }
  exact ⟨DD 10, fun s v => .of_eq rfl, fun base _ _ => ok_law (A := AA) (D := DD) T⟩
theorem walk {l : PySem.W.OpenLaw} {q : Program} {loose : List Str} {XP : (Str → Option Value) → Heap → Prop} {YP : World → Heap → Prop} {d : DefRec} {K : Params → PySem.W.Frag} (hn : l.most = some 63) (hdf : d.params.defaults = [])
    (hY : ∀ (w : World) (h : Heap), YP w h → (K w.params).In h)
    (F : ∀ (w : World) (mg : Str → Option Value) (fa : Addr) (h : Heap), (K w.params).In h → h.Ns mainGlobals mg → mg d.name = some (.ref fa) →
      ∃ fd : FuncData, (∀ (s : Shared) (u : Value), BindsTo s fd ⟨[u], []⟩ [("script", u)]) ∧ ∀ base : Heap, (K w.params).In base → base.Ns mainGlobals mg → FnOk l.prog w (K w.params) mg base CX0 3 fa fd ["script"] (ySpLaw (K w.params))) :
    PySem.W.WalkO q loose XP YP l.row.toRowW d [] (fun f vs => PySem.call f vs) :=
  L2.walk_of (n := 63) (k := 3) (x := "script") (CX := fun _ => CX0) (sp := fun w => ySpLaw (K w.params)) hn (by decide) hdf ⟨rfl, by decide, by decide⟩ hY F (fun _ _ a ns hl _ hS => ⟨a, ns, rfl, hS, hl, fun _ => rfl⟩) fun _ _ _ _ _ z => z
end Z
open PySem PySem.W PyProof.Rows
set_option maxRecDepth 100000 in
set_option maxHeartbeats 0 in
theorem PySem.Challenge.cw_timeshelf_k43_integers_and_strings_holds : PySem.Challenge.rw_timeshelf_k43_integers_and_strings.Holds := by
  w_on; o_law; k_head; (case hw => w_witness2)
  k_fill
  refine Z.walk (l := PySem.Challenge.rw_timeshelf_k43_integers_and_strings) rfl rfl (fun w h Y => PySem.W.kIn_of Y) ?F
  case F =>
    intro w mg fa h KX G hmg
    refine' Z.all_mk KX G hmg ?a0 ?l0 ?c0 ?k0 ?a1 ?l1 ?c1 ?k1 ?a2 ?l2 ?c2 ?k2 ?a3 ?l3 ?c3 ?k3 ?a4 ?l4 ?c4 ?k4 ?a5 ?l5 ?c5 ?k5 ?a6 ?l6 ?c6 ?k6 ?a7 ?l7 ?c7 ?k7 ?a8 ?l8 ?c8 ?k8 ?a9 ?l9 ?c9 ?k9 ?a10 ?l10 ?c10 ?k10 ?gc0 ?gc1 ?z0 ?z1 ?z2 ?z3 ?z4
    (case a0 => first | k_is | rfl | decide +kernel)
    (case l0 => first | k_is | rfl | decide +kernel)
    (case c0 => first | k_is | rfl | decide +kernel)
    (case k0 => first | k_is | rfl | decide +kernel)
    (case a1 => first | k_is | rfl | decide +kernel)
    (case l1 => first | k_is | rfl | decide +kernel)
    (case c1 => first | k_is | rfl | decide +kernel)
    (case k1 => first | k_is | rfl | decide +kernel)
    (case a2 => first | k_is | rfl | decide +kernel)
    (case l2 => first | k_is | rfl | decide +kernel)
    (case c2 => first | k_is | rfl | decide +kernel)
    (case k2 => first | k_is | rfl | decide +kernel)
    (case a3 => first | k_is | rfl | decide +kernel)
    (case l3 => first | k_is | rfl | decide +kernel)
    (case c3 => first | k_is | rfl | decide +kernel)
    (case k3 => first | k_is | rfl | decide +kernel)
    (case a4 => first | k_is | rfl | decide +kernel)
    (case l4 => first | k_is | rfl | decide +kernel)
    (case c4 => first | k_is | rfl | decide +kernel)
    (case k4 => first | k_is | rfl | decide +kernel)
    (case a5 => first | k_is | rfl | decide +kernel)
    (case l5 => first | k_is | rfl | decide +kernel)
    (case c5 => first | k_is | rfl | decide +kernel)
    (case k5 => first | k_is | rfl | decide +kernel)
    (case a6 => first | k_is | rfl | decide +kernel)
    (case l6 => first | k_is | rfl | decide +kernel)
    (case c6 => first | k_is | rfl | decide +kernel)
    (case k6 => first | k_is | rfl | decide +kernel)
    (case a7 => first | k_is | rfl | decide +kernel)
    (case l7 => first | k_is | rfl | decide +kernel)
    (case c7 => first | k_is | rfl | decide +kernel)
    (case k7 => first | k_is | rfl | decide +kernel)
    (case a8 => first | k_is | rfl | decide +kernel)
    (case l8 => first | k_is | rfl | decide +kernel)
    (case c8 => first | k_is | rfl | decide +kernel)
    (case k8 => first | k_is | rfl | decide +kernel)
    (case a9 => first | k_is | rfl | decide +kernel)
    (case l9 => first | k_is | rfl | decide +kernel)
    (case c9 => first | k_is | rfl | decide +kernel)
    (case k9 => first | k_is | rfl | decide +kernel)
    (case a10 => first | k_is | rfl | decide +kernel)
    (case l10 => first | k_is | rfl | decide +kernel)
    (case c10 => first | k_is | rfl | decide +kernel)
    (case k10 => first | k_is | rfl | decide +kernel)
    (case gc0 => first | k_is | rfl | decide +kernel)
    (case gc1 => first | k_is | rfl | decide +kernel)
    (case z0 => first | k_is | rfl | decide +kernel)
    (case z1 => first | k_is | rfl | decide +kernel)
    (case z2 => first | k_is | rfl | decide +kernel)
    (case z3 => first | k_is | rfl | decide +kernel)
    (case z4 => first | k_is | rfl | decide +kernel)
