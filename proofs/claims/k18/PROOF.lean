import PyProof.Rows.All
import Wide.All
import OpenK.AllK
import Wide.FinOn
import HandS.Conv
import KE.KDictSum
import KE.SortData
import HandS.TupAny
import HandS.ForMost
import HandS.IsInst
import HandS.Walk
import PySem.Challenge.RW_timeshelf_k18_changes_that_count
set_option Elab.async false
set_option linter.all false
set_option maxRecDepth 100000
set_option maxHeartbeats 2000000
namespace Z
open PySem L2
def top (i : Nat) : Stmt := PySem.Challenge.pw_timeshelf_k18_changes_that_count.main.body.getD i (.Pass ⟨0, 0, 0, 0⟩)
abbrev s_counted : Stmt := top 1
abbrev N_counted : List Str := ["changes", "place", "last", "time", "key", "text"]
theorem sc_counted : FnScope ["changes", "place", "last", "time", "key", "text"] ["changes"] (defScope s_counted) := ⟨rfl, rfl, rfl, by decide +kernel, rfl, by decide +kernel, by decide +kernel⟩
abbrev s__law_cell : Stmt := top 3
abbrev N__law_cell : List Str := ["script", "k"]
theorem sc__law_cell : FnScope ["script", "k"] ["script", "k"] (defScope s__law_cell) := ⟨rfl, rfl, rfl, by decide +kernel, rfl, by decide +kernel, by decide +kernel⟩
abbrev s__law_digits : Stmt := top 4
abbrev N__law_digits : List Str := ["script", "first", "last", "digits", "k", "cell", "turn", "seed"]
theorem sc__law_digits : FnScope ["script", "first", "last", "digits", "k", "cell", "turn", "seed"] ["script", "first", "last"] (defScope s__law_digits) := ⟨rfl, rfl, rfl, by decide +kernel, rfl, by decide +kernel, by decide +kernel⟩
abbrev s__law_draw : Stmt := top 5
abbrev N__law_draw : List Str := ["box", "many", "at"]
theorem sc__law_draw : FnScope ["box", "many", "at"] ["box", "many"] (defScope s__law_draw) := ⟨rfl, rfl, rfl, by decide +kernel, rfl, by decide +kernel, by decide +kernel⟩
abbrev s__law_same : Stmt := top 6
abbrev N__law_same : List Str := ["actual", "due", "k"]
theorem sc__law_same : FnScope ["actual", "due", "k"] ["actual", "due"] (defScope s__law_same) := ⟨rfl, rfl, rfl, by decide +kernel, rfl, by decide +kernel, by decide +kernel⟩
abbrev s__law_text : Stmt := top 7
abbrev N__law_text : List Str := ["box", "text", "k"]
theorem sc__law_text : FnScope ["box", "text", "k"] ["box"] (defScope s__law_text) := ⟨rfl, rfl, rfl, by decide +kernel, rfl, by decide +kernel, by decide +kernel⟩
abbrev s__law_change : Stmt := top 8
abbrev N__law_change : List Str := ["box", "keys", "times", "text"]
theorem sc__law_change : FnScope ["box", "keys", "times", "text"] ["box", "keys", "times"] (defScope s__law_change) := ⟨rfl, rfl, rfl, by decide +kernel, rfl, by decide +kernel, by decide +kernel⟩
abbrev s__law_told : Stmt := top 9
abbrev N__law_told : List Str := ["box", "most", "keys", "times", "changes", "k"]
theorem sc__law_told : FnScope ["box", "most", "keys", "times", "changes", "k"] ["box", "most", "keys", "times"] (defScope s__law_told) := ⟨rfl, rfl, rfl, by decide +kernel, rfl, by decide +kernel, by decide +kernel⟩
abbrev s_law : Stmt := top 10
abbrev N_law : List Str := ["script", "change", "place", "box", "changes", "due", "k", "later", "found"]
theorem sc_law : FnScope ["script", "change", "place", "box", "changes", "due", "k", "later", "found"] ["script"] (defScope s_law) := ⟨rfl, rfl, rfl, by decide +kernel, rfl, by decide +kernel, by decide +kernel⟩
structure Txt (K : PySem.W.Frag) (mg : Str → Option Value) (A : Nat → Addr) (D : Nat → FuncData) : Prop where
  F_counted : Fun K "counted" "counted" s_counted (A 0) (D 0)
  b_counted : Binds K (D 0) ["changes"] []
  m_counted : mg "counted" = some (.ref (A 0))
  F__law_cell : Fun K "_law_cell" "_law_cell" s__law_cell (A 1) (D 1)
  b__law_cell : Binds K (D 1) ["script", "k"] []
  m__law_cell : mg "_law_cell" = some (.ref (A 1))
  F__law_digits : Fun K "_law_digits" "_law_digits" s__law_digits (A 2) (D 2)
  b__law_digits : Binds K (D 2) ["script", "first", "last"] []
  m__law_digits : mg "_law_digits" = some (.ref (A 2))
  F__law_draw : Fun K "_law_draw" "_law_draw" s__law_draw (A 3) (D 3)
  b__law_draw : Binds K (D 3) ["box", "many"] []
  m__law_draw : mg "_law_draw" = some (.ref (A 3))
  F__law_same : Fun K "_law_same" "_law_same" s__law_same (A 4) (D 4)
  b__law_same : Binds K (D 4) ["actual", "due"] []
  m__law_same : mg "_law_same" = some (.ref (A 4))
  F__law_text : Fun K "_law_text" "_law_text" s__law_text (A 5) (D 5)
  b__law_text : Binds K (D 5) ["box"] []
  m__law_text : mg "_law_text" = some (.ref (A 5))
  F__law_change : Fun K "_law_change" "_law_change" s__law_change (A 6) (D 6)
  b__law_change : Binds K (D 6) ["box", "keys", "times"] []
  m__law_change : mg "_law_change" = some (.ref (A 6))
  F__law_told : Fun K "_law_told" "_law_told" s__law_told (A 7) (D 7)
  b__law_told : Binds K (D 7) ["box", "most", "keys", "times"] []
  m__law_told : mg "_law_told" = some (.ref (A 7))
  F_law : Fun K "law" "law" s_law (A 8) (D 8)
  b_law : Binds K (D 8) ["script"] []
  m_law : mg "law" = some (.ref (A 8))
  z_bool : mg "bool" = none
  z_int : mg "int" = none
  z_isinstance : mg "isinstance" = none
  z_len : mg "len" = none
  z_list : mg "list" = none
  z_range : mg "range" = none
  z_sorted : mg "sorted" = none
  z_str : mg "str" = none
  z_tuple : mg "tuple" = none
/-! ### what all laws share: cells, digits, draws -/
theorem same_upd {H H' : Hp} {p : Addr} {o : HO} (h : Same H H') (hp : H p = none) : Same H (upd H' p o) := fun b u q => by
  rw [upd_ne (ne_of_none q hp)]; exact h b u q
theorem same_new {H : Hp} {p : Addr} {o : HO} (h : H p = none) : Same H (upd H p o) := same_upd (Same.refl H) h
def yCell (K : PySem.W.Frag) : Sp := fun vs H Q _ => ∃ (l : Addr) (ns : List Int) (k : Nat), vs = [.ref l, .int (k : Int)] ∧ SqL K H l (ns.map V.int) ∧ ∀ z : Int, Q (.int z) H
theorem at_ints {ns : List Int} {k : Nat} (h : k < ns.length) : atI (ns.map V.int) (k : Int) = some (.int (ns.getD k 0)) := by
  apply atI_nat
  rw [List.getElem?_map, List.getElem?_eq_getElem h, List.getD_eq_getElem?_getD, List.getElem?_eq_getElem h]
  rfl
section
variable {P : Program} {w : World} {K : PySem.W.Frag} {mg : Str → Option Value} {base : Heap} {A : Nat → Addr} {D : Nat → FuncData}
theorem ok_cell (T : Txt K mg A D) : FnOk P w K mg base CX0 1 (A 1) (D 1) ["script", "k"] (yCell K) := by
  refine T.F__law_cell.ok sc__law_cell (fun vs H Q E h => ?_) (fun cdv A' outer s H vs Q E hr h => ?_)
  · obtain ⟨l, ns, k, rfl, _⟩ := h; rfl
  obtain ⟨l, ns, k, rfl, hS, q⟩ := h
  refine ⟨_, (pss_cons (ps_if (pt_cmpR op_lt (pv 1) (pe_callB call_len_seq rfl T.z_len PySem.boot_len (pa_cons (pv 0) pa_nil)) (nomark _)) (pss_one (ps_ret (pe_ix (r := rIxL K) ix_list (pv 0) (pv 1) (fun _ _ => rfl)))) pss_nil) (pss_one (ps_ret pe_int))), ?_⟩
  refine ⟨_, rfl, _, rfl, l, _, rfl, .inl hS, _, _, rfl, rfl, _, rfl, ?_⟩
  refine ite2 (fun c => ?_) (fun c => ?_)
  · have c' : (k : Int) < (((ns.map V.int).length : Nat) : Int) := of_decide_eq_true c
    rw [List.length_map] at c'
    exact ⟨_, rfl, _, rfl, l, _, _, _, rfl, rfl, hS, at_ints (by omega), q _⟩
  · exact q 0
def yDigits (K : PySem.W.Frag) : Sp := fun vs H Q _ => ∃ (l : Addr) (ns : List Int), vs = [.ref l, .int 0, .int 63] ∧ SqL K H l (ns.map V.int) ∧
  ∀ (p : Addr) (ds : List Int) (H' : Hp), Same H H' → H p = none → H' p = some (.lst (ds.map V.int)) → ds.length ≤ 3780 → Q (.ref p) H'
theorem len_lt {n : Nat} (h : n ≤ 1000000) : n < sizeLine := Nat.lt_of_le_of_lt h (by decide)
theorem app_map {ds : List Int} {z : Int} : ds.map V.int ++ [V.int z] = (ds ++ [z]).map V.int := by rw [List.map_append]; rfl
theorem ok_digits (T : Txt K mg A D) : FnOk P w K mg base CX0 2 (A 2) (D 2) ["script", "first", "last"] (yDigits K) := by
  refine T.F__law_digits.ok sc__law_digits (fun vs H Q E h => ?_) (fun cdv A' outer s H vs Q E hr h => ?_)
  · obtain ⟨l, ns, rfl, _⟩ := h; rfl
  obtain ⟨l, ns, rfl, hS, q⟩ := h
  have G__law_cell := ok_cell (P := P) (w := w) (base := base) T
  have hnd := sc__law_digits.nd
  refine ⟨_, (pss_cons (ps_set (i := 3) hnd rfl (Or.inl rfl) (pe_lst pa_nil)) (pss_cons (ps_for PassesOwn.never rfl (pi_range2 rfl T.z_range (pa_cons (pv 1) (pa_cons (pv 2) pa_nil))) (pg_name (i := 4) hnd rfl (Or.inl rfl)) (pss_cons (ps_set (i := 5) hnd rfl (Or.inl rfl) (pe_call G__law_cell (hr.mono (by first | decide | omega)) rfl T.m__law_cell T.F__law_cell.kp T.b__law_cell .nil pass0 (pa_cons (pv 0) (pa_cons (pv 4) pa_nil)))) (pss_cons (ps_if (pt_cmpR op_lt (pv 5) pe_int (nomark _)) (pss_one (ps_set (i := 5) hnd rfl (Or.inl rfl) (pe_op op_sub pe_int (pe_op op_mul pe_int (pv 5))))) pss_nil) (pss_one (ps_if (pt_cmpR op_ge (pv 5) (pe_op op_pow pe_int pe_int) (nomark _)) (pss_one (ps_for PassesOwn.never rfl (pi_range1 rfl T.z_range (pa_cons pe_int pa_nil)) (pg_name (i := 6) hnd rfl (Or.inl rfl)) (pss_one (ps_if (pt_cmpR op_gt (pv 5) pe_int (nomark _)) (pss_cons (ps_expr (pe_bm PySem.F.plainAttrs_list PySem.F.slot_list_append PySem.F.type_list_append mt_append (pv 3) (pa_cons (pe_op op_mod (pe_callTy call_int1 rfl T.z_int (by decide +kernel) (pa_cons (pv 5) pa_nil)) pe_int) pa_nil))) (pss_one (ps_set (i := 5) hnd rfl (Or.inl rfl) (pe_op op_fdiv (pv 5) pe_int)))) pss_nil)))) (pss_cons (ps_set (i := 7) hnd rfl (Or.inl rfl) (pe_op op_mod (pe_callTy call_int1 rfl T.z_int (by decide +kernel) (pa_cons (pe_op op_add (pe_op op_add (pe_op op_mul (pv 5) pe_int) (pe_op op_mul (pv 4) pe_int)) pe_int) pa_nil)) pe_int)) (pss_one (ps_for PassesOwn.never rfl (pi_range1 rfl T.z_range (pa_cons pe_int pa_nil)) (pg_name (i := 6) hnd rfl (Or.inl rfl)) (pss_cons (ps_set (i := 7) hnd rfl (Or.inl rfl) (pe_op op_mod (pe_callTy call_int1 rfl T.z_int (by decide +kernel) (pa_cons (pe_op op_add (pe_op op_add (pe_op op_mul (pv 7) pe_int) (pe_op op_mul pe_int (pv 6))) pe_int) pa_nil)) pe_int)) (pss_one (ps_expr (pe_bm PySem.F.plainAttrs_list PySem.F.slot_list_append PySem.F.type_list_append mt_append (pv 3) (pa_cons (pe_op op_mod (pe_callTy call_int1 rfl T.z_int (by decide +kernel) (pa_cons (pe_op op_fdiv (pv 7) pe_int) pa_nil)) pe_int) pa_nil))))))))))))) (pss_one (ps_ret (pv 3))))), ?_⟩
  refine ⟨(by decide), fun p hp => ?_⟩
  have sH := fun o => same_new (o := o) hp
  refine ⟨_, rfl, _, rfl, (0 : Int), (63 : Int), rfl, (by decide), ?_⟩
  refine for_range (lo := 0) (n := 63) (fun i σ H' => ∃ (ds : List Int) (c4 c5 c6 c7 : Option V), σ = [some (.ref l), some (.int 0), some (.int 63), some (.ref p), c4, c5, c6, c7] ∧ Same H H' ∧ H' p = some (.lst (ds.map V.int)) ∧ ds.length ≤ 60 * i)
    ⟨[], none, none, none, none, rfl, sH _, upd_same, Nat.zero_le _⟩ ?_ ?_
  · rintro i σ H1 hi ⟨ds, c4, c5, c6, c7, rfl, s1, hd, hl⟩
    refine ⟨_, rfl, _, rfl, l, ns, i, (by rw [Int.zero_add]; rfl), s1.seq hS, fun z => ?_⟩
    refine ⟨_, rfl, _, _, rfl, rfl, _, rfl, ?_⟩
    refine ite2 (fun c => ?_) (fun c => ?_)
    refine ⟨_, rfl, _, _, rfl, rfl, .inl ⟨by decide, by decide⟩, _, _, rfl, rfl, ?_⟩
    all_goals
      refine ⟨_, rfl, _, _, rfl, rfl, ⟨by decide, by decide, by decide⟩, _, _, rfl, rfl, _, rfl, ?_⟩
      refine ite2 (fun _ => ?_) (fun _ => ?_)
      · refine ⟨_, rfl, by decide, by decide, for_range (n := 60) (fun t σ H' => ∃ (ds : List Int) (c : Int) (c6 : Option V), σ = [some (.ref l), some (.int 0), some (.int 63), some (.ref p), some (.int (0 + (i : Int))), some (.int c), c6, c7] ∧ Same H H' ∧ H' p = some (.lst (ds.map V.int)) ∧ ds.length ≤ 60 * i + t)
          ⟨ds, _, c6, rfl, s1, hd, by omega⟩ ?_ ?_⟩
        · rintro t σ H2 ht ⟨ds2, c, c6, rfl, s2, hd2, hl2⟩
          refine ⟨_, rfl, _, _, rfl, rfl, _, rfl, ?_⟩
          refine ite2 (fun _ => ?_) (fun _ => ?_)
          · refine ⟨_, rfl, .inl ⟨rfl, _, SqL.of hd2⟩, _, rfl, .inl ⟨_, rfl, _, _, rfl, rfl, (by show (0 : Int) < _; decide), _, _, _, rfl, rfl, hd2, (by rw [List.length_map]; exact len_lt (by omega)), ?_⟩⟩
            refine ⟨_, rfl, _, _, rfl, rfl, ⟨by decide, by decide⟩, ?_⟩
            exact ⟨_, _, _, rfl, same_upd s2 hp, by rw [upd_same, app_map], by rw [List.length_append]; simp only [List.length_singleton]; omega⟩
          · exact ⟨_, _, _, rfl, s2, hd2, by omega⟩
        · rintro σ H2 ⟨ds2, c, c6, rfl, s2, hd2, hl2⟩
          exact ⟨_, _, _, _, _, rfl, s2, hd2, by omega⟩
      · refine ⟨_, rfl, _, _, rfl, rfl, .inr ⟨by decide, by decide⟩, _, rfl, _, _, rfl, rfl, .inr ⟨by decide, by decide⟩, _, _, rfl, rfl, _, _, rfl, rfl, .inl ⟨_, rfl, _, _, rfl, rfl, (by show (0 : Int) < _; decide), ?_⟩⟩
        refine ⟨_, rfl, by decide, by decide, for_range (n := 12) (fun t σ H' => ∃ (ds : List Int) (c : Int) (c5 c6 : Option V), σ = [some (.ref l), some (.int 0), some (.int 63), some (.ref p), some (.int (0 + (i : Int))), c5, c6, some (.int c)] ∧ Same H H' ∧ H' p = some (.lst (ds.map V.int)) ∧ ds.length ≤ 60 * i + t)
          ⟨ds, _, _, _, rfl, s1, hd, by omega⟩ ?_ ?_⟩
        · rintro t σ H2 ht ⟨ds2, c, c5, c6, rfl, s2, hd2, hl2⟩
          refine ⟨_, rfl, _, _, rfl, rfl, .inr ⟨by decide, by decide⟩, _, rfl, _, _, rfl, rfl, .inl ⟨by decide, by decide⟩, _, _, rfl, rfl, _, _, rfl, rfl, .inl ⟨_, rfl, _, _, rfl, rfl, (by show (0 : Int) < _; decide), ?_⟩⟩
          refine ⟨_, rfl, .inl ⟨rfl, _, SqL.of hd2⟩, _, rfl, _, _, rfl, rfl, ⟨by decide, by decide⟩, .inl ⟨_, rfl, _, _, rfl, rfl, (by show (0 : Int) < _; decide), _, _, _, rfl, rfl, hd2, (by rw [List.length_map]; exact len_lt (by omega)), ?_⟩⟩
          exact ⟨_, _, _, _, rfl, same_upd s2 hp, by rw [upd_same, app_map], by rw [List.length_append]; simp only [List.length_singleton]; omega⟩
        · rintro σ H2 ⟨ds2, c, c5, c6, rfl, s2, hd2, hl2⟩
          exact ⟨_, _, _, _, _, rfl, s2, hd2, by omega⟩
  · rintro σ H1 ⟨ds, c4, c5, c6, c7, rfl, s1, hd, hl⟩
    exact ⟨_, rfl, q p ds H1 s1 hp hd (by omega)⟩
end

/-- all but the object at b stand as before -/
def Kp (b : Addr) (H H' : Hp) : Prop := ∀ c o, H c = some o → c ≠ b → H' c = some o
theorem Kp.refl (b : Addr) (H : Hp) : Kp b H H := fun _ _ h _ => h
theorem Kp.trans {b : Addr} {H H1 H2 : Hp} (a : Kp b H H1) (c : Kp b H1 H2) : Kp b H H2 := fun x o h n => c x o (a x o h n) n
theorem Kp.upd {b : Addr} {H H' : Hp} {o : HO} (a : Kp b H H') : Kp b H (upd H' b o) := fun x u h n => by rw [upd_ne n]; exact a x u h n
theorem Kp.of {b : Addr} {H H' : Hp} (a : Same H H') : Kp b H H' := fun x o h _ => a x o h
/-- the box of draws: its digits at p, the place -/
def BoxAt (H : Hp) (b p : Addr) : Prop := ∃ (ns : List Int) (n : Nat), H b = some (.lst [.ref p, .int (n : Int)]) ∧ H p = some (.lst (ns.map V.int))
theorem BoxAt.keep {H H' : Hp} {b p : Addr} (h : BoxAt H b p) (k : Same H H') : BoxAt H' b p := by
  obtain ⟨ns, n, h1, h2⟩ := h
  exact ⟨ns, n, k _ _ h1, k _ _ h2⟩
theorem BoxAt.ne {H : Hp} {b p d : Addr} (h : BoxAt H b p) (hd : H d = none) : d ≠ b ∧ d ≠ p := by
  obtain ⟨ns, n, h1, h2⟩ := h
  exact ⟨fun e => (by rw [e, h1] at hd; cases hd), fun e => (by rw [e, h2] at hd; cases hd)⟩
theorem BoxAt.updO {H : Hp} {b p d : Addr} {o : HO} (h : BoxAt H b p) (n1 : d ≠ b) (n2 : d ≠ p) : BoxAt (upd H d o) b p := by
  obtain ⟨ns, n, h1, h2⟩ := h
  exact ⟨ns, n, by rw [upd_ne n1.symm]; exact h1, by rw [upd_ne n2.symm]; exact h2⟩
/-- tuples stand as before -/
def TK (H H' : Hp) : Prop := ∀ c u, (∃ xs, u = .tup xs) → Rd H c u → Rd H' c u
theorem TK.refl (H : Hp) : TK H H := fun _ _ _ h => h
theorem TK.trans {H H1 H2 : Hp} (a : TK H H1) (b : TK H1 H2) : TK H H2 := fun c u h r => b c u h (a c u h r)
theorem TK.same {H H' : Hp} (a : Same H H') : TK H H' := fun c u _ r => by
  rcases r with r | ⟨o, r⟩
  · exact .inl (a _ _ r)
  · exact .inr ⟨o, a _ _ r⟩
theorem TK.kp {b : Addr} {H H' : Hp} {xs : List V} (a : Kp b H H') (h : H b = some (.lst xs)) : TK H H' := fun c u ⟨ys, e⟩ r => by
  subst e
  have hn : c ≠ b := fun z => by subst z; rcases r with r | ⟨o, r⟩ <;> (rw [h] at r; cases r)
  rcases r with r | ⟨o, r⟩
  · exact .inl (a _ _ r hn)
  · exact .inr ⟨o, a _ _ r hn⟩
theorem TK.box {b p : Addr} {H H' : Hp} (h : BoxAt H b p) (a : Kp b H H') : TK H H' := by
  obtain ⟨ns, n, h1, h2⟩ := h
  exact TK.kp a h1
theorem TK.updL {H H' : Hp} {b : Addr} {xs ys : List V} (a : TK H H') (h : H' b = some (.lst xs)) : TK H (upd H' b (.lst ys)) :=
  a.trans (TK.kp (Kp.upd (Kp.refl b H')) h)
theorem TK.new {H H' : Hp} {b : Addr} {o : HO} (a : TK H H') (h : H' b = none) : TK H (upd H' b o) := a.trans (TK.same (same_new h))
theorem TK.seq {K : PySem.W.Frag} {H H' : Hp} (k : TK H H') {a : Addr} {xs : List V} (h : SqT K H a xs) : SqT K H' a xs := by
  rcases h with h | h
  · exact .inl (k _ _ ⟨_, rfl⟩ h)
  · exact .inr h
/-- data without lists -/
inductive Imm : PyData → Prop
  | non : Imm .none
  | bl (b : Bool) : Imm (.bool b)
  | int (i : Int) : Imm (.int i)
  | str (x : Str) : Imm (.str x)
  | tup {ds : List PyData} : (∀ d ∈ ds, Imm d) → Imm (.tuple ds)
mutual
theorem Dp.keep {K : PySem.W.Frag} {H H' : Hp} (k : TK H H') : ∀ {v : V} {d : PyData}, Dp K H v d → Imm d → Dp K H' v d
  | _, _, .non, _ => .non
  | _, _, .bl b, _ => .bl b
  | _, _, .int i, _ => .int i
  | _, _, .str x, _ => .str x
  | _, _, .lst h a, i => nomatch i
  | _, _, .tup h a, i => .tup (k.seq h) (DpAll.keep k a (match i with | .tup j => j))
theorem DpAll.keep {K : PySem.W.Frag} {H H' : Hp} (k : TK H H') : ∀ {vs : List V} {ds : List PyData}, DpAll K H vs ds → (∀ d ∈ ds, Imm d) → DpAll K H' vs ds
  | _, _, .nil, _ => .nil
  | _, _, .cons a b, i => .cons (Dp.keep k a (i _ List.mem_cons_self)) (DpAll.keep k b fun d hd => i d (List.mem_cons_of_mem _ hd))
end
mutual
theorem Dp.same {K : PySem.W.Frag} {H H' : Hp} (k : Same H H') : ∀ {v : V} {d : PyData}, Dp K H v d → Dp K H' v d
  | _, _, .non => .non
  | _, _, .bl b => .bl b
  | _, _, .int i => .int i
  | _, _, .str x => .str x
  | _, _, .lst h a => .lst (k.seq h) (DpAll.same k a)
  | _, _, .tup h a => .tup ((TK.same k).seq h) (DpAll.same k a)
theorem DpAll.same {K : PySem.W.Frag} {H H' : Hp} (k : Same H H') : ∀ {vs : List V} {ds : List PyData}, DpAll K H vs ds → DpAll K H' vs ds
  | _, _, .nil => .nil
  | _, _, .cons a b => .cons (Dp.same k a) (DpAll.same k b)
end
theorem DpAll.len {K : PySem.W.Frag} {H : Hp} : ∀ {vs : List V} {ds : List PyData}, DpAll K H vs ds → vs.length = ds.length
  | _, _, .nil => rfl
  | _, _, .cons a b => by rw [List.length_cons, List.length_cons, DpAll.len b]
theorem DpAll.get {K : PySem.W.Frag} {H : Hp} : ∀ {vs : List V} {ds : List PyData}, DpAll K H vs ds → ∀ {i : Nat} {d : PyData}, ds[i]? = some d → ∃ v, vs[i]? = some v ∧ Dp K H v d
  | _, _, .nil, i, d, h => by simp at h
  | _, _, .cons a b, 0, d, h => by
    have e := Option.some.inj h
    subst e
    exact ⟨_, rfl, a⟩
  | _, _, .cons a b, i + 1, d, h => DpAll.get b (i := i) (by simpa using h)
theorem DpAll.app {K : PySem.W.Frag} {H : Hp} : ∀ {vs ws : List V} {ds es : List PyData}, DpAll K H vs ds → DpAll K H ws es → DpAll K H (vs ++ ws) (ds ++ es)
  | _, _, _, _, .nil, h => h
  | _, _, _, _, .cons a b, h => .cons a (DpAll.app b h)
theorem DpAll.ints {K : PySem.W.Frag} {H : Hp} : ∀ (ns : List Int), DpAll K H (ns.map V.int) (ns.map PyData.int)
  | [] => .nil
  | n :: r => .cons (.int n) (DpAll.ints r)
theorem DpAll.strs {K : PySem.W.Frag} {H : Hp} : ∀ (ns : List Str), DpAll K H (ns.map V.str) (ns.map PyData.str)
  | [] => .nil
  | n :: r => .cons (.str n) (DpAll.strs r)
/-- depth below n, lists not too long -/
def Fits : Nat → PyData → Prop
  | 0, _ => False
  | n + 1, .list xs => xs.length < 2 ^ 60 ∧ ∀ x ∈ xs, Fits n x
  | n + 1, .tuple xs => xs.length < 2 ^ 60 ∧ ∀ x ∈ xs, Fits n x
  | _ + 1, .dict _ => False
  | _ + 1, _ => True
theorem ty_l {K : PySem.W.Frag} {H : Hp} {a : Addr} {xs : List V} (h : SqL K H a xs) : TyX K H (.ref a) (.type "list") := by
  rcases h with (h | ⟨o, h⟩) | ⟨o, its, n, h1, h2, _⟩
  · exact .base (.lst h)
  · exact .base (.frz h)
  · exact .kList h1 h2
theorem ty_t {K : PySem.W.Frag} {H : Hp} {a : Addr} {xs : List V} (h : SqT K H a xs) : TyX K H (.ref a) (.type "tuple") := by
  rcases h with (h | ⟨o, h⟩) | ⟨o, its, n, h1, h2, _⟩
  · exact .base (.tup h)
  · exact .fTuple h
  · exact .kTuple h1 h2
/-- the two are the same data: True -/
def ySame (K : PySem.W.Frag) (n : Nat) : Sp := fun vs H Q _ => ∃ (x y : V) (d : PyData), vs = [x, y] ∧ Dp K H x d ∧ Dp K H y d ∧ Fits n d ∧ Q (.bl true) H
def yDraw (K : PySem.W.Frag) : Sp := fun vs H Q _ => ∃ (b p : Addr) (m : Int), vs = [.ref b, .int m] ∧ BoxAt H b p ∧ 0 < m ∧
  ∀ (r : Int) (H' : Hp), 0 ≤ r → r < m → BoxAt H' b p → Kp b H H' → Q (.int r) H'
section
variable {P : Program} {w : World} {K : PySem.W.Frag} {mg : Str → Option Value} {base : Heap} {A : Nat → Addr} {D : Nat → FuncData}
theorem ok_draw (T : Txt K mg A D) : FnOk P w K mg base CX0 1 (A 3) (D 3) ["box", "many"] (yDraw K) := by
  refine T.F__law_draw.ok sc__law_draw (fun vs H Q E h => ?_) (fun cdv A' outer s H vs Q E hr h => ?_)
  · obtain ⟨b, d, m, rfl, _⟩ := h; rfl
  obtain ⟨b, d, m, rfl, ⟨ns, n, h1, h2⟩, hm, q⟩ := h
  have hnd := sc__law_draw.nd
  have ndb : d ≠ b := fun e => by
    rw [e, h1] at h2
    cases ns with
    | nil => simp at h2
    | cons a r => simp at h2
  refine ⟨_, (pss_cons (ps_set (i := 2) hnd rfl (Or.inl rfl) (pe_ix (r := rIxL K) ix_list (pv 0) pe_int (fun _ _ => rfl))) (pss_cons (ps_asg (pe_op op_add (pv 2) pe_int) (pg_sub (pv 0) pe_int set_list)) (pss_cons (ps_if (pt_cmpR op_lt (pv 2) (pe_callB call_len_seq rfl T.z_len PySem.boot_len (pa_cons (pe_ix (r := rIxL K) ix_list (pv 0) pe_int (fun _ _ => rfl)) pa_nil)) (nomark _)) (pss_one (ps_ret (pe_op op_modN (pe_callTy call_int1 rfl T.z_int (by decide +kernel) (pa_cons (pe_ix (r := rIxL K) ix_list (pe_ix (r := rIxL K) ix_list (pv 0) pe_int (fun _ _ => rfl)) (pv 2) (fun _ _ => rfl)) pa_nil)) (pv 1)))) pss_nil) (pss_one (ps_ret pe_int))))), ?_⟩
  refine ⟨_, rfl, b, _, _, _, rfl, rfl, SqL.of h1, rfl, ?_⟩
  refine ⟨_, rfl, _, _, rfl, rfl, _, rfl, b, _, _, 1, rfl, rfl, h1, rfl, ?_⟩
  have k1 : Kp b H (upd H b (.lst [.ref d, .int ((n : Int) + 1)])) := Kp.upd (Kp.refl b H)
  have e1 : upd H b (.lst [.ref d, .int ((n : Int) + 1)]) b = some (.lst [.ref d, .int ((n : Int) + 1)]) := upd_same
  have e2 : upd H b (.lst [.ref d, .int ((n : Int) + 1)]) d = some (.lst (ns.map V.int)) := k1 _ _ h2 ndb
  have B : BoxAt (upd H b (.lst [.ref d, .int ((n : Int) + 1)])) b d := ⟨ns, n + 1, upd_same, e2⟩
  refine ⟨_, rfl, _, rfl, b, _, _, _, rfl, rfl, SqL.of e1, rfl, d, _, rfl, .inl (SqL.of e2), _, _, rfl, rfl, _, rfl, ?_⟩
  refine ite2 (fun c => ?_) (fun c => ?_)
  · have c' : (n : Int) < (((ns.map V.int).length : Nat) : Int) := of_decide_eq_true c
    rw [List.length_map] at c'
    refine ⟨_, rfl, b, _, _, _, rfl, rfl, SqL.of e1, rfl, _, rfl, d, _, _, _, rfl, rfl, SqL.of e2, at_ints (by omega), .inl ⟨_, rfl, _, rfl, _, _, rfl, rfl, (by show m ≠ 0; omega), ?_⟩⟩
    have z1 := Int.fmod_nonneg_of_pos (ns.getD n 0) hm
    have z2 := Int.fmod_lt_of_pos (ns.getD n 0) hm
    exact q _ _ z1 z2 B k1
  · exact q 0 _ (Int.le_refl 0) hm B k1
theorem ok_same (T : Txt K mg A D) : ∀ n, FnOk P w K mg base CX0 n (A 4) (D 4) ["actual", "due"] (ySame K n)
  | 0 => by
    have no : ∀ vs H Q E, ¬ ySame K 0 vs H Q E := fun vs H Q E h => by
      obtain ⟨x, y, d, _, _, _, f, _⟩ := h
      cases d <;> exact f
    exact ⟨fun vs H Q E h => absurd h (no vs H Q E), fun A outer s H args us vs Q E _ _ _ _ h => absurd h (no vs H Q E)⟩
  | n + 1 => by
    have G__law_same := ok_same T n
    refine T.F__law_same.ok sc__law_same (fun vs H Q E h => ?_) (fun cdv A' outer s H vs Q E hr h => ?_)
    · obtain ⟨x, y, d, rfl, _⟩ := h; rfl
    obtain ⟨x, y, d, rfl, dx, dy, hf, q⟩ := h
    have hnd := sc__law_same.nd
    refine ⟨_, (pss_cons (ps_if (PW.pt (pw_or (pt_val (pe_callB call_isi rfl T.z_isinstance (by decide +kernel) (pa_cons (pv 1) (pa_cons (pe_bltn (v := .ty "list") rfl T.z_list (by decide +kernel) rfl) pa_nil)))) (pw_or1 (pt_val (pe_callB call_isi rfl T.z_isinstance (by decide +kernel) (pa_cons (pv 1) (pa_cons (pe_bltn (v := .ty "tuple") rfl T.z_tuple (by decide +kernel) rfl) pa_nil))))))) (pss_cons (ps_if (PW.pt (pw_or (pt_cmpR op_ne (pe_callB call_isi rfl T.z_isinstance (by decide +kernel) (pa_cons (pv 1) (pa_cons (pe_bltn (v := .ty "list") rfl T.z_list (by decide +kernel) rfl) pa_nil))) (pe_callB call_isi rfl T.z_isinstance (by decide +kernel) (pa_cons (pv 0) (pa_cons (pe_bltn (v := .ty "list") rfl T.z_list (by decide +kernel) rfl) pa_nil))) (nomark _)) (pw_or1 (pt_cmpR op_ne (pe_callB call_isi rfl T.z_isinstance (by decide +kernel) (pa_cons (pv 1) (pa_cons (pe_bltn (v := .ty "tuple") rfl T.z_tuple (by decide +kernel) rfl) pa_nil))) (pe_callB call_isi rfl T.z_isinstance (by decide +kernel) (pa_cons (pv 0) (pa_cons (pe_bltn (v := .ty "tuple") rfl T.z_tuple (by decide +kernel) rfl) pa_nil))) (nomark _))))) (pss_one (ps_ret pe_bl)) pss_nil) (pss_cons (ps_if (pt_cmpR op_ne (pe_callB call_len_seq rfl T.z_len PySem.boot_len (pa_cons (pv 0) pa_nil)) (pe_callB call_len_seq rfl T.z_len PySem.boot_len (pa_cons (pv 1) pa_nil)) (nomark _)) (pss_one (ps_ret pe_bl)) pss_nil) (pss_cons (ps_for PassesOwn.never rfl (pi_range1 rfl T.z_range (pa_cons (pe_callB call_len_seq rfl T.z_len PySem.boot_len (pa_cons (pv 1) pa_nil)) pa_nil)) (pg_name (i := 2) hnd rfl (Or.inl rfl)) (pss_one (ps_if (pt_not (pt_val (pe_call G__law_same (hr.mono (by first | decide | omega)) rfl T.m__law_same T.F__law_same.kp T.b__law_same .nil pass0 (pa_cons (pe_ix (r := rIx K) ix_seq (pv 0) (pv 2) (fun _ _ => rfl)) (pa_cons (pe_ix (r := rIx K) ix_seq (pv 1) (pv 2) (fun _ _ => rfl)) pa_nil))))) (pss_one (ps_ret pe_bl)) pss_nil))) (pss_one (ps_ret pe_bl))))) pss_nil) (pss_cons (ps_if (pt_cmpR op_isN (pv 1) pe_non (nomark _)) (pss_one (ps_ret (pe_cmpR op_isN (pv 0) pe_non (nomark _)))) pss_nil) (pss_cons (ps_if (pt_val (pe_callB call_isi rfl T.z_isinstance (by decide +kernel) (pa_cons (pv 1) (pa_cons (pe_bltn (v := .ty "bool") rfl T.z_bool (by decide +kernel) rfl) pa_nil)))) (pss_one (ps_ret (pe_and (pe_callB call_isi rfl T.z_isinstance (by decide +kernel) (pa_cons (pv 0) (pa_cons (pe_bltn (v := .ty "bool") rfl T.z_bool (by decide +kernel) rfl) pa_nil))) (pe_one (pe_cmpR op_eq (pv 0) (pv 1) (nomark _)))))) pss_nil) (pss_cons (ps_if (pt_val (pe_callB call_isi rfl T.z_isinstance (by decide +kernel) (pa_cons (pv 1) (pa_cons (pe_bltn (v := .ty "str") rfl T.z_str (by decide +kernel) rfl) pa_nil)))) (pss_one (ps_ret (pe_and (pe_callB call_isi rfl T.z_isinstance (by decide +kernel) (pa_cons (pv 0) (pa_cons (pe_bltn (v := .ty "str") rfl T.z_str (by decide +kernel) rfl) pa_nil))) (pe_one (pe_cmpR op_eq (pv 0) (pv 1) (nomark _)))))) pss_nil) (pss_one (ps_ret (pe_and (pe_callB call_isi rfl T.z_isinstance (by decide +kernel) (pa_cons (pv 0) (pa_cons (pe_bltn (v := .ty "int") rfl T.z_int (by decide +kernel) rfl) pa_nil))) (pe_and (pe_not (pe_callB call_isi rfl T.z_isinstance (by decide +kernel) (pa_cons (pv 0) (pa_cons (pe_bltn (v := .ty "bool") rfl T.z_bool (by decide +kernel) rfl) pa_nil)))) (pe_one (pe_cmpR op_eq (pv 0) (pv 1) (nomark _))))))))))), ?_⟩
    cases d with
    | dict _ => exact hf.elim
    | list ds =>
      obtain ⟨hf1, hf2⟩ := hf
      cases dx with | lst hx ax =>
      cases dy with | lst hy ay =>
      rename_i a vs a' vs'
      have l1 := DpAll.len ax
      have l2 := DpAll.len ay
      refine ⟨_, rfl, _, _, _, _, _, rfl, .ty _, ty_l hy, kit_ty (by decide +kernel), _, rfl, iteT (iteT ?_)⟩
      refine ⟨_, rfl, _, _, _, _, true, rfl, .ty _, ty_l hy, kit_ty (by decide +kernel), _, rfl, _, _, _, _, true, rfl, .ty _, ty_l hx, kit_ty (by decide +kernel), rfl, _, rfl, iteNS rfl ?_⟩
      refine ⟨_, rfl, _, _, _, _, false, rfl, .ty _, ty_l hy, kit_ty (by decide +kernel), _, rfl, _, _, _, _, false, rfl, .ty _, ty_l hx, kit_ty (by decide +kernel), rfl, _, rfl, iteNS rfl ?_⟩
      refine ⟨_, rfl, _, _, rfl, .inl hx, _, rfl, _, _, rfl, .inl hy, rfl, _, rfl, iteNS (by rw [l1, l2]) ?_⟩
      refine ⟨_, rfl, _, _, rfl, .inl hy, _, rfl, (by omega), (by omega), ?_⟩
      rw [show ((vs'.length : Nat) : Int).toNat = ds.length by omega]
      refine for_range (n := ds.length) (fun i σ H' => ∃ kv : Option V, σ = [some (.ref a), some (.ref a'), kv] ∧ H' = H) ⟨none, rfl, rfl⟩ ?_ ?_
      · rintro i σ H' hi ⟨kv, rfl, rfl⟩
        obtain ⟨v, ev, dv⟩ := DpAll.get ax (List.getElem?_eq_getElem hi)
        obtain ⟨v', ev', dv'⟩ := DpAll.get ay (List.getElem?_eq_getElem hi)
        have ev1 : atI vs (0 + (i : Int)) = some v := by rw [Int.zero_add]; exact atI_nat ev
        have ev2 : atI vs' (0 + (i : Int)) = some v' := by rw [Int.zero_add]; exact atI_nat ev'
        refine ⟨_, rfl, _, rfl, .inl ⟨_, _, _, _, rfl, rfl, hx, ev1, _, rfl, _, rfl, .inl ⟨_, _, _, _, rfl, rfl, hy, ev2, ?_⟩⟩⟩
        exact ⟨v, v', ds[i], rfl, dv, dv', hf2 _ (List.getElem_mem hi), _, rfl, iteF ⟨_, rfl, rfl⟩⟩
      · rintro σ H' ⟨kv, rfl, rfl⟩
        exact q
    | tuple ds =>
      obtain ⟨hf1, hf2⟩ := hf
      cases dx with | tup hx ax =>
      cases dy with | tup hy ay =>
      rename_i a vs a' vs'
      have l1 := DpAll.len ax
      have l2 := DpAll.len ay
      refine ⟨_, rfl, _, _, _, _, _, rfl, .ty _, ty_t hy, kit_ty (by decide +kernel), _, rfl, iteF ⟨_, rfl, _, _, _, _, _, rfl, .ty _, ty_t hy, kit_ty (by decide +kernel), _, rfl, iteT ?_⟩⟩
      refine ⟨_, rfl, _, _, _, _, false, rfl, .ty _, ty_t hy, kit_ty (by decide +kernel), _, rfl, _, _, _, _, false, rfl, .ty _, ty_t hx, kit_ty (by decide +kernel), rfl, _, rfl, iteNS rfl ?_⟩
      refine ⟨_, rfl, _, _, _, _, true, rfl, .ty _, ty_t hy, kit_ty (by decide +kernel), _, rfl, _, _, _, _, true, rfl, .ty _, ty_t hx, kit_ty (by decide +kernel), rfl, _, rfl, iteNS rfl ?_⟩
      refine ⟨_, rfl, _, _, rfl, .inr hx, _, rfl, _, _, rfl, .inr hy, rfl, _, rfl, iteNS (by rw [l1, l2]) ?_⟩
      refine ⟨_, rfl, _, _, rfl, .inr hy, _, rfl, (by omega), (by omega), ?_⟩
      rw [show ((vs'.length : Nat) : Int).toNat = ds.length by omega]
      refine for_range (n := ds.length) (fun i σ H' => ∃ kv : Option V, σ = [some (.ref a), some (.ref a'), kv] ∧ H' = H) ⟨none, rfl, rfl⟩ ?_ ?_
      · rintro i σ H' hi ⟨kv, rfl, rfl⟩
        obtain ⟨v, ev, dv⟩ := DpAll.get ax (List.getElem?_eq_getElem hi)
        obtain ⟨v', ev', dv'⟩ := DpAll.get ay (List.getElem?_eq_getElem hi)
        have ev1 : atI vs (0 + (i : Int)) = some v := by rw [Int.zero_add]; exact atI_nat ev
        have ev2 : atI vs' (0 + (i : Int)) = some v' := by rw [Int.zero_add]; exact atI_nat ev'
        refine ⟨_, rfl, _, rfl, .inr (.inl ⟨_, _, _, _, rfl, rfl, hx, ev1, _, rfl, _, rfl, .inr (.inl ⟨_, _, _, _, rfl, rfl, hy, ev2, ?_⟩)⟩)⟩
        exact ⟨v, v', ds[i], rfl, dv, dv', hf2 _ (List.getElem_mem hi), _, rfl, iteF ⟨_, rfl, rfl⟩⟩
      · rintro σ H' ⟨kv, rfl, rfl⟩
        exact q
    | none =>
      cases dx with | non =>
      cases dy with | non =>
      refine ⟨_, rfl, _, _, _, _, _, rfl, .ty _, .base (.non), kit_ty (by decide +kernel), _, rfl, iteF ⟨_, rfl, _, _, _, _, _, rfl, .ty _, .base (.non), kit_ty (by decide +kernel), _, rfl, iteF ?_⟩⟩
      refine ⟨_, rfl, rfl, _, rfl, iteT ?_⟩
      exact ⟨_, rfl, rfl, q⟩
    | bool b =>
      cases dx with | bl =>
      cases dy with | bl =>
      refine ⟨_, rfl, _, _, _, _, _, rfl, .ty _, .base (.bl _), kit_ty (by decide +kernel), _, rfl, iteF ⟨_, rfl, _, _, _, _, _, rfl, .ty _, .base (.bl _), kit_ty (by decide +kernel), _, rfl, iteF ?_⟩⟩
      refine ⟨_, rfl, rfl, _, rfl, iteF ?_⟩
      refine ⟨_, rfl, _, _, _, _, _, rfl, .ty _, .base (.bl _), kit_ty (by decide +kernel), _, rfl, iteT ?_⟩
      refine ⟨_, rfl, _, _, _, _, _, rfl, .ty _, .base (.bl _), kit_ty (by decide +kernel), _, rfl, iteT ⟨_, rfl, _, rfl, rfl, ?_⟩⟩
      rw [decide_eq_true rfl]
      exact q
    | str z =>
      cases dx with | str =>
      cases dy with | str =>
      refine ⟨_, rfl, _, _, _, _, _, rfl, .ty _, .base (.str _), kit_ty (by decide +kernel), _, rfl, iteF ⟨_, rfl, _, _, _, _, _, rfl, .ty _, .base (.str _), kit_ty (by decide +kernel), _, rfl, iteF ?_⟩⟩
      refine ⟨_, rfl, rfl, _, rfl, iteF ?_⟩
      refine ⟨_, rfl, _, _, _, _, _, rfl, .ty _, .base (.str _), kit_ty (by decide +kernel), _, rfl, iteF ⟨_, rfl, _, _, _, _, _, rfl, .ty _, .base (.str _), kit_ty (by decide +kernel), _, rfl, iteT ?_⟩⟩
      refine ⟨_, rfl, _, _, _, _, _, rfl, .ty _, .base (.str _), kit_ty (by decide +kernel), _, rfl, iteT ⟨_, rfl, _, rfl, rfl, ?_⟩⟩
      rw [decide_eq_true rfl]
      exact q
    | int i =>
      cases dx with | int =>
      cases dy with | int =>
      refine ⟨_, rfl, _, _, _, _, _, rfl, .ty _, .base (.int _), kit_ty (by decide +kernel), _, rfl, iteF ⟨_, rfl, _, _, _, _, _, rfl, .ty _, .base (.int _), kit_ty (by decide +kernel), _, rfl, iteF ?_⟩⟩
      refine ⟨_, rfl, rfl, _, rfl, iteF ?_⟩
      refine ⟨_, rfl, _, _, _, _, _, rfl, .ty _, .base (.int _), kit_ty (by decide +kernel), _, rfl, iteF ⟨_, rfl, _, _, _, _, _, rfl, .ty _, .base (.int _), kit_ty (by decide +kernel), _, rfl, iteF ?_⟩⟩
      refine ⟨_, rfl, _, _, _, _, _, rfl, .ty _, .base (.int _), kit_ty (by decide +kernel), _, rfl, iteT ⟨_, rfl, _, _, _, _, false, rfl, .ty _, .base (.int _), kit_ty (by decide +kernel), _, rfl, _, rfl, iteT ⟨_, rfl, _, rfl, rfl, ?_⟩⟩⟩
      rw [decide_eq_true rfl]
      exact q
end

theorem take_succ_map {α β : Type} {f : α → β} {l : List α} {i : Nat} {x : α} (h : l[i]? = some x) : (l.take i).map f ++ [f x] = (l.take (i + 1)).map f := by
  rw [List.take_add_one, h, List.map_append]; rfl
theorem take_all {α : Type} {l : List α} {n : Nat} (h : l.length ≤ n) : l.take n = l := List.take_of_length_le h

/-! ### a list of immutable data that grows -/
def LAt (K : PySem.W.Frag) (H : Hp) (d : Addr) (ds : List PyData) : Prop := ∃ vs, H d = some (.lst vs) ∧ DpAll K H vs ds ∧ ∀ x ∈ ds, Imm x
theorem LAt.tk {K : PySem.W.Frag} {H H' : Hp} {d : Addr} {ds : List PyData} (h : LAt K H d ds) (k : TK H H') (e : ∀ o, H d = some o → H' d = some o) : LAt K H' d ds := by
  obtain ⟨vs, h1, h2, h3⟩ := h
  exact ⟨vs, e _ h1, DpAll.keep k h2 h3, h3⟩
theorem LAt.same {K : PySem.W.Frag} {H H' : Hp} {d : Addr} {ds : List PyData} (h : LAt K H d ds) (k : Same H H') : LAt K H' d ds := h.tk (TK.same k) fun o => k _ o
theorem LAt.kp {K : PySem.W.Frag} {H H' : Hp} {b p d : Addr} {ds : List PyData} (h : LAt K H d ds) (B : BoxAt H b p) (k : Kp b H H') (n : d ≠ b) : LAt K H' d ds := h.tk (TK.box B k) fun o e => k _ o e n
theorem LAt.push {K : PySem.W.Frag} {H : Hp} {d : Addr} {ds : List PyData} {vs : List V} {v : V} {x : PyData} (h1 : H d = some (.lst vs)) (h2 : DpAll K H vs ds) (h3 : ∀ x ∈ ds, Imm x) (hv : Dp K H v x) (hx : Imm x) : LAt K (upd H d (.lst (vs ++ [v]))) d (ds ++ [x]) := by
  have k : TK H (upd H d (.lst (vs ++ [v]))) := TK.updL (TK.refl H) h1
  have h4 : ∀ y ∈ ds ++ [x], Imm y := fun y hy => by
    rcases List.mem_append.mp hy with hy | hy
    · exact h3 y hy
    · rw [List.mem_singleton.mp hy]; exact hx
  exact ⟨_, upd_same, DpAll.keep k (DpAll.app h2 (.cons hv .nil)) h4, h4⟩
theorem LAt.nil {K : PySem.W.Frag} {H : Hp} {d : Addr} (h : H d = some (.lst [])) : LAt K H d [] := ⟨[], h, .nil, fun x hx => nomatch hx⟩

/-! ### sorted(xs) of data, any length -/
open PySem.W (EachIs AllAlike Sortable dataLe) in
def rSortD (K : PySem.W.Frag) : List V → Hp → VK → Prop := fun xs H Q => ∃ (l : Addr) (vs : List V) (ds : List PyData), xs = [.ref l] ∧ SqL K H l vs ∧ DpAll K H vs ds ∧ AllAlike ds ∧ Sortable ds ∧ (∀ d ∈ ds, d.depth ≤ 20) ∧
  ∀ (p : Addr) (vs' : List V), H p = none → DpAll K H vs' (ds.mergeSort (dataLe false id)) → vs'.length = vs.length → Q (.ref p) (upd H p (.lst vs'))
section
open PySem.W (EachIs AllAlike Sortable dataLe)
variable {X : Cx} {pins : List (Addr × Obj)} {σ : St} {H : Hp} {s : Shared}
theorem each_of (I : Inv X pins σ H s) : ∀ {vs : List V} {us : List Value} {ds : List PyData}, Vals vs us → DpAll X.K H vs ds → EachIs (fun u d => ∃ x, RelV x u ∧ Dp X.K H x d) us ds
  | _, _, _, .nil, .nil => .nil
  | _, _, _, .cons r t, .cons d e => .cons ⟨_, r, d⟩ (each_of I t e)
theorem each_reads (I : Inv X pins σ H s) : ∀ {us : List Value} {ds : List PyData}, EachIs (fun u d => ∃ x, RelV x u ∧ Dp X.K H x d) us ds → EachIs (fun u d => ∃ as, PySem.Reads s.heap u (id d) as) us ds
  | _, _, .nil => .nil
  | _, _, .cons h t => .cons (by obtain ⟨x, r, d⟩ := h; exact Dp.reads I _ _ _ d r) (each_reads I t)
theorem each_back {K : PySem.W.Frag} : ∀ {us : List Value} {ds : List PyData}, EachIs (fun u d => ∃ x, RelV x u ∧ Dp K H x d) us ds → ∃ vs, Vals vs us ∧ DpAll K H vs ds
  | _, _, .nil => ⟨[], .nil, .nil⟩
  | _, _, .cons h t => by
    obtain ⟨x, r, d⟩ := h
    obtain ⟨vs, h1, h2⟩ := each_back t
    exact ⟨x :: vs, .cons r h1, .cons d h2⟩
theorem cr_sortedD (hu : X.A.units + 64 < cLine) : CallR X (.builtin "sorted") (rSortD X.K) := by
  intro pins s σ H vs us Q I r h
  obtain ⟨a, xs, ds, rfl, hs, hd, hal, hso, hdep, q⟩ := h
  obtain ⟨its, rv, hl, hz⟩ := I.list hs
  rw [Vals.ref1 r]
  have hlen : ds.length = xs.length := (DpAll.len hd).symm
  have e := each_of I rv hd
  refine PySem.W.sorted_data (R := fun u d => ∃ x, RelV x u ∧ Dp X.K H x d) (enc := id) (bs := ds) hl.isList e (each_reads I e) (by rw [List.map_id]; exact hal) (by rw [List.map_id]; exact hso) (by rw [hlen]; exact hz) (fun d hd => ?_) fun out h1 h2 => ?_
  · have := hdep d hd
    show _ + 2 + d.depth < _
    omega
  · obtain ⟨vs', k1, k2⟩ := each_back h2
    obtain ⟨ep, he'⟩ := PyProof.Rows.sortedAll_at s.heap its out.toArray
    have hl2 : vs'.length = xs.length := by rw [k1.length, h1, hlen]
    exact ⟨.ref _, upd H (s.heap.objs.size + 1) (.lst vs'), I.laid (t' := s.toks) (fun _ _ => PyProof.Rows.sortedAll_old) (Nat.le_succ _) ⟨by rw [hl2]; exact hz, out, ep, k1, he'⟩, rfl, q _ _ (I.hok.fresh (Nat.le_succ _)) k2 hl2⟩
end

/-! ### sorted(d) of a dict whose keys are tuples -/
section
open PySem.Spec PyProof.Rows
open PySem.W (EachIs AllAlike Sortable dataLe)
def kD : Key → PyData
  | .inl i => .int i
  | .inr x => .str x
def tD (k : List Key) : PyData := .tuple (k.map kD)
theorem dp_keys {K : PySem.W.Frag} {H : Hp} : ∀ k : List Key, DpAll K H (k.map kV) (k.map kD)
  | [] => .nil
  | .inl i :: k => .cons (.int i) (dp_keys k)
  | .inr x :: k => .cons (.str x) (dp_keys k)
theorem reads_keys {h : Heap} : ∀ {k : List Key} {us : List Value}, Vals (k.map kV) us → PySem.ReadsAll h us (k.map kD) []
  | [], _, r => by
    have r' : Vals [] _ := r
    cases r'
    exact .nil
  | .inl i :: k, _, r => by
    have r' : Vals (V.int i :: k.map kV) _ := r
    cases r' with
    | cons h1 h2 =>
      obtain ⟨t, rfl⟩ := h1
      exact .cons (.int _ _) (reads_keys h2)
  | .inr x :: k, _, r => by
    have r' : Vals (V.str x :: k.map kV) _ := r
    cases r' with
    | cons h1 h2 =>
      obtain ⟨t, rfl⟩ := h1
      exact .cons (.str _ _) (reads_keys h2)
inductive KeysAt (H : Hp) : List Addr → List PyData → Prop
  | nil : KeysAt H [] []
  | cons {b : Addr} {k : List Key} {bs : List Addr} {ds : List PyData} : H b = some (.tup (k.map kV)) → KeysAt H bs ds → KeysAt H (b :: bs) (tD k :: ds)
theorem KeysAt.len {H : Hp} {bs : List Addr} {ds : List PyData} (h : KeysAt H bs ds) : bs.length = ds.length := by
  induction h with
  | nil => rfl
  | cons _ _ ih => rw [List.length_cons, List.length_cons, ih]
theorem KeysAt.get {H : Hp} {bs : List Addr} {ds : List PyData} (h : KeysAt H bs ds) : ∀ {i : Nat} {d : PyData}, ds[i]? = some d → ∃ b k, bs[i]? = some b ∧ d = tD k ∧ H b = some (.tup (k.map kV)) := by
  induction h with
  | nil => intro i d h; simp at h
  | cons hb _ ih =>
    intro i d h
    cases i with
    | zero => exact ⟨_, _, rfl, (Option.some.inj h).symm, hb⟩
    | succ i => exact ih (i := i) (by simpa using h)
theorem each_backK {H : Hp} : ∀ {us : List Value} {ds : List PyData}, EachIs (fun u d => ∃ b k, u = Value.ref b ∧ d = tD k ∧ H b = some (.tup (k.map kV))) us ds → ∃ bs : List Addr, us = bs.map Value.ref ∧ KeysAt H bs ds
  | _, _, .nil => ⟨[], rfl, .nil⟩
  | _, _, .cons h t => by
    obtain ⟨b, k, rfl, rfl, hb⟩ := h
    obtain ⟨bs, rfl, h2⟩ := each_backK t
    exact ⟨b :: bs, rfl, .cons hb h2⟩
def rSortDT (K : PySem.W.Frag) : List V → Hp → VK → Prop := fun xs H Q => ∃ (a : Addr) (kvs : List (List Key × V)), xs = [.ref a] ∧ Rd H a (.dT kvs) ∧ kvs.length ≤ 1000000 ∧ AllAlike (kvs.map fun kv => tD kv.1) ∧ Sortable (kvs.map fun kv => tD kv.1) ∧ (∀ kv ∈ kvs, (tD kv.1).depth ≤ 20) ∧
  ∀ (p : Addr) (bs : List Addr), H p = none → KeysAt H bs ((kvs.map fun kv => tD kv.1).mergeSort (dataLe false id)) → Q (.ref p) (upd H p (.lst (bs.map V.ref)))
theorem each_keys2 {K : PySem.W.Frag} {H : Hp} {R : Value → PyData → Prop} (hR : ∀ b k, H b = some (.tup (k.map kV)) → R (.ref b) (tD k)) : ∀ {kvs : List (List Key × V)} {bs : List Addr}, IsKeys H kvs bs → EachIs R (bs.map Value.ref) (kvs.map fun kv => tD kv.1) := by
  intro kvs bs h
  unfold IsKeys at h
  induction h with
  | nil => exact .nil
  | cons h1 _ ih => exact .cons (hR _ _ h1) ih
variable {X : Cx}
theorem cr_sortDT (hc : X.calm = true) (hu : X.A.units + 64 < cLine) : CallR X (.builtin "sorted") (rSortDT X.K) := by
  intro pins s σ H xs us Q I r h
  obtain ⟨d, kvs, rfl, hd, hl0, hal, hso, hdep, q⟩ := h
  obtain ⟨u, rfl, rx⟩ := r.one
  cases rx
  obtain ⟨z, hs, ks, pr, o, es, ep, ho, hx, hdt, he, hn⟩ := (show ObjOk X.prog X.w H s.heap d (.dT kvs) from hd.ok I.hok)
  have l1 : es.size = ks.length := size_of_entries he
  have l2 : kvs.length = ks.length := Paired.length pr
  refine Calls.call_function_entry kind_sorted plain_sorted entry_sorted (args_sorted1 _) ?_
  unfold Builtin.«sorted»
  refine wpAny_bind (m := checkCount "sorted" 1 1 _) (wpAny_pure ?_)
  refine wpAny_bind (PySem.W.kdu_collect (A := X.A.in1) (kdl_raw hs hx hdt) (I.ok.hd hc) ho (by omega) fun h' tk acc kp it => ?_)
  have ea : acc.toList = (ks.map fun x => x.2.1).map Value.ref := by
    have hl : acc.toList.length = ks.length := by rw [Array.length_toList, it.1]; exact l1
    rw [List.map_map]
    apply List.ext_getElem?
    intro j
    rw [List.getElem?_map]
    cases hj : acc.toList[j]? with
    | none =>
      have h1 := List.getElem?_eq_none_iff.mp hj
      rw [List.getElem?_eq_none (by omega)]
      all_goals rfl
    | some v =>
      obtain ⟨en, hen, hv⟩ := it.2 j v (by rw [← Array.getElem?_toList]; exact hj)
      have qe := entry_at he j
      rw [hen] at qe
      cases hb : ks[j]? with
      | none =>
        rw [hb] at qe
        exact nomatch (show some en = none from qe)
      | some b =>
        rw [hb] at qe
        have e2 : en = entryOfKey (tupleKind (mixKind X.prog X.w)) b := Option.some.inj qe
        rw [hv, e2]
        all_goals rfl
  have hI : IsKeys H kvs (ks.map fun x => x.2.1) := isKeys_of pr
  have hvl : acc.toList.length = kvs.length := by rw [ea, List.length_map, List.length_map, l2]
  have I1 : Inv X pins σ H { s with heap := h', toks := tk } := I.kept kp
  refine wpAny_bind (wpAny_newList ?_ (by rw [hvl, sizeLine_eq]; omega))
  have hoL : (h'.push (seqObj "list" acc.toList.toArray 0)).get? h'.objs.size = some (seqObj "list" acc.toList.toArray 0) := Heap.get?_push_size _ rfl
  show wpAny _ _ _ _ _ { s with heap := h'.push (seqObj "list" acc.toList.toArray 0), toks := tk }
  refine wpAny_bind (wpAny_holding (PySem.W.list_sort_data (s := { s with heap := h'.push (seqObj "list" acc.toList.toArray 0), toks := tk }) (bs := kvs.map fun kv => tD kv.1) (enc := id) (R := fun u d => ∃ b k, u = Value.ref b ∧ d = tD k ∧ H b = some (.tup (k.map kV))) hoL
    (by rw [ea]; exact each_keys2 (K := X.K) (fun b k hb => ⟨b, k, rfl, rfl, hb⟩) hI)
    (by
      rw [ea]
      refine each_keys2 (K := X.K) (fun b k hb => ?_) hI
      obtain ⟨_, its, r, o, h1, h2, n, h3⟩ := (show ObjOk X.prog X.w H h' b (.tup (k.map kV)) from I1.hok b _ hb)
      exact ⟨[], .tuple (Heap.get?_push_of_some _ h1) h2 h3 (reads_keys (by simpa using r)), fun z => nomatch z⟩)
    (by rw [List.map_id]; exact hal) (by rw [List.map_id]; exact hso) (by rw [List.length_map, sizeLine_eq]; omega) (fun b hb => ?_) fun out h1 h2 => ?_))
  · obtain ⟨kv, hkv, rfl⟩ := List.mem_map.mp hb
    have := hdep kv hkv
    show _ + 1 + (tD kv.1).depth < _
    first
      | omega
      | (show X.A.units + _ + 1 + (tD kv.1).depth < _; omega)
  · obtain ⟨c, hc⟩ := sortedHeap_at (vs := acc.toList) (out := out.toArray) hoL
    obtain ⟨bs, rfl, k2⟩ := each_backK h2
    have hlen : (bs.map V.ref).length = kvs.length := by rw [List.length_map, k2.len, List.length_mergeSort, List.length_map]
    refine wpAny_pure ⟨_, rfl, .ref h'.objs.size, upd H h'.objs.size (.lst (bs.map V.ref)), I1.laid (t' := tk) (fun b u e => ?_) (Nat.le_refl _)
      (show ObjOk X.prog X.w _ _ _ (.lst (bs.map V.ref)) from ⟨by rw [hlen, sizeLine_eq]; omega, bs.map Value.ref, c, vals_refs bs, hc⟩), rfl, q _ _ (I1.hok.fresh (Nat.le_refl _)) k2⟩
    have hb : b < h'.objs.size := Heap.lt_size e
    rw [sortedHeap_old (Nat.ne_of_lt hb) (by rw [size_push']; exact Nat.lt_succ_of_lt hb)]
    exact Heap.get?_push_of_some _ e
end

def encT (t : Str × Str) : PyData := .tuple [.str t.1, .str t.2]
theorem imm_encT (t : Str × Str) : Imm (encT t) := .tup fun d hd => by
  rcases List.mem_cons.mp hd with rfl | hd
  · exact .str _
  · rw [List.mem_singleton.mp hd]; exact .str _

/-! ### a statement, what holds behind it, then the rest -/
def tCut (t u : TS) : TS := fun D σ H => ∃ Mid : St → Hp → Prop, t { D with nx := Mid } σ H ∧ ∀ σ' H', Mid σ' H' → u D σ' H'
theorem pss_cut {X : Cx} {st : Stmt} {rest : List Stmt} {t u : TS} (h1 : PS X st t) (h2 : PSs X rest u) : PSs X (st :: rest) (tCut t u) := by
  refine ⟨fun pins s σ H D I h => ?_⟩
  obtain ⟨Mid, hm, hu⟩ := h
  refine PySem.wpAny_execs_cons (thn (h1.run pins s σ H { D with nx := Mid } I hm) fun f s1 q => ?_)
  cases f with
  | next =>
    obtain ⟨σ', H', I', q⟩ := q
    exact h2.run pins s1 σ' H' D I' (hu σ' H' q)
  | ret v => exact q
  | brk => exact q
  | cont => exact q

/-! ### data of questions and documents -/
theorem slA_use {K : PySem.W.Frag} {H : Hp} {Q : VK} {a : Addr} {xs : List V} {lo hi : Option Int} (hx : SqT K H a xs) (h : ∀ p H', Same H H' → SqT K H' p (cutV xs lo hi) → Q (.ref p) H') : rSlA K (.ref a) lo hi H Q := by
  refine ⟨a, xs, rfl, hx, fun hw => ?_, fun _ p hp => h p _ (same_new hp) (SqT.of upd_same)⟩
  have e : cutV xs lo hi = xs := by
    unfold cutV
    rw [hw.1, hw.2, List.drop_zero, Nat.sub_zero, List.take_length]
  exact h a H (Same.refl H) (by rw [e]; exact hx)
theorem catA_use {K : PySem.W.Frag} {H : Hp} {Q : VK} {a b : Addr} {xs ys : List V} (ha : SqT K H a xs) (hb : SqT K H b ys) (hz : xs.length + ys.length ≤ sizeLine) (h : ∀ p H', Same H H' → SqT K H' p (xs ++ ys) → Q (.ref p) H') : rCatA K (.ref a) (.ref b) H Q := by
  refine ⟨a, b, xs, ys, rfl, rfl, ha, hb, hz, fun e => h b H (Same.refl H) (by rw [e]; exact hb), fun _ e => h a H (Same.refl H) (by rw [e, List.append_nil]; exact ha), fun _ _ p hp => h p _ (same_new hp) (SqT.of upd_same)⟩
theorem sIx_n (n d k : Nat) : HT.sIx n d (some (k : Int)) = min k n := HT.sIx_nat n d k
theorem cutV_from (xs : List V) (k : Nat) : cutV xs (some (k : Int)) none = xs.drop k := by
  unfold cutV
  rw [sIx_n, HT.sIx_none]
  by_cases h : k ≤ xs.length
  · rw [Nat.min_eq_left h]
    exact List.take_of_length_le (by rw [List.length_drop]; omega)
  · rw [List.drop_eq_nil_of_le (by omega), List.drop_eq_nil_of_le (by omega), List.take_nil]
theorem cutV_mid (xs : List V) (a b : Nat) : cutV xs (some (a : Int)) (some (b : Int)) = (xs.drop a).take (b - a) := by
  unfold cutV
  rw [sIx_n, sIx_n]
  by_cases h : a ≤ xs.length
  · rw [Nat.min_eq_left h]
    exact List.take_eq_take_iff.mpr (by rw [List.length_drop]; omega)
  · rw [List.drop_eq_nil_of_le (by omega), List.drop_eq_nil_of_le (by omega), List.take_nil, List.take_nil]
abbrev Pat := Str × Str
def encPs (ps : List Pat) : PyData := .tuple (ps.map encT)
def encRow (ps : List Pat) (gap : Nat) : PyData := .tuple [.str "row", encPs ps, .int (gap : Int)]
def encD (ws : List Str) : PyData := .tuple (ws.map .str)
def encW (pl : List Nat) : PyData := .tuple (pl.map fun (n : Nat) => .int (n : Int))
theorem imm_ts (ps : List Pat) : ∀ d ∈ ps.map encT, Imm d := fun d hd => by
  obtain ⟨p, _, rfl⟩ := List.mem_map.mp hd; exact imm_encT p
theorem imm_encW (pl : List Nat) : Imm (encW pl) := .tup fun d hd => by
  obtain ⟨n, _, rfl⟩ := List.mem_map.mp hd; exact .int _
theorem imm_encD (ws : List Str) : Imm (encD ws) := .tup fun d hd => by
  obtain ⟨n, _, rfl⟩ := List.mem_map.mp hd; exact .str _
theorem imm_encPs (ps : List Pat) : Imm (encPs ps) := .tup (imm_ts ps)
theorem imm_encRow (ps : List Pat) (gap : Nat) : Imm (encRow ps gap) := .tup fun d hd => by
  rcases List.mem_cons.mp hd with rfl | hd
  · exact .str _
  · rcases List.mem_cons.mp hd with rfl | hd
    · exact imm_encPs ps
    · rw [List.mem_singleton.mp hd]; exact .int _
theorem Dp.tupI {K : PySem.W.Frag} {H : Hp} {v : V} {ds : List PyData} (h : Dp K H v (.tuple ds)) : ∃ a xs, v = .ref a ∧ SqT K H a xs ∧ DpAll K H xs ds := by
  cases h with
  | tup h1 h2 => exact ⟨_, _, rfl, h1, h2⟩
theorem Dp.strI {K : PySem.W.Frag} {H : Hp} {v : V} {z : Str} (h : Dp K H v (.str z)) : v = .str z := by cases h; rfl
theorem Dp.intI {K : PySem.W.Frag} {H : Hp} {v : V} {z : Int} (h : Dp K H v (.int z)) : v = .int z := by cases h; rfl
theorem DpAll.consI {K : PySem.W.Frag} {H : Hp} {vs : List V} {d : PyData} {ds : List PyData} (h : DpAll K H vs (d :: ds)) : ∃ v r, vs = v :: r ∧ Dp K H v d ∧ DpAll K H r ds := by
  cases h with
  | cons a b => exact ⟨_, _, rfl, a, b⟩
theorem DpAll.nilI {K : PySem.W.Frag} {H : Hp} {vs : List V} (h : DpAll K H vs []) : vs = [] := by cases h; rfl
theorem DpAll.strsI {K : PySem.W.Frag} {H : Hp} : ∀ {vs : List V} {ss : List Str}, DpAll K H vs (ss.map PyData.str) → vs = ss.map V.str
  | _, [], h => DpAll.nilI h
  | _, s :: r, h => by
    obtain ⟨v, t, rfl, h1, h2⟩ := DpAll.consI h
    rw [Dp.strI h1, DpAll.strsI h2]; rfl
theorem DpAll.natsI {K : PySem.W.Frag} {H : Hp} : ∀ {vs : List V} {ss : List Nat}, DpAll K H vs (ss.map fun (n : Nat) => PyData.int (n : Int)) → vs = ss.map fun (n : Nat) => V.int (n : Int)
  | _, [], h => DpAll.nilI h
  | _, s :: r, h => by
    obtain ⟨v, t, rfl, h1, h2⟩ := DpAll.consI h
    rw [Dp.intI h1, DpAll.natsI h2]; rfl
theorem DpAll.nats {K : PySem.W.Frag} {H : Hp} : ∀ (ss : List Nat), DpAll K H (ss.map fun (n : Nat) => V.int (n : Int)) (ss.map fun (n : Nat) => PyData.int (n : Int))
  | [] => .nil
  | n :: r => .cons (.int _) (DpAll.nats r)
theorem dp_encT {K : PySem.W.Frag} {H : Hp} {v : V} {p : Pat} (h : Dp K H v (encT p)) : ∃ q, v = .ref q ∧ SqT K H q [.str p.1, .str p.2] := by
  obtain ⟨a, xs, rfl, h1, h2⟩ := Dp.tupI h
  obtain ⟨x, r, rfl, h3, h4⟩ := DpAll.consI h2
  obtain ⟨y, r2, rfl, h5, h6⟩ := DpAll.consI h4
  rw [Dp.strI h3, Dp.strI h5, DpAll.nilI h6] at h1
  exact ⟨a, rfl, h1⟩
theorem dp_encD {K : PySem.W.Frag} {H : Hp} {v : V} {ws : List Str} (h : Dp K H v (encD ws)) : ∃ q, v = .ref q ∧ SqT K H q (ws.map V.str) := by
  obtain ⟨a, xs, rfl, h1, h2⟩ := Dp.tupI h
  rw [DpAll.strsI h2] at h1
  exact ⟨a, rfl, h1⟩
theorem dp_encW {K : PySem.W.Frag} {H : Hp} {v : V} {pl : List Nat} (h : Dp K H v (encW pl)) : ∃ q, v = .ref q ∧ SqT K H q (pl.map fun (n : Nat) => V.int (n : Int)) := by
  obtain ⟨a, xs, rfl, h1, h2⟩ := Dp.tupI h
  rw [DpAll.natsI h2] at h1
  exact ⟨a, rfl, h1⟩
theorem mk_encW {K : PySem.W.Frag} {H : Hp} {q : Addr} {pl : List Nat} (h : SqT K H q (pl.map fun (n : Nat) => V.int (n : Int))) : Dp K H (.ref q) (encW pl) := .tup h (DpAll.nats pl)
theorem dp_encRow {K : PySem.W.Frag} {H : Hp} {v : V} {ps : List Pat} {gap : Nat} (h : Dp K H v (encRow ps gap)) : ∃ q pa pxs, v = .ref q ∧ SqT K H q [.str "row", .ref pa, .int (gap : Int)] ∧ SqT K H pa pxs ∧ DpAll K H pxs (ps.map encT) := by
  obtain ⟨a, xs, rfl, h1, h2⟩ := Dp.tupI h
  obtain ⟨x, r, rfl, h3, h4⟩ := DpAll.consI h2
  obtain ⟨y, r2, rfl, h5, h6⟩ := DpAll.consI h4
  obtain ⟨z, r3, rfl, h7, h8⟩ := DpAll.consI h6
  obtain ⟨pa, pxs, rfl, h9, h10⟩ := Dp.tupI h5
  rw [Dp.strI h3, Dp.intI h7, DpAll.nilI h8] at h1
  exact ⟨a, pa, pxs, rfl, h1, h9, h10⟩
def fitsB (w : Str) (p : Pat) : Bool := if p.1 = "start" then Txt.startswith w p.2 else decide (w = p.2)
/-- how many of the patterns are taken, one behind the other -/
def tstep (ps : List Pat) (t : Nat) (w : Str) : Nat := if t < ps.length ∧ fitsB w (ps.getD t ("", "")) = true then t + 1 else t
def taken (ps : List Pat) (ws : List Str) : Nat := ws.foldl (tstep ps) 0
def endB (L n gap f : Nat) : Nat := min (f + n + gap) L
def beginsB (ws : List Str) (ps : List Pat) (gap : Nat) (pl : List Nat) : Bool :=
  fitsB (ws.getD (pl.getLastD 0) "") (ps.getD (pl.length - 1) ("", "")) && decide (taken (ps.drop (pl.length - 1)) ((ws.drop (pl.getLastD 0)).take (endB ws.length ps.length gap (pl.headD 0) - pl.getLastD 0)) = (ps.drop (pl.length - 1)).length)
def yFits (K : PySem.W.Frag) : Sp := fun vs H Q _ => ∃ (w : Str) (v : V) (p : Pat), vs = [.str w, v] ∧ Dp K H v (encT p) ∧ Q (.bl (fitsB w p)) H
def yEndB (K : PySem.W.Frag) : Sp := fun vs H Q _ => ∃ (vd vr : V) (ws : List Str) (ps : List Pat) (gap f : Nat), vs = [vd, vr, .int (f : Int)] ∧ Dp K H vd (encD ws) ∧ Dp K H vr (encRow ps gap) ∧ Q (.int ((endB ws.length ps.length gap f : Nat) : Int)) H
def yBegins (K : PySem.W.Frag) : Sp := fun vs H Q _ => ∃ (vd vr vp : V) (ws : List Str) (ps : List Pat) (gap : Nat) (pl : List Nat), vs = [vd, vr, vp] ∧ Dp K H vd (encD ws) ∧ Dp K H vr (encRow ps gap) ∧ Dp K H vp (encW pl) ∧
  pl ≠ [] ∧ pl.length ≤ ps.length ∧ pl.getLastD 0 < endB ws.length ps.length gap (pl.headD 0) ∧ ∀ H', Same H H' → Q (.bl (beginsB ws ps gap pl)) H'

open TL
theorem atI_mem {α : Type} {l : List α} {r : Int} (h0 : 0 ≤ r) (h1 : r < (l.length : Int)) : ∃ c, atI l r = some c ∧ c ∈ l := by
  obtain ⟨n, rfl⟩ := Int.eq_ofNat_of_zero_le h0
  have hn : n < l.length := by omega
  exact ⟨l[n], atI_nat (List.getElem?_eq_getElem hn), List.getElem_mem hn⟩
theorem tl_sgn (c : Nat) : tl (⟨#[c]⟩ : Str) = [c] := rfl

def ySpLaw (K : PySem.W.Frag) : Sp := fun vs H Q _ => ∃ (a : Addr) (ns : List Int), vs = [.ref a] ∧ SqL K H a (ns.map V.int) ∧ ns.length ≤ 63 ∧ ∀ H', Q (.bl true) H'
theorem box_new {H1 : Hp} {p bx : Addr} {ds : List Int} (hp : H1 p = some (.lst (ds.map V.int))) (hb : H1 bx = none) : BoxAt (upd H1 bx (.lst [.ref p, .int 0])) bx p :=
  ⟨ds, 0, upd_same, by rw [upd_ne (ne_of_none hp hb)]; exact hp⟩
theorem pick2 {a b : V} {r : Int} (h0 : 0 ≤ r) (h1 : r < 2) : atI [a, b] r = some (if r = 0 then a else b) := by
  by_cases e : r = 0
  · subst e; rfl
  · have e1 : r = 1 := by omega
    subst e1; rfl
theorem pick2i {x y r : Int} (h0 : 0 ≤ r) (h1 : r < 2) : atI [V.int x, V.int y] r = some (V.int (if r = 0 then x else y)) := by
  rw [pick2 h0 h1]; split <;> rfl
theorem pick2s {x y : Str} {r : Int} (h0 : 0 ≤ r) (h1 : r < 2) : atI [V.str x, V.str y] r = some (V.str (if r = 0 then x else y)) := by
  rw [pick2 h0 h1]; split <;> rfl
theorem atI_map {α β : Type} {f : α → β} {l : List α} {r : Int} {x : α} (h0 : 0 ≤ r) (h : atI l r = some x) : atI (l.map f) r = some (f x) := by
  obtain ⟨n, rfl⟩ := Int.eq_ofNat_of_zero_le h0
  by_cases hn : n < l.length
  · have e : atI l (n : Int) = some l[n] := atI_nat (List.getElem?_eq_getElem hn)
    have e2 : l[n] = x := Option.some.inj (e.symm.trans h)
    exact atI_nat (by rw [List.getElem?_map, List.getElem?_eq_getElem hn, e2]; rfl)
  · unfold atI ixN at h
    rw [if_pos h0, if_neg (by omega)] at h
    cases h

/-! ### changes; those that count -/
structure Ch where
  t : Int
  k : Str
  x : Option Str
def oD : Option Str → PyData
  | none => .none
  | some z => .str z
def oSV : Option Str → V
  | none => .non
  | some z => .str z
theorem imm_oD : ∀ o, Imm (oD o)
  | none => .non
  | some _ => .str _
theorem dp_oD {K : PySem.W.Frag} {H : Hp} : ∀ o, Dp K H (oSV o) (oD o)
  | none => .non
  | some z => .str z
theorem dp_oDI {K : PySem.W.Frag} {H : Hp} {v : V} : ∀ {o}, Dp K H v (oD o) → v = oSV o
  | none, h => by cases h; rfl
  | some z, h => by cases h; rfl
def encCh (c : Ch) : PyData := .tuple [.int c.t, .str c.k, oD c.x]
theorem imm_encCh (c : Ch) : Imm (encCh c) := .tup fun d hd => by
  rcases List.mem_cons.mp hd with rfl | hd
  · exact .int _
  · rcases List.mem_cons.mp hd with rfl | hd
    · exact .str _
    · rw [List.mem_singleton.mp hd]; exact imm_oD _
theorem dp_encCh {K : PySem.W.Frag} {H : Hp} {v : V} {c : Ch} (h : Dp K H v (encCh c)) : ∃ a, v = .ref a ∧ SqT K H a [.int c.t, .str c.k, oSV c.x] := by
  obtain ⟨a, xs, rfl, h1, h2⟩ := Dp.tupI h
  obtain ⟨x, r, rfl, h3, h4⟩ := DpAll.consI h2
  obtain ⟨y, r2, rfl, h5, h6⟩ := DpAll.consI h4
  obtain ⟨z, r3, rfl, h7, h8⟩ := DpAll.consI h6
  rw [Dp.intI h3, Dp.strI h5, dp_oDI h7, DpAll.nilI h8] at h1
  exact ⟨a, rfl, h1⟩
theorem mk_encCh {K : PySem.W.Frag} {H : Hp} {a : Addr} {c : Ch} (h : SqT K H a [.int c.t, .str c.k, oSV c.x]) : Dp K H (.ref a) (encCh c) := .tup h (.cons (.int _) (.cons (.str _) (.cons (dp_oD _) .nil)))
abbrev KTm := Str × Int
def Ch.kt (c : Ch) : KTm := (c.k, c.t)
def keyL (p : KTm) : List Key := [.inr p.1, .inl p.2]
theorem keyL_inj {p q : KTm} (h : keyL p = keyL q) : p = q := by
  obtain ⟨a, b⟩ := p
  obtain ⟨c, d⟩ := q
  unfold keyL at h
  simp at h
  rw [h.1, h.2]
def encKT (p : KTm) : PyData := .tuple [.str p.1, .int p.2]
theorem tD_keyL (p : KTm) : tD (keyL p) = encKT p := rfl
theorem encKT_inj {p q : KTm} (h : encKT p = encKT q) : p = q := by
  obtain ⟨a, b⟩ := p
  obtain ⟨c, d⟩ := q
  unfold encKT at h
  simp at h
  rw [h.1, h.2]
theorem tD_inj : ∀ {k l : List Key}, tD k = tD l → k = l := by
  have key : ∀ k l : List Key, k.map kD = l.map kD → k = l := by
    intro k
    induction k with
    | nil =>
      intro l h
      cases l with
      | nil => rfl
      | cons _ _ => simp at h
    | cons x k ih =>
      intro l h
      cases l with
      | nil => simp at h
      | cons y l =>
        rw [List.map_cons, List.map_cons] at h
        obtain ⟨h1, h2⟩ := List.cons.inj h
        rw [ih l h2]
        cases x <;> cases y <;> simp [kD] at h1 <;> rw [h1]
  intro k l h
  unfold tD at h
  injection h with h
  exact key k l h
theorem snoc_ind {α : Type} {M : List α → Prop} (h0 : M []) (h1 : ∀ l a, M l → M (l ++ [a])) (l : List α) : M l := by
  have key : ∀ n, ∀ l : List α, l.length = n → M l := by
    intro n
    induction n with
    | zero => intro l h; rw [List.length_eq_zero_iff.mp h]; exact h0
    | succ n ih =>
      intro l h
      have hne : l ≠ [] := fun e => by rw [e] at h; simp at h
      rw [← List.dropLast_concat_getLast hne]
      exact h1 _ _ (ih _ (by rw [List.length_dropLast, h]; rfl))
  exact key _ l rfl
def onceK (l : List KTm) : List KTm := l.foldl (fun acc t => if t ∈ acc then acc else acc ++ [t]) []
theorem onceK_snoc (l : List KTm) (t : KTm) : onceK (l ++ [t]) = if t ∈ onceK l then onceK l else onceK l ++ [t] := by
  unfold onceK
  rw [List.foldl_append]; rfl
theorem onceK_mem : ∀ (l : List KTm) (t : KTm), t ∈ onceK l ↔ t ∈ l := by
  intro l
  induction l using snoc_ind with
  | h0 => intro t; exact Iff.rfl
  | h1 l a ih =>
    intro t
    rw [onceK_snoc]
    by_cases c : a ∈ onceK l
    · rw [if_pos c, ih, List.mem_append, List.mem_singleton]
      exact ⟨.inl, fun h => h.elim id fun e => by rw [e]; exact (ih a).mp c⟩
    · rw [if_neg c, List.mem_append, List.mem_append, ih]
theorem onceK_nodup : ∀ l : List KTm, (onceK l).Nodup := by
  intro l
  induction l using snoc_ind with
  | h0 => exact List.nodup_nil
  | h1 l a ih =>
    rw [onceK_snoc]
    by_cases c : a ∈ onceK l
    · rw [if_pos c]; exact ih
    · rw [if_neg c, List.nodup_append]
      refine ⟨ih, List.pairwise_singleton _ _, fun x hx y hy e => c ?_⟩
      rw [← List.mem_singleton.mp hy, ← e]; exact hx
theorem onceK_len : ∀ l : List KTm, (onceK l).length ≤ l.length := by
  intro l
  induction l using snoc_ind with
  | h0 => exact Nat.le_refl _
  | h1 l a ih =>
    rw [onceK_snoc, List.length_append]
    split
    · omega
    · rw [List.length_append]; simp; omega
def keysOf (cs : List Ch) : List KTm := onceK (cs.map Ch.kt)
def lastOf (cs : List Ch) (p : KTm) : Option Ch := cs.foldl (fun o c => if c.kt = p then some c else o) none
theorem keysOf_snoc (cs : List Ch) (c : Ch) : keysOf (cs ++ [c]) = if c.kt ∈ keysOf cs then keysOf cs else keysOf cs ++ [c.kt] := by
  unfold keysOf
  rw [List.map_append]
  exact onceK_snoc _ _
theorem lastOf_snoc (cs : List Ch) (c : Ch) (p : KTm) : lastOf (cs ++ [c]) p = if c.kt = p then some c else lastOf cs p := by
  unfold lastOf
  rw [List.foldl_append]; rfl
theorem lastOf_some : ∀ {cs : List Ch} {p : KTm}, p ∈ cs.map Ch.kt → ∃ c, lastOf cs p = some c := by
  intro cs p
  induction cs using snoc_ind with
  | h0 => intro h; exact nomatch h
  | h1 l a ih =>
    intro h
    rw [lastOf_snoc]
    by_cases e : a.kt = p
    · exact ⟨a, if_pos e⟩
    · rw [if_neg e]
      rw [List.map_append, List.mem_append] at h
      rcases h with h | h
      · exact ih h
      · exact absurd (List.mem_singleton.mp h).symm e
theorem lastOf_mem : ∀ {cs : List Ch} {p : KTm} {c : Ch}, lastOf cs p = some c → c ∈ cs ∧ c.kt = p := by
  intro cs p c
  induction cs using snoc_ind with
  | h0 => intro h; exact nomatch h
  | h1 l a ih =>
    intro h
    rw [lastOf_snoc] at h
    by_cases e : a.kt = p
    · rw [if_pos e] at h
      have e2 := Option.some.inj h
      subst e2
      exact ⟨List.mem_append_right _ List.mem_cons_self, e⟩
    · rw [if_neg e] at h
      exact ⟨List.mem_append_left _ (ih h).1, (ih h).2⟩
open PySem.W (dataLe dataLt) in
def leKT (p q : KTm) : Bool := dataLe false id (encKT p) (encKT q)
def sortKT (l : List KTm) : List KTm := l.mergeSort leKT
def countedL (cs : List Ch) : List Ch := (sortKT (keysOf cs)).filterMap (lastOf cs)
theorem sortKT_map (l : List KTm) : (l.map encKT).mergeSort (PySem.W.dataLe false id) = (sortKT l).map encKT :=
  (List.map_mergeSort (r := leKT) (s := PySem.W.dataLe false id) (f := encKT) (l := l) fun _ _ _ _ => rfl).symm
open Classical in
theorem putK_keys (kvs : List (List Key × V)) (k : List Key) (v : V) : (putK kvs k v).map (·.1) = if k ∈ kvs.map (·.1) then kvs.map (·.1) else kvs.map (·.1) ++ [k] := by
  unfold putK
  by_cases h : k ∈ kvs.map (·.1)
  · rw [if_pos h, if_pos (by
      obtain ⟨p, hp, e⟩ := List.mem_map.mp h
      exact List.any_eq_true.mpr ⟨p, hp, decide_eq_true e⟩), List.map_map]
    exact List.map_congr_left fun p _ => by
      show (if p.1 = k then (p.1, v) else p).1 = p.1
      split <;> rfl
  · rw [if_neg h, if_neg (fun z => h (by
      obtain ⟨p, hp, e⟩ := List.any_eq_true.mp z
      exact List.mem_map.mpr ⟨p, hp, of_decide_eq_true e⟩)), List.map_append]
    rfl
/-- the dict of the last told ones -/
def DC (K : PySem.W.Frag) (H : Hp) (d : Addr) (cs : List Ch) : Prop := ∃ kvs : List (List Key × V), H d = some (.dT kvs) ∧ kvs.map (·.1) = (keysOf cs).map keyL ∧ ∀ p c, lastOf cs p = some c → ∃ v, valV kvs (keyL p) = some v ∧ Dp K H v (encCh c)
theorem DC.nil {K : PySem.W.Frag} {H : Hp} {d : Addr} (h : H d = some (.dT [])) : DC K H d [] := ⟨[], h, rfl, fun p c e => nomatch e⟩
theorem TK.ofK {H H' : Hp} {b : Addr} (k : Kp b H H') (h : ∀ xs, H b ≠ some (.tup xs)) (h2 : ∀ o u, H b ≠ some (.frz o u)) : TK H H' := fun c u ⟨ys, e⟩ r => by
  subst e
  have hn : c ≠ b := fun z => by
    subst z
    rcases r with r | ⟨o, r⟩
    · exact h _ r
    · exact h2 _ _ r
  rcases r with r | ⟨o, r⟩
  · exact .inl (k _ _ r hn)
  · exact .inr ⟨o, k _ _ r hn⟩
theorem TK.updD {H : Hp} {b : Addr} {kvs : List (List Key × V)} {o : HO} (h : H b = some (.dT kvs)) : TK H (upd H b o) := TK.ofK (Kp.upd (Kp.refl b H)) (fun xs e => by rw [h] at e; cases e) (fun o u e => by rw [h] at e; cases e)
theorem DC.same {K : PySem.W.Frag} {H H' : Hp} {d : Addr} {cs : List Ch} (h : DC K H d cs) (s : Same H H') : DC K H' d cs := by
  obtain ⟨kvs, h1, h2, h3⟩ := h
  refine ⟨kvs, s _ _ h1, h2, fun p c e => ?_⟩
  obtain ⟨v, e1, e2⟩ := h3 p c e
  exact ⟨v, e1, Dp.same s e2⟩
theorem mem_keyL {l : List KTm} {p : KTm} : keyL p ∈ l.map keyL ↔ p ∈ l := by
  constructor
  · intro h
    obtain ⟨q, hq, e⟩ := List.mem_map.mp h
    rw [← keyL_inj e]; exact hq
  · intro h; exact List.mem_map.mpr ⟨p, h, rfl⟩
theorem DC.put {K : PySem.W.Frag} {H : Hp} {d : Addr} {cs : List Ch} {c : Ch} {kvs : List (List Key × V)} {v : V} (h1 : H d = some (.dT kvs)) (h2 : kvs.map (·.1) = (keysOf cs).map keyL) (h3 : ∀ p c, lastOf cs p = some c → ∃ v, valV kvs (keyL p) = some v ∧ Dp K H v (encCh c)) (hv : Dp K H v (encCh c)) :
    DC K (upd H d (.dT (putK kvs (keyL c.kt) v))) d (cs ++ [c]) := by
  have tk : TK H (upd H d (.dT (putK kvs (keyL c.kt) v))) := TK.updD h1
  refine ⟨_, upd_same, ?_, fun p c' e => ?_⟩
  · rw [putK_keys, keysOf_snoc, h2]
    by_cases m : c.kt ∈ keysOf cs
    · rw [if_pos (mem_keyL.mpr m), if_pos m]
    · rw [if_neg (fun z => m (mem_keyL.mp z)), if_neg m, List.map_append]; rfl
  · rw [lastOf_snoc] at e
    by_cases q : c.kt = p
    · rw [if_pos q] at e
      have e2 := Option.some.inj e
      subst e2
      exact ⟨v, by rw [valV_put, if_pos (by rw [q])], Dp.keep tk hv (imm_encCh _)⟩
    · rw [if_neg q] at e
      obtain ⟨u, e1, e2⟩ := h3 p c' e
      exact ⟨u, by rw [valV_put, if_neg (fun z => q (keyL_inj z).symm)]; exact e1, Dp.keep tk e2 (imm_encCh _)⟩
theorem alike_encKT (p q : KTm) : PySem.W.alike (encKT p) (encKT q) = true := by
  unfold encKT
  simp [PySem.W.alike, PySem.W.alikeAll]
theorem depth_encKT (p : KTm) : (encKT p).depth ≤ 1 := by
  unfold encKT
  simp [PyData.depth, PyData.depthAll]
theorem DC.len {K : PySem.W.Frag} {H : Hp} {d : Addr} {cs : List Ch} {kvs : List (List Key × V)} (h2 : kvs.map (·.1) = (keysOf cs).map keyL) : kvs.length ≤ cs.length := by
  have e := congrArg List.length h2
  rw [List.length_map, List.length_map] at e
  have h3 := onceK_len (cs.map Ch.kt)
  rw [List.length_map] at h3
  rw [e]; exact h3
def yCounted (K : PySem.W.Frag) : Sp := fun vs H Q _ => ∃ (l : Addr) (xs : List V) (cs : List Ch), vs = [.ref l] ∧ SqL K H l xs ∧ DpAll K H xs (cs.map encCh) ∧ cs.length ≤ 1000 ∧
  ∀ H' p, Same H H' → H p = none → LAt K H' p ((countedL cs).map encCh) → Q (.ref p) H'
section
variable {P : Program} {w : World} {K : PySem.W.Frag} {mg : Str → Option Value} {base : Heap} {A : Nat → Addr} {D : Nat → FuncData}
theorem ok_counted (T : Txt K mg A D) : FnOk P w K mg base CX0 1 (A 0) (D 0) ["changes"] (yCounted K) := by
  refine T.F_counted.ok sc_counted (fun vs H Q E h => ?_) (fun cdv A' outer s H vs Q E hr h => ?_)
  · obtain ⟨l, xs, cs, rfl, _⟩ := h; rfl
  obtain ⟨l, xs, cs, rfl, hl, hx, hcs, q⟩ := h
  have hnd := sc_counted.nd
  have hxl : xs.length = cs.length := by rw [DpAll.len hx, List.length_map]
  refine ⟨_, (pss_cons (ps_set (i := 2) hnd rfl (Or.inr rfl) pe_dnewT) (pss_cons (ps_for PassesOwn.never rfl (pi_list (pv 0)) (pg_tup rfl (pgs_cons (pg_name (i := 3) hnd rfl (Or.inl rfl)) (pgs_cons (pg_name (i := 4) hnd rfl (Or.inl rfl)) (pgs_cons (pg_name (i := 5) hnd rfl (Or.inl rfl)) pgs_nil)))) (pss_one (ps_dput (hu_of hr) (pv 2) (pe_tup (pa_cons (pv 4) (pa_cons (pv 3) pa_nil))) (pe_tup (pa_cons (pv 3) (pa_cons (pv 4) (pa_cons (pv 5) pa_nil)))) rfl))) (pss_one (ps_ret (pe_lc (own := [("place", 1)]) rfl hnd (pi_list (pe_callB (cr_sortDT rfl hr.units) rfl T.z_sorted (by decide +kernel) (pa_cons (pv 2) pa_nil))) (blkOk_by (own := [("place", 1)]) (N := N_counted) (sc := defScope s_counted) (by decide +kernel)) (fun _ _ _ _ _ => (pg_name (i := 1) hnd rfl (Or.inl rfl))) (fun _ _ _ _ _ => pts_nil) (fun _ _ _ _ _ => (pe_dget (hu_of hr) (pv 2) (pv 1) (fun _ _ => rfl)))))))), ?_⟩
  refine fun d hd => ?_
  have sd := same_new (o := .dT []) hd
  refine ⟨_, rfl, l, rfl, ⟨_, sd.seq hl⟩, ?_⟩
  refine for_list (xs := xs) (fun i σ H' => ∃ (c3 c4 c5 : Option V), σ = [some (.ref l), none, some (.ref d), c3, c4, c5] ∧ (∀ b o, H b = some o → H' b = some o) ∧ DC K H' d (cs.take i))
    ⟨_, _, _, rfl, sd, DC.nil upd_same⟩ (fun i σ H' _ h => by obtain ⟨_, _, _, _, s1, _⟩ := h; exact Same.seq s1 hl) ?_ ?_
  · rintro i x σ H1 hi ⟨c3, c4, c5, rfl, s1, kvs, d1, d2, d3⟩
    have hil : i < cs.length := by rw [← hxl]; exact (List.getElem?_eq_some_iff.mp hi).1
    obtain ⟨v, hv, dv⟩ := DpAll.get hx (i := i) (d := encCh cs[i]) (by rw [List.getElem?_map, List.getElem?_eq_getElem hil]; rfl)
    have ev : x = v := Option.some.inj (hi.symm.trans hv)
    subst ev
    obtain ⟨ax, rfl, hax⟩ := dp_encCh (Dp.same s1 dv)
    refine ⟨ax, _, rfl, hax, rfl, _, _, rfl, _, _, rfl, _, _, rfl, rfl, ?_⟩
    refine ⟨_, rfl, _, rfl, _, rfl, (by show 3 ≤ sizeLine; decide), fun p1 hp1 => ?_⟩
    have s2 := same_new (o := .tup [.int cs[i].t, .str cs[i].k, oSV cs[i].x]) hp1
    refine ⟨_, rfl, _, rfl, _, rfl, (by show 2 ≤ sizeLine; decide), fun p2 hp2 => ?_⟩
    have s3 := same_new (o := .tup [.str cs[i].k, .int cs[i].t]) hp2
    have dd : upd (upd H1 p1 (.tup [.int cs[i].t, .str cs[i].k, oSV cs[i].x])) p2 (.tup [.str cs[i].k, .int cs[i].t]) d = some (.dT kvs) := s3 _ _ (s2 _ _ d1)
    have hk := DC.len (K := K) (H := H1) (d := d) d2
    have hk2 := List.length_take_le i cs
    refine ⟨d, _, rfl, DPut.t (k := keyL cs[i].kt) dd upd_same (by show kvs.length < 16777216; omega), ?_⟩
    refine ⟨_, _, _, rfl, fun b o e => ?_, ?_⟩
    · have hb : b ≠ d := fun z => by rw [z, hd] at e; cases e
      rw [upd_ne hb]
      exact s3 _ _ (s2 _ _ (s1 _ _ e))
    · rw [List.take_add_one, List.getElem?_eq_getElem hil]
      refine DC.put dd d2 (fun p c e => ?_) ?_
      · obtain ⟨u, e1, e2⟩ := d3 p c e
        exact ⟨u, e1, Dp.same (s2.trans s3) e2⟩
      · exact mk_encCh (SqT.of (s3 _ _ upd_same))
  · rintro σ H1 ⟨c3, c4, c5, rfl, s1, d0⟩
    rw [take_all (Nat.le_of_eq hxl.symm)] at d0
    obtain ⟨kvs, d1, d2, d3⟩ := d0
    have hk := DC.len (K := K) (H := H1) (d := d) d2
    have em : (kvs.map fun kv => tD kv.1) = (keysOf cs).map encKT := by
      have e : (kvs.map fun kv => tD kv.1) = (kvs.map (·.1)).map tD := by rw [List.map_map]; rfl
      rw [e, d2, List.map_map]; rfl
    refine ⟨_, rfl, d, kvs, rfl, .inl d1, (by omega), ?_, ?_, ?_, fun r bs hr0 hbs => ?_⟩
    · rw [em]; exact PySem.W.AllAlike.of alike_encKT
    · rw [em]; exact PySem.W.Sortable.tuples fun p => ⟨_, _, rfl⟩
    · intro kv hkv
      have : tD kv.1 ∈ (kvs.map fun kv => tD kv.1) := List.mem_map.mpr ⟨kv, hkv, rfl⟩
      rw [em] at this
      obtain ⟨p, _, e⟩ := List.mem_map.mp this
      rw [← e]
      have := depth_encKT p
      omega
    rw [em, sortKT_map] at hbs
    have sr := same_new (o := .lst (bs.map V.ref)) hr0
    have hbl : bs.length = (sortKT (keysOf cs)).length := by rw [hbs.len, List.length_map]
    refine ⟨r, rfl, ⟨_, SqL.of upd_same⟩, fun DD hDD => ?_⟩
    have sD := same_new (o := .lst []) hDD
    refine lc_it (walk_list (xs := bs.map V.ref)) (fun i H' => Same (upd H1 r (.lst (bs.map V.ref))) H' ∧ LAt K H' DD (((sortKT (keysOf cs)).take i).filterMap (lastOf cs) |>.map encCh)) ⟨sD, LAt.nil upd_same⟩ (fun i H' _ h => SqL.of (h.1 _ _ upd_same)) ?_ ?_
    · rintro i x H2 H3 hi ⟨s2, L2⟩ ⟨rfl, hx2⟩
      rw [List.length_map] at hi
      have hi2 : i < (sortKT (keysOf cs)).length := by rw [← hbl]; exact hi
      obtain ⟨b, k, hb, ek, hbk⟩ := hbs.get (i := i) (d := encKT (sortKT (keysOf cs))[i]) (by rw [List.getElem?_map, List.getElem?_eq_getElem hi2]; rfl)
      rw [← tD_keyL] at ek
      have ek := tD_inj ek
      subst ek
      have exb : x = .ref b := by
        rw [List.getElem?_map, hb] at hx2
        exact (Option.some.inj hx2).symm
      subst exb
      have hp : (sortKT (keysOf cs))[i] ∈ keysOf cs := (List.mergeSort_perm _ _).mem_iff.mp (List.getElem_mem hi2)
      obtain ⟨c, hc⟩ := lastOf_some (cs := cs) ((onceK_mem _ _).mp hp)
      obtain ⟨v, v1, v2⟩ := d3 _ _ hc
      have sA := sr.trans s2
      refine ⟨rfl, _, rfl, _, rfl, d, v, rfl, ?_, ?_⟩
      · rw [← v1]; exact DGet.t (sA _ _ d1) (sA _ _ hbk)
      · obtain ⟨acc, g1, g2, g3⟩ := L2
        refine ⟨acc, g1, ?_, same_upd s2 hDD, ?_⟩
        · have e := DpAll.len g2
          rw [List.length_map] at e
          have e2 := List.length_filterMap_le (lastOf cs) ((sortKT (keysOf cs)).take i)
          have e3 := List.length_take_le i (sortKT (keysOf cs))
          have e4 : (sortKT (keysOf cs)).length = kvs.length := by
            unfold sortKT
            rw [List.length_mergeSort]
            have := congrArg List.length d2
            rw [List.length_map, List.length_map] at this
            exact this.symm
          show acc.length < 16777216
          omega
        · rw [List.take_add_one, List.getElem?_eq_getElem hi2, List.filterMap_append, List.map_append]
          have e : List.filterMap (lastOf cs) (some (sortKT (keysOf cs))[i]).toList = [c] := by
            show List.filterMap (lastOf cs) [(sortKT (keysOf cs))[i]] = [c]
            rw [List.filterMap_cons, hc]; rfl
          rw [e]
          exact LAt.push g1 g2 g3 (Dp.same sA v2) (imm_encCh _)
    · rintro H2 ⟨s2, L2⟩
      rw [take_all (by rw [List.length_map, hbl]; exact Nat.le_refl _)] at L2
      exact q H2 DD (fun b o e => s2 _ _ (sr _ _ (s1 _ _ e))) (Same.free (Same.trans s1 sr) hDD) L2
end

/-! ### law: drawn changes -/
theorem pickS {ss : List Str} {r : Int} (h0 : 0 ≤ r) (h1 : r < (ss.length : Int)) : ∃ z, z ∈ ss ∧ atI (ss.map V.str) r = some (.str z) := by
  obtain ⟨c, hc, hm⟩ := atI_mem (l := ss) h0 h1
  exact ⟨c, hm, atI_map h0 hc⟩
theorem pickI {ss : List Int} {r : Int} (h0 : 0 ≤ r) (h1 : r < (ss.length : Int)) : ∃ z, z ∈ ss ∧ atI (ss.map V.int) r = some (.int z) := by
  obtain ⟨c, hc, hm⟩ := atI_mem (l := ss) h0 h1
  exact ⟨c, hm, atI_map h0 hc⟩
theorem Kp.updN {b d : Addr} {H H' : Hp} {o : HO} (a : Kp b H H') (hd : H d = none) : Kp b H (L2.upd H' d o) := fun x u h n => by
  rw [upd_ne (fun z => by rw [z, hd] at h; cases h)]; exact a x u h n
def textsA : List Str := ["old", "Mill", "mills", "the", "weir", "a", "b", "ab"]
def sepsA : List Str := [" ", ", ", "\n", "-"]
def keysA : List Str := ["k", "a", "b2", "zz", "0"]
theorem textsA_len : ∀ z ∈ textsA, z.length ≤ 5 := by decide +kernel
theorem sepsA_len : ∀ z ∈ sepsA, z.length ≤ 2 := by decide +kernel
def yLText (K : PySem.W.Frag) : Sp := fun vs H Q _ => ∃ (b p : Addr), vs = [.ref b] ∧ BoxAt H b p ∧ ∀ (z : Str) (H' : Hp), z.length ≤ 60 → BoxAt H' b p → Kp b H H' → Q (.str z) H'
def yLChange (K : PySem.W.Frag) : Sp := fun vs H Q _ => ∃ (b p : Addr) (ks ts : Int), vs = [.ref b, .int ks, .int ts] ∧ BoxAt H b p ∧ 0 < ks ∧ ks ≤ 5 ∧ 0 < ts ∧ ts ≤ 1000 ∧
  ∀ (a : Addr) (c : Ch) (H' : Hp), Dp K H' (.ref a) (encCh c) → c.k ∈ keysA → 0 ≤ c.t → c.t ≤ 997000 → (∀ z, c.x = some z → z.length ≤ 60) → BoxAt H' b p → Kp b H H' → Q (.ref a) H'
def yLTold (K : PySem.W.Frag) : Sp := fun vs H Q _ => ∃ (b p : Addr) (ms ks ts : Int), vs = [.ref b, .int ms, .int ks, .int ts] ∧ BoxAt H b p ∧ 0 ≤ ms ∧ ms ≤ 100 ∧ 0 < ks ∧ ks ≤ 5 ∧ 0 < ts ∧ ts ≤ 1000 ∧
  ∀ (d : Addr) (cs : List Ch) (H' : Hp), LAt K H' d (cs.map encCh) → d ≠ b → (cs.length : Int) ≤ ms → (∀ c ∈ cs, c.k ∈ keysA ∧ ∀ z, c.x = some z → z.length ≤ 60) → BoxAt H' b p → Kp b H H' → Q (.ref d) H'
section
variable {P : Program} {w : World} {K : PySem.W.Frag} {mg : Str → Option Value} {base : Heap} {A : Nat → Addr} {D : Nat → FuncData}
theorem ok_ltext (T : Txt K mg A D) : FnOk P w K mg base CX0 2 (A 5) (D 5) ["box"] (yLText K) := by
  refine T.F__law_text.ok sc__law_text (fun vs H Q E h => ?_) (fun cdv A' outer s H vs Q E hr h => ?_)
  · obtain ⟨b, p, rfl, _⟩ := h; rfl
  obtain ⟨b, p, rfl, B, q⟩ := h
  have hnd := sc__law_text.nd
  have G__law_draw := ok_draw (P := P) (w := w) (base := base) T
  refine ⟨_, (pss_cons (ps_set (i := 1) hnd rfl (Or.inl rfl) pe_str) (pss_cons (ps_for PassesOwn.never rfl (pi_range1 rfl T.z_range (pa_cons (pe_call G__law_draw (hr.mono (by first | decide | omega)) rfl T.m__law_draw T.F__law_draw.kp T.b__law_draw .nil pass0 (pa_cons (pv 0) (pa_cons pe_int pa_nil))) pa_nil)) (pg_name (i := 2) hnd rfl (Or.inl rfl)) (pss_one (ps_set (i := 1) hnd rfl (Or.inl rfl) (pe_op op_add_str (pe_op op_add_str (pv 1) (pe_ix (r := rIxL K) ix_list (pe_lst (pa_cons pe_str (pa_cons pe_str (pa_cons pe_str (pa_cons pe_str (pa_cons pe_str (pa_cons pe_str (pa_cons pe_str (pa_cons pe_str pa_nil))))))))) (pe_call G__law_draw (hr.mono (by first | decide | omega)) rfl T.m__law_draw T.F__law_draw.kp T.b__law_draw .nil pass0 (pa_cons (pv 0) (pa_cons pe_int pa_nil))) (fun _ _ => rfl))) (pe_ix (r := rIxL K) ix_list (pe_lst (pa_cons pe_str (pa_cons pe_str (pa_cons pe_str (pa_cons pe_str pa_nil))))) (pe_call G__law_draw (hr.mono (by first | decide | omega)) rfl T.m__law_draw T.F__law_draw.kp T.b__law_draw .nil pass0 (pa_cons (pv 0) (pa_cons pe_int pa_nil))) (fun _ _ => rfl)))))) (pss_one (ps_ret (pv 1))))), ?_⟩
  refine ⟨_, rfl, b, p, _, rfl, B, (by decide), fun r1 H1 h10 h11 B1 k1 => ⟨r1, rfl, by omega, by omega, ?_⟩⟩
  refine for_range (n := r1.toNat) (fun i σ H' => ∃ (z : Str) (c2 : Option V), σ = [some (.ref b), some (.str z), c2] ∧ BoxAt H' b p ∧ Kp b H H' ∧ z.length ≤ 7 * i)
    ⟨_, _, rfl, B1, k1, Nat.zero_le _⟩ ?_ ?_
  · rintro i σ H2 hi ⟨z, c2, rfl, B2, k2, l2⟩
    refine ⟨_, rfl, (by show 8 ≤ sizeLine; decide), fun l3 hl3 => ⟨_, rfl, b, p, _, rfl, B2.keep (same_new hl3), (by decide), fun r3 H3 h30 h31 B3 k3 => ?_⟩⟩
    obtain ⟨z3, m3, e3⟩ := pickS (ss := textsA) h30 h31
    refine ⟨l3, _, r3, _, rfl, rfl, SqL.of (k3 _ _ upd_same (B2.ne hl3).1), e3, _, _, rfl, rfl, ?_, ?_⟩
    · have := textsA_len z3 m3
      show _ ≤ 16777216
      omega
    refine ⟨(by show 4 ≤ sizeLine; decide), fun l4 hl4 => ⟨_, rfl, b, p, _, rfl, B3.keep (same_new hl4), (by decide), fun r4 H4 h40 h41 B4 k4 => ?_⟩⟩
    obtain ⟨z4, m4, e4⟩ := pickS (ss := sepsA) h40 h41
    have f1 : (z ++ z3).length = z.length + z3.length := by rw [len_tl, tl_append, List.length_append, ← len_tl, ← len_tl]
    have f2 : (z ++ z3 ++ z4).length = z.length + z3.length + z4.length := by rw [len_tl, tl_append, List.length_append, ← len_tl, ← len_tl, f1]
    have g3 := textsA_len z3 m3
    have g4 := sepsA_len z4 m4
    refine ⟨l4, _, r4, _, rfl, rfl, SqL.of (k4 _ _ upd_same (B3.ne hl4).1), e4, _, _, rfl, rfl, ?_, ?_⟩
    · rw [f1]
      show _ ≤ 16777216
      omega
    exact ⟨_, _, rfl, B4, ((((k2.trans (Kp.of (same_new hl3))).trans k3).trans (Kp.of (same_new hl4))).trans k4), by rw [f2]; omega⟩
  · rintro σ H2 ⟨z, c2, rfl, B2, k2, l2⟩
    exact ⟨_, rfl, q z H2 (by omega) B2 k2⟩
theorem ok_lchange (T : Txt K mg A D) : FnOk P w K mg base CX0 3 (A 6) (D 6) ["box", "keys", "times"] (yLChange K) := by
  refine T.F__law_change.ok sc__law_change (fun vs H Q E h => ?_) (fun cdv A' outer s H vs Q E hr h => ?_)
  · obtain ⟨b, p, ks, ts, rfl, _⟩ := h; rfl
  obtain ⟨b, p, ks, ts, rfl, B, ks0, ks1, ts0, ts1, q⟩ := h
  have hnd := sc__law_change.nd
  have G__law_draw := ok_draw (P := P) (w := w) (base := base) T
  have G__law_text := ok_ltext (P := P) (w := w) (base := base) T
  refine ⟨_, (pss_cons (ps_set (i := 3) hnd rfl (Or.inl rfl) pe_non) (pss_cut (ps_if (pt_cmpR op_gt (pe_call G__law_draw (hr.mono (by first | decide | omega)) rfl T.m__law_draw T.F__law_draw.kp T.b__law_draw .nil pass0 (pa_cons (pv 0) (pa_cons pe_int pa_nil))) pe_int (nomark _)) (pss_one (ps_set (i := 3) hnd rfl (Or.inl rfl) (pe_call G__law_text (hr.mono (by first | decide | omega)) rfl T.m__law_text T.F__law_text.kp T.b__law_text .nil pass0 (pa_cons (pv 0) pa_nil)))) pss_nil) (pss_one (ps_ret (pe_tup (pa_cons (pe_op op_mul (pe_call G__law_draw (hr.mono (by first | decide | omega)) rfl T.m__law_draw T.F__law_draw.kp T.b__law_draw .nil pass0 (pa_cons (pv 0) (pa_cons (pv 2) pa_nil))) (pe_ix (r := rIxL K) ix_list (pe_lst (pa_cons pe_int (pa_cons pe_int (pa_cons pe_int pa_nil)))) (pe_call G__law_draw (hr.mono (by first | decide | omega)) rfl T.m__law_draw T.F__law_draw.kp T.b__law_draw .nil pass0 (pa_cons (pv 0) (pa_cons pe_int pa_nil))) (fun _ _ => rfl))) (pa_cons (pe_ix (r := rIxL K) ix_list (pe_lst (pa_cons pe_str (pa_cons pe_str (pa_cons pe_str (pa_cons pe_str (pa_cons pe_str pa_nil)))))) (pe_call G__law_draw (hr.mono (by first | decide | omega)) rfl T.m__law_draw T.F__law_draw.kp T.b__law_draw .nil pass0 (pa_cons (pv 0) (pa_cons (pv 1) pa_nil))) (fun _ _ => rfl)) (pa_cons (pv 3) pa_nil)))))))), ?_⟩
  refine ⟨fun σ H' => ∃ o : Option Str, σ = [some (.ref b), some (.int ks), some (.int ts), some (oSV o)] ∧ BoxAt H' b p ∧ Kp b H H' ∧ ∀ z, o = some z → z.length ≤ 60, ?_, ?_⟩
  · refine ⟨_, rfl, b, p, _, rfl, B, (by decide), fun r1 H1 h10 h11 B1 k1 => ⟨_, _, rfl, rfl, _, rfl, ?_⟩⟩
    refine ite2 (fun c => ?_) (fun c => ?_)
    · refine ⟨_, rfl, b, p, rfl, B1, fun z H2 hz B2 k2 => ⟨some z, rfl, B2, k1.trans k2, fun y e => ?_⟩⟩
      rw [← Option.some.inj e]; exact hz
    · exact ⟨none, rfl, B1, k1, fun y e => nomatch e⟩
  · rintro σ H1 ⟨o, rfl, B1, k1, ho⟩
    refine ⟨_, rfl, _, rfl, b, p, _, rfl, B1, ts0, fun r2 H2 h20 h21 B2 k2 => ?_⟩
    refine ⟨(by show 3 ≤ sizeLine; decide), fun l3 hl3 => ⟨_, rfl, b, p, _, rfl, B2.keep (same_new hl3), (by decide), fun r3 H3 h30 h31 B3 k3 => ?_⟩⟩
    obtain ⟨z3, m3, e3⟩ := pickI (ss := [1, 1, 997]) h30 h31
    have z3b : 1 ≤ z3 ∧ z3 ≤ 997 := by
      simp at m3
      omega
    refine ⟨l3, _, r3, _, rfl, rfl, SqL.of (k3 _ _ upd_same (B2.ne hl3).1), e3, _, _, rfl, rfl, .inl ⟨by omega, by omega⟩, ?_⟩
    refine ⟨(by show 5 ≤ sizeLine; decide), fun l4 hl4 => ⟨_, rfl, _, rfl, b, p, _, rfl, B3.keep (same_new hl4), ks0, fun r4 H4 h40 h41 B4 k4 => ?_⟩⟩
    obtain ⟨z4, m4, e4⟩ := pickS (ss := keysA) h40 (show r4 < 5 by omega)
    refine ⟨l4, _, r4, _, rfl, rfl, SqL.of (k4 _ _ upd_same (B3.ne hl4).1), e4, _, rfl, (by show 3 ≤ sizeLine; decide), fun p5 hp5 => ?_⟩
    have pr : 0 ≤ r2 * z3 ∧ r2 * z3 ≤ 997000 := by
      refine ⟨Int.mul_nonneg h20 (by omega), ?_⟩
      have : r2 * z3 ≤ 1000 * 997 := Int.mul_le_mul (by omega) z3b.2 (by omega) (by decide)
      omega
    exact q p5 ⟨r2 * z3, z4, o⟩ _ (mk_encCh (SqT.of upd_same)) m4 pr.1 pr.2 ho (B4.keep (same_new hp5)) (((((k1.trans k2).trans (Kp.of (same_new hl3))).trans k3).trans ((Kp.of (same_new hl4)).trans k4)).trans (Kp.of (same_new hp5)))
theorem ok_ltold (T : Txt K mg A D) : FnOk P w K mg base CX0 4 (A 7) (D 7) ["box", "most", "keys", "times"] (yLTold K) := by
  refine T.F__law_told.ok sc__law_told (fun vs H Q E h => ?_) (fun cdv A' outer s H vs Q E hr h => ?_)
  · obtain ⟨b, p, ms, ks, ts, rfl, _⟩ := h; rfl
  obtain ⟨b, p, ms, ks, ts, rfl, B, ms0, ms1, ks0, ks1, ts0, ts1, q⟩ := h
  have hnd := sc__law_told.nd
  have G__law_draw := ok_draw (P := P) (w := w) (base := base) T
  have G__law_change := ok_lchange (P := P) (w := w) (base := base) T
  refine ⟨_, (pss_cons (ps_set (i := 4) hnd rfl (Or.inl rfl) (pe_lst pa_nil)) (pss_cons (ps_for PassesOwn.never rfl (pi_range1 rfl T.z_range (pa_cons (pe_call G__law_draw (hr.mono (by first | decide | omega)) rfl T.m__law_draw T.F__law_draw.kp T.b__law_draw .nil pass0 (pa_cons (pv 0) (pa_cons (pe_op op_add (pv 1) pe_int) pa_nil))) pa_nil)) (pg_name (i := 5) hnd rfl (Or.inl rfl)) (pss_one (ps_expr (pe_bm PySem.F.plainAttrs_list PySem.F.slot_list_append PySem.F.type_list_append mt_append (pv 4) (pa_cons (pe_call G__law_change (hr.mono (by first | decide | omega)) rfl T.m__law_change T.F__law_change.kp T.b__law_change .nil pass0 (pa_cons (pv 0) (pa_cons (pv 2) (pa_cons (pv 3) pa_nil)))) pa_nil))))) (pss_one (ps_ret (pv 4))))), ?_⟩
  refine ⟨(by show 0 ≤ sizeLine; decide), fun d hd => ?_⟩
  have B0 := B.keep (same_new (o := .lst []) hd)
  have hdb : d ≠ b := (B.ne hd).1
  refine ⟨_, rfl, _, rfl, _, _, rfl, rfl, b, p, _, rfl, B0, (by show 0 < ms + 1; omega), fun r1 H1 h10 h11 B1 k1 => ⟨r1, rfl, by omega, by omega, ?_⟩⟩
  refine for_range (n := r1.toNat) (fun i σ H' => ∃ (c5 : Option V) (cs : List Ch), σ = [some (.ref b), some (.int ms), some (.int ks), some (.int ts), some (.ref d), c5] ∧ BoxAt H' b p ∧ Kp b H H' ∧ LAt K H' d (cs.map encCh) ∧ cs.length = i ∧ ∀ c ∈ cs, c.k ∈ keysA ∧ ∀ z, c.x = some z → z.length ≤ 60)
    ⟨_, [], rfl, B1, (Kp.of (same_new hd)).trans k1, (LAt.nil upd_same).kp B0 k1 hdb, rfl, fun c hc => nomatch hc⟩ ?_ ?_
  · rintro i σ H2 hi ⟨c5, cs, rfl, B2, k2, L2, hl, hc⟩
    refine ⟨_, rfl, .inl ⟨rfl, _, SqL.of L2.choose_spec.1⟩, _, rfl, _, rfl, _, rfl, b, p, ks, ts, rfl, B2, ks0, ks1, ts0, ts1, fun a c H3 dc ck _ _ cx B3 k3 => ?_⟩
    obtain ⟨vs, g1, g2, g3⟩ := L2.kp B2 k3 hdb
    have hvl : vs.length = cs.length := by rw [DpAll.len g2, List.length_map]
    refine ⟨d, vs, _, rfl, rfl, g1, (by show vs.length < 16777216; omega), ?_⟩
    refine ⟨_, cs ++ [c], rfl, ?_, (k2.trans k3).updN hd, ?_, by rw [List.length_append]; simp; omega, fun c' hc' => ?_⟩
    · exact B3.updO hdb ((B.ne hd).2)
    · rw [List.map_append]
      exact LAt.push g1 g2 g3 dc (imm_encCh c)
    · rcases List.mem_append.mp hc' with h | h
      · exact hc c' h
      · rw [List.mem_singleton.mp h]; exact ⟨ck, cx⟩
  · rintro σ H2 ⟨c5, cs, rfl, B2, k2, L2, hl, hc⟩
    exact ⟨_, rfl, q d cs H2 L2 hdb (by omega) hc B2 k2⟩
end

/-! ### the law: those that count -/
section
open PySem.W (dataLe dataLt dataLt_cons dataLt_tuple dataLt_str dataLt_int)
/-- the law's entry: key, time, place -/
def enc3 (q : KTm × Nat) : PyData := .tuple [.str q.1.1, .int q.1.2, .int (q.2 : Int)]
theorem imm_enc3 (q : KTm × Nat) : Imm (enc3 q) := .tup fun d hd => by
  rcases List.mem_cons.mp hd with rfl | hd
  · exact .str _
  · rcases List.mem_cons.mp hd with rfl | hd
    · exact .int _
    · rw [List.mem_singleton.mp hd]; exact .int _
theorem enc3_inj {p q : KTm × Nat} (h : enc3 p = enc3 q) : p = q := by
  obtain ⟨⟨a, b⟩, c⟩ := p
  obtain ⟨⟨d, e⟩, f⟩ := q
  unfold enc3 at h
  simp at h
  rw [h.1, h.2.1, show c = f by omega]
theorem dp_enc3 {K : PySem.W.Frag} {H : Hp} {v : V} {q : KTm × Nat} (h : Dp K H v (enc3 q)) : ∃ a, v = .ref a ∧ SqT K H a [.str q.1.1, .int q.1.2, .int (q.2 : Int)] := by
  obtain ⟨a, xs, rfl, h1, h2⟩ := Dp.tupI h
  obtain ⟨x, r, rfl, h3, h4⟩ := DpAll.consI h2
  obtain ⟨y, r2, rfl, h5, h6⟩ := DpAll.consI h4
  obtain ⟨z, r3, rfl, h7, h8⟩ := DpAll.consI h6
  rw [Dp.strI h3, Dp.intI h5, Dp.intI h7, DpAll.nilI h8] at h1
  exact ⟨a, rfl, h1⟩
theorem mk_enc3 {K : PySem.W.Frag} {H : Hp} {a : Addr} {q : KTm × Nat} (h : SqT K H a [.str q.1.1, .int q.1.2, .int (q.2 : Int)]) : Dp K H (.ref a) (enc3 q) := .tup h (.cons (.str _) (.cons (.int _) (.cons (.int _) .nil)))
theorem lt_enc3 {p q : KTm × Nat} (h : dataLt (encKT p.1) (encKT q.1) = true) : dataLt (enc3 p) (enc3 q) = true := by
  obtain ⟨⟨a, b⟩, c⟩ := p
  obtain ⟨⟨d, e⟩, f⟩ := q
  show dataLt (.tuple [.str a, .int b, .int (c : Int)]) (.tuple [.str d, .int e, .int (f : Int)]) = true
  have h : dataLt (.tuple [.str a, .int b]) (.tuple [.str d, .int e]) = true := h
  rw [dataLt_tuple, dataLt_cons (by simp [PySem.W.alike])] at h ⊢
  split at h
  · rename_i c1
    rw [if_pos c1]
    rw [dataLt_cons (by simp [PySem.W.alike])] at h ⊢
    split at h
    · exact absurd h (by rw [PyProof.Rows.lex_irrefl]; exact Bool.false_ne_true)
    · rename_i c2
      rw [if_neg c2]; exact h
  · rename_i c1
    rw [if_neg c1]; exact h
theorem le_enc3 {p q : KTm × Nat} (h : dataLe false id (enc3 p) (enc3 q) = true) : leKT p.1 q.1 = true := by
  have h1 : (!dataLt (enc3 q) (enc3 p)) = true := h
  show (!dataLt (encKT q.1) (encKT p.1)) = true
  cases e : dataLt (encKT q.1) (encKT p.1) with
  | false => rfl
  | true => rw [lt_enc3 e] at h1; cases h1
theorem eqv_strK (x y : Str) : PyData.eqv (.str x) (.str y) = decide (x = y) := by
  simp only [PyData.eqv]
  rw [Bool.eq_iff_iff, beq_iff_eq, decide_eq_true_eq]
theorem eqv_intK (x y : Int) : PyData.eqv (.int x) (.int y) = decide (x = y) := by
  simp only [PyData.eqv]
  rw [Bool.eq_iff_iff, beq_iff_eq, decide_eq_true_eq]
theorem lt_encKT (a b : KTm) : dataLt (encKT a) (encKT b) = if a.1 = b.1 then (if a.2 = b.2 then false else decide (a.2 < b.2)) else decide (tl a.1 < tl b.1) := by
  show dataLt (.tuple [.str a.1, .int a.2]) (.tuple [.str b.1, .int b.2]) = _
  rw [PySem.W.dataLt_pair (by simp [PySem.W.alike]) (by simp [PySem.W.alike]), eqv_strK, eqv_intK, dataLt_str, dataLt_int]
  simp only [decide_eq_true_eq]
theorem leKT_antisymm {a b : KTm} (h1 : leKT a b = true) (h2 : leKT b a = true) : a = b := by
  have e1 : (!dataLt (encKT b) (encKT a)) = true := h1
  have e2 : (!dataLt (encKT a) (encKT b)) = true := h2
  rw [lt_encKT, Bool.not_eq_true'] at e1 e2
  by_cases c1 : a.1 = b.1
  · rw [if_pos c1] at e2
    rw [if_pos c1.symm] at e1
    by_cases c2 : a.2 = b.2
    · exact Prod.ext c1 c2
    · rw [if_neg c2] at e2
      rw [if_neg (Ne.symm c2)] at e1
      have := of_decide_eq_false e1
      have := of_decide_eq_false e2
      exact Prod.ext c1 (by omega)
  · rw [if_neg c1] at e2
    rw [if_neg (Ne.symm c1)] at e1
    exact absurd (ext_tl (List.le_antisymm (List.not_lt.mp (of_decide_eq_false e1)) (List.not_lt.mp (of_decide_eq_false e2)))) c1
theorem sortKT_pairwise (l : List KTm) : (sortKT l).Pairwise fun a b => leKT a b = true := by
  have h4 : ((l.map encKT).mergeSort (dataLe false id)).Pairwise fun a b => dataLe false id a b = true := PySem.W.sort_pairwise (PySem.W.sortLe_total _ false _) (l.map encKT)
  rw [sortKT_map, List.pairwise_map] at h4
  exact h4
theorem sortKT_perm (l : List KTm) : (sortKT l).Perm l := List.mergeSort_perm _ _
/-- one list only is sorted, and has each once -/
theorem sortKT_eq {l m : List KTm} (hs : m.Pairwise fun a b => leKT a b = true) (hn : m.Nodup) (hl : l.Nodup) (h : ∀ p, p ∈ m ↔ p ∈ l) : sortKT l = m :=
  List.Perm.eq_of_pairwise (fun a b _ _ h1 h2 => leKT_antisymm h1 h2) (sortKT_pairwise l) hs ((List.perm_ext_iff_of_nodup ((sortKT_perm l).nodup_iff.mpr hl) hn).mpr fun p => by rw [(sortKT_perm l).mem_iff, h])
/-- the law's entries of the first n changes -/
def dueL (cs : List Ch) (n : Nat) : List (KTm × Nat) := (List.range n).filterMap fun k => match cs[k]? with
  | some c => if c.kt ∈ (cs.drop (k + 1)).map Ch.kt then none else some (c.kt, k)
  | none => none
theorem lastOf_at : ∀ (cs : List Ch) (k : Nat) (c : Ch), cs[k]? = some c → c.kt ∉ (cs.drop (k + 1)).map Ch.kt → lastOf cs c.kt = some c := by
  intro cs
  induction cs using snoc_ind with
  | h0 => intro k c h; simp at h
  | h1 l a ih =>
    intro k c h hn
    rw [lastOf_snoc]
    by_cases e : k < l.length
    · rw [List.getElem?_append_left e] at h
      rw [List.drop_append_of_le_length (by omega), List.map_append, List.mem_append, not_or] at hn
      rw [if_neg (fun z => hn.2 (by rw [← z]; exact List.mem_cons_self)), ih k c h hn.1]
    · have e2 : k = l.length := by
        have := (List.getElem?_eq_some_iff.mp h).1
        rw [List.length_append] at this
        simp at this
        omega
      subst e2
      rw [List.getElem?_concat_length] at h
      rw [Option.some.inj h, if_pos rfl]
theorem mem_due {cs : List Ch} {n : Nat} {q : KTm × Nat} : q ∈ dueL cs n ↔ q.2 < n ∧ ∃ c, cs[q.2]? = some c ∧ c.kt = q.1 ∧ c.kt ∉ (cs.drop (q.2 + 1)).map Ch.kt := by
  unfold dueL
  rw [List.mem_filterMap]
  constructor
  · rintro ⟨k, hk, e⟩
    cases h : cs[k]? with
    | none => rw [h] at e; cases e
    | some c =>
      rw [h] at e
      have e : (if c.kt ∈ (cs.drop (k + 1)).map Ch.kt then none else some (c.kt, k)) = some q := e
      split at e
      · cases e
      · rename_i hn
        have e2 := Option.some.inj e
        subst e2
        exact ⟨List.mem_range.mp hk, c, h, rfl, hn⟩
  · rintro ⟨h1, c, h2, h3, h4⟩
    refine ⟨q.2, List.mem_range.mpr h1, ?_⟩
    rw [h2]
    show (if c.kt ∈ (cs.drop (q.2 + 1)).map Ch.kt then none else some (c.kt, q.2)) = some q
    rw [if_neg h4, h3]
theorem due_keys (cs : List Ch) : ((dueL cs cs.length).map (·.1)).Nodup ∧ ∀ p, p ∈ (dueL cs cs.length).map (·.1) ↔ p ∈ keysOf cs := by
  constructor
  · have pw : (dueL cs cs.length).Pairwise fun a b => a.2 < b.2 := by
      unfold dueL
      refine List.Pairwise.filterMap _ ?_ (List.pairwise_lt_range (n := cs.length))
      intro a b hab x hx y hy
      have key : ∀ (k : Nat) (z : KTm × Nat), (match cs[k]? with | some c => if c.kt ∈ (cs.drop (k + 1)).map Ch.kt then none else some (c.kt, k) | none => none) = some z → z.2 = k := fun k z e => by
        cases h : cs[k]? with
        | none => rw [h] at e; cases e
        | some c =>
          rw [h] at e
          have e : (if c.kt ∈ (cs.drop (k + 1)).map Ch.kt then none else some (c.kt, k)) = some z := e
          split at e
          · cases e
          · rw [← Option.some.inj e]
      rw [key a x hx, key b y hy]; exact hab
    rw [List.Nodup, List.pairwise_map]
    refine List.Pairwise.imp_of_mem (fun {a b} ha hb hab e => ?_) pw
    obtain ⟨_, c, h1, h2, h3⟩ := mem_due.mp ha
    obtain ⟨_, d, g1, g2, _⟩ := mem_due.mp hb
    refine h3 ?_
    rw [h2, e, ← g2]
    refine List.mem_map.mpr ⟨d, ?_, rfl⟩
    refine List.mem_iff_getElem?.mpr ⟨b.2 - (a.2 + 1), ?_⟩
    rw [List.getElem?_drop, show a.2 + 1 + (b.2 - (a.2 + 1)) = b.2 by omega]
    exact g1
  · intro p
    unfold keysOf
    rw [onceK_mem]
    constructor
    · intro h
      obtain ⟨q, hq, rfl⟩ := List.mem_map.mp h
      obtain ⟨_, c, h1, h2, _⟩ := mem_due.mp hq
      exact List.mem_map.mpr ⟨c, List.mem_of_getElem? h1, h2⟩
    · intro h
      have key : ∀ cs : List Ch, ∀ p ∈ cs.map Ch.kt, ∃ (k : Nat) (c : Ch), cs[k]? = some c ∧ c.kt = p ∧ p ∉ (cs.drop (k + 1)).map Ch.kt := by
        intro cs
        induction cs using snoc_ind with
        | h0 => intro p h; exact nomatch h
        | h1 l a ih =>
          intro p h
          by_cases e : a.kt = p
          · exact ⟨l.length, a, List.getElem?_concat_length, e, by rw [List.drop_eq_nil_of_le (by rw [List.length_append]; simp)]; exact fun z => nomatch z⟩
          · rw [List.map_append, List.mem_append] at h
            rcases h with h | h
            · obtain ⟨k, c, h1, h2, h3⟩ := ih p h
              have hk := (List.getElem?_eq_some_iff.mp h1).1
              refine ⟨k, c, by rw [List.getElem?_append_left hk]; exact h1, h2, ?_⟩
              rw [List.drop_append_of_le_length (by omega), List.map_append, List.mem_append, not_or]
              exact ⟨h3, fun z => e (List.mem_singleton.mp z).symm⟩
            · exact absurd (List.mem_singleton.mp h).symm e
      obtain ⟨k, c, h1, h2, h3⟩ := key cs p h
      refine List.mem_map.mpr ⟨(p, k), mem_due.mpr ⟨(List.getElem?_eq_some_iff.mp h1).1, c, h1, h2, by rw [h2]; exact h3⟩, rfl⟩
theorem map_back3 {l : List PyData} {m : List (KTm × Nat)} (h : l.Perm (m.map enc3)) : ∃ m' : List (KTm × Nat), m'.Perm m ∧ l = m'.map enc3 := by
  have key : ∀ {a b : List PyData}, a.Perm b → ∀ m : List (KTm × Nat), b = m.map enc3 → ∃ m' : List (KTm × Nat), m'.Perm m ∧ a = m'.map enc3 := by
    intro a b h
    induction h with
    | nil =>
      intro m e
      exact ⟨[], by rw [List.map_eq_nil_iff.mp e.symm], rfl⟩
    | cons x _ ih =>
      intro m e
      cases m with
      | nil => cases e
      | cons q m =>
        rw [List.map_cons] at e
        obtain ⟨m', h1, h2⟩ := ih m (List.cons.inj e).2
        exact ⟨q :: m', h1.cons q, by rw [List.map_cons, ← h2, (List.cons.inj e).1]⟩
    | swap x y l =>
      intro m e
      match m, e with
      | [], e => cases e
      | [_], e => cases e
      | p :: q :: m, e =>
        rw [List.map_cons, List.map_cons] at e
        obtain ⟨e1, e2⟩ := List.cons.inj e
        obtain ⟨e3, e4⟩ := List.cons.inj e2
        exact ⟨q :: p :: m, List.Perm.swap p q m, by rw [List.map_cons, List.map_cons, e1, e3, e4]⟩
    | trans _ _ ih1 ih2 =>
      intro m e
      obtain ⟨m1, p1, e1⟩ := ih2 m e
      obtain ⟨m2, p2, e2⟩ := ih1 m1 e1
      exact ⟨m2, p2.trans p1, e2⟩
  exact key h m rfl
theorem fmK {α β : Type} {f g : α → Option β} : ∀ {l : List α}, (∀ a ∈ l, f a = g a) → l.filterMap f = l.filterMap g
  | [], _ => rfl
  | a :: r, h => by
    rw [List.filterMap_cons, List.filterMap_cons, h a List.mem_cons_self, fmK fun x hx => h x (List.mem_cons_of_mem _ hx)]
/-- what the law finds are the counted ones -/
theorem due_sorted (cs : List Ch) : ∃ m : List (KTm × Nat), ((dueL cs cs.length).map enc3).mergeSort (dataLe false id) = m.map enc3 ∧ m.Perm (dueL cs cs.length) ∧ countedL cs = m.filterMap fun q => cs[q.2]? := by
  obtain ⟨m, h1, h2⟩ := map_back3 (List.mergeSort_perm ((dueL cs cs.length).map enc3) (dataLe false id))
  refine ⟨m, h2, h1, ?_⟩
  have h4 : (((dueL cs cs.length).map enc3).mergeSort (dataLe false id)).Pairwise fun a b => dataLe false id a b = true := PySem.W.sort_pairwise (PySem.W.sortLe_total _ false _) _
  rw [h2, List.pairwise_map] at h4
  obtain ⟨k1, k2⟩ := due_keys cs
  have e : sortKT (keysOf cs) = m.map (·.1) := sortKT_eq (by rw [List.pairwise_map]; exact h4.imp fun h => le_enc3 h) ((h1.map _).nodup_iff.mpr k1) (onceK_nodup _) fun p => by rw [(h1.map _).mem_iff, k2]
  unfold countedL
  rw [e, List.filterMap_map]
  refine fmK fun q hq => ?_
  obtain ⟨_, c, g1, g2, g3⟩ := mem_due.mp (h1.mem_iff.mp hq)
  show lastOf cs q.1 = _
  rw [g1, ← g2]
  exact lastOf_at cs q.2 c g1 g3
end

theorem cutV_takeA (vs : List V) (a : Nat) : cutV vs none (some (a : Int)) = vs.take a := by
  show (vs.drop 0).take ((if (a : Int) < 0 then ((a : Int) + (vs.length : Int)).toNat else min (a : Int).toNat vs.length) - 0) = _
  rw [if_neg (by omega), List.drop_zero, Int.toNat_natCast, Nat.sub_zero]
  by_cases h : a ≤ vs.length
  · rw [Nat.min_eq_left h]
  · rw [Nat.min_eq_right (by omega), List.take_of_length_le (Nat.le_refl _), List.take_of_length_le (by omega)]
theorem shaped_tk {t : Int} {k : Str} (h : k ∈ keysA) : SeqAt.shaped (.tuple [.int t, .str k]) = true := by
  have e : PyData.strOk k = true := (show ∀ k ∈ keysA, PyData.strOk k = true by decide +kernel) k h
  simp [SeqAt.shaped, PyData.canLay0, PyData.canLayAll0, PyData.depth, PyData.depthAll, e]
theorem eqv_tk {t u : Int} {k l : Str} : PyData.eqv (.tuple [.int t, .str k]) (.tuple [.int u, .str l]) = decide (((k, t) : KTm) = (l, u)) := by
  simp only [PyData.eqv, PyData.eqvAll, Bool.and_true]
  rw [Bool.eq_iff_iff]
  simp
  exact And.comm
theorem LAt.dpL {K : PySem.W.Frag} {H : Hp} {d : Addr} {ds : List PyData} (h : LAt K H d ds) : Dp K H (.ref d) (.list ds) := by
  obtain ⟨vs, h1, h2, _⟩ := h
  exact .lst (SqL.of h1) h2
theorem fits_encCh (c : Ch) : Fits 2 (encCh c) := by
  refine ⟨by show 3 < 2 ^ 60; decide, fun x hx => ?_⟩
  rcases List.mem_cons.mp hx with rfl | hx
  · exact True.intro
  · rcases List.mem_cons.mp hx with rfl | hx
    · exact True.intro
    · rw [List.mem_singleton.mp hx]
      cases c.x <;> exact True.intro
theorem dueL_succ (cs : List Ch) (i : Nat) (h : i < cs.length) : dueL cs (i + 1) = dueL cs i ++ (if cs[i].kt ∈ (cs.drop (i + 1)).map Ch.kt then [] else [(cs[i].kt, i)]) := by
  unfold dueL
  rw [List.range_succ, List.filterMap_append]
  refine congrArg _ ?_
  rw [List.filterMap_cons, List.getElem?_eq_getElem h]
  by_cases c : cs[i].kt ∈ (cs.drop (i + 1)).map Ch.kt
  · rw [if_pos c]
    simp only [c, if_true]
    rfl
  · rw [if_neg c]
    simp only [c, if_false]
    rfl
theorem dueL_len (cs : List Ch) (n : Nat) : (dueL cs n).length ≤ n := by
  unfold dueL
  have := List.length_filterMap_le (fun k => match cs[k]? with
  | some c => if c.kt ∈ (cs.drop (k + 1)).map Ch.kt then none else some (c.kt, k)
  | none => none) (List.range n)
  rw [List.length_range] at this
  exact this
section
variable {P : Program} {w : World} {K : PySem.W.Frag} {mg : Str → Option Value} {base : Heap} {A : Nat → Addr} {D : Nat → FuncData}
theorem ok_law (T : Txt K mg A D) : FnOk P w K mg base CX0 6 (A 8) (D 8) ["script"] (ySpLaw K) := by
  refine T.F_law.ok (k := 5) sc_law (fun vs H Q E h => ?_) (fun cdv A' outer s H vs Q E hr h => ?_)
  · obtain ⟨a, ns, rfl, _⟩ := h; rfl
  obtain ⟨a, ns, rfl, hS, hn, fin⟩ := h
  have hnd := sc_law.nd
  have G__law_draw := ok_draw (P := P) (w := w) (base := base) T
  have G__law_digits := ok_digits (P := P) (w := w) (base := base) T
  have G__law_same := ok_same (P := P) (w := w) (base := base) T 3
  have G__law_told := ok_ltold (P := P) (w := w) (base := base) T
  have G_counted := ok_counted (P := P) (w := w) (base := base) T
  refine ⟨_, (pss_cons (ps_set (i := 3) hnd rfl (Or.inl rfl) (pe_lst (pa_cons (pe_call G__law_digits (hr.mono (by first | decide | omega)) rfl T.m__law_digits T.F__law_digits.kp T.b__law_digits .nil pass0 (pa_cons (pv 0) (pa_cons pe_int (pa_cons pe_int pa_nil)))) (pa_cons pe_int pa_nil)))) (pss_cons (ps_set (i := 4) hnd rfl (Or.inr rfl) (pe_call G__law_told (hr.mono (by first | decide | omega)) rfl T.m__law_told T.F__law_told.kp T.b__law_told .nil pass0 (pa_cons (pv 3) (pa_cons pe_int (pa_cons pe_int (pa_cons pe_int pa_nil)))))) (pss_cons (ps_set (i := 5) hnd rfl (Or.inl rfl) (pe_lst pa_nil)) (pss_cons (ps_for PassesOwn.never rfl (pi_range1 rfl T.z_range (pa_cons (pe_callB call_len_seq rfl T.z_len PySem.boot_len (pa_cons (pv 4) pa_nil)) pa_nil)) (pg_name (i := 6) hnd rfl (Or.inr rfl)) (pss_cons (ps_setLc (i := 7) (own := [("change", 1)]) rfl hnd rfl rfl (sw_true rfl rfl rfl (by decide +kernel)) (pi_list (pe_slice sl_list (pv 4) (po_some (pe_op op_add (pv 6) pe_int)) po_none)) (blkOk_by (own := [("change", 1)]) (N := N_law) (sc := defScope s_law) (by decide +kernel)) (fun _ _ _ _ _ => (pg_name (i := 1) hnd rfl (Or.inl rfl))) (fun _ _ _ _ _ => (pts_one (pt_cmpR (r := rEqD K) (op_eqD hr.units) (pe_slice (r := rSlA K) sl_tupA (pv 1) po_none (po_some pe_int)) (pe_slice (r := rSlA K) sl_tupA (pe_ix (r := rIxL K) ix_list (pv 4) (pv 6) (fun _ _ => rfl)) po_none (po_some pe_int)) (nomark _)))) (fun _ _ _ _ _ => (pv 1))) (pss_one (ps_if (pt_cmpR op_eq (pe_callB call_len_seq rfl T.z_len PySem.boot_len (pa_cons (pv 7) pa_nil)) pe_int (nomark _)) (pss_one (ps_expr (pe_bm PySem.F.plainAttrs_list PySem.F.slot_list_append PySem.F.type_list_append mt_append (pv 5) (pa_cons (pe_tup (pa_cons (pe_ix (r := rIxT K) ix_tup (pe_ix (r := rIxL K) ix_list (pv 4) (pv 6) (fun _ _ => rfl)) pe_int (fun _ _ => rfl)) (pa_cons (pe_ix (r := rIxT K) ix_tup (pe_ix (r := rIxL K) ix_list (pv 4) (pv 6) (fun _ _ => rfl)) pe_int (fun _ _ => rfl)) (pa_cons (pv 6) pa_nil)))) pa_nil)))) pss_nil)))) (pss_cons (ps_setLc (i := 8) (own := [("place", 2)]) rfl hnd rfl rfl (sw_true rfl rfl rfl (by decide +kernel)) (pi_list (pe_callB (cr_sortedD hr.units) rfl T.z_sorted (by decide +kernel) (pa_cons (pv 5) pa_nil))) (blkOk_by (own := [("place", 2)]) (N := N_law) (sc := defScope s_law) (by decide +kernel)) (fun _ _ _ _ _ => (pg_name (i := 2) hnd rfl (Or.inl rfl))) (fun _ _ _ _ _ => pts_nil) (fun _ _ _ _ _ => (pe_ix (r := rIxL K) ix_list (pv 4) (pe_ix (r := rIxT K) ix_tup (pv 2) pe_int (fun _ _ => rfl)) (fun _ _ => rfl)))) (pss_one (ps_ret (pe_call G__law_same (hr.mono (by first | decide | omega)) rfl T.m__law_same T.F__law_same.kp T.b__law_same .nil pass0 (pa_cons (pe_call G_counted (hr.mono (by first | decide | omega)) rfl T.m_counted T.F_counted.kp T.b_counted .nil pass0 (pa_cons (pe_lc (own := [("change", 1)]) rfl hnd (pi_list (pv 4)) (blkOk_by (own := [("change", 1)]) (N := N_law) (sc := defScope s_law) (by decide +kernel)) (fun _ _ _ _ _ => (pg_name (i := 1) hnd rfl (Or.inl rfl))) (fun _ _ _ _ _ => pts_nil) (fun _ _ _ _ _ => (pv 1))) pa_nil)) (pa_cons (pv 8) pa_nil)))))))))), ?_⟩
  refine ⟨_, rfl, a, ns, rfl, hS, fun p ds H1 s1 hp0 hp1 hl => ⟨(by show 2 ≤ sizeLine; decide), fun b hb => ?_⟩⟩
  have B1 := box_new hp1 hb
  refine ⟨_, rfl, b, p, _, _, _, rfl, B1, (by decide), (by decide), (by decide), (by decide), (by decide), (by decide), fun d cs H2 L2 hdb hcl hck B2 k2 => ?_⟩
  refine ⟨(by show 0 ≤ sizeLine; decide), fun e he => ?_⟩
  obtain ⟨xs, d1, d2, d3⟩ := L2
  have hxl : xs.length = cs.length := by rw [DpAll.len d2, List.length_map]
  have hed : e ≠ d := fun z => by rw [z, d1] at he; cases he
  have se := same_new (o := .lst []) he
  have hx : ∀ i (hi : i < cs.length), ∃ x, xs[i]? = some x ∧ Dp K H2 x (encCh cs[i]) := fun i hi => by
    obtain ⟨v, hv, dv⟩ := DpAll.get d2 (i := i) (d := encCh cs[i]) (by rw [List.getElem?_map, List.getElem?_eq_getElem hi]; rfl)
    exact ⟨v, hv, dv⟩
  have hc14 : cs.length ≤ 14 := by omega
  refine ⟨_, rfl, d, _, rfl, .inl (SqL.of (se _ _ d1)), _, rfl, (by omega), (by omega), ?_⟩
  rw [show ((xs.length : Nat) : Int).toNat = cs.length by omega]
  refine for_range (n := cs.length) (fun i σ H' => ∃ (c6 c7 : Option V), σ = [some (.ref a), none, none, some (.ref b), some (.ref d), some (.ref e), c6, c7, none] ∧ Same H2 H' ∧ LAt K H' e ((dueL cs i).map enc3))
    ⟨_, _, rfl, se, LAt.nil upd_same⟩ ?_ ?_
  · rintro i σ H3 hi ⟨c6, c7, rfl, s3, L3⟩
    obtain ⟨x, hxi, dx⟩ := hx i hi
    have d3' := s3 _ _ d1
    refine ⟨_, rfl, _, rfl, _, _, rfl, rfl, _, rfl, d, xs, rfl, SqL.of d3', fun pl hpl => ?_⟩
    have sl := same_new (o := .lst (cutV xs (some (0 + (i : Int) + 1)) none)) hpl
    have ecut : cutV xs (some (0 + (i : Int) + 1)) none = xs.drop (i + 1) := by
      rw [show (0 + (i : Int) + 1) = ((i + 1 : Nat) : Int) by omega]; exact cutV_from xs _
    rw [ecut] at sl ⊢
    refine ⟨pl, rfl, ⟨_, SqL.of upd_same⟩, fun DD hDD => ?_⟩
    have sD := same_new (o := .lst []) hDD
    refine lc_it (walk_list (xs := xs.drop (i + 1))) (fun j H' => Same (upd H3 pl (.lst (xs.drop (i + 1)))) H' ∧ ∃ acc, H' DD = some (.lst acc) ∧ acc.length = (((cs.drop (i + 1)).take j).filter fun c => decide (c.kt = cs[i].kt)).length) ⟨sD, [], upd_same, rfl⟩ (fun j H' _ h => SqL.of (h.1 _ _ upd_same)) ?_ ?_
    · rintro j y H' H4 hj ⟨s4, acc, g1, g2⟩ ⟨rfl, hy⟩
      rw [List.length_drop] at hj
      have hj2 : i + 1 + j < cs.length := by omega
      obtain ⟨v, hv, dv⟩ := hx (i + 1 + j) hj2
      rw [List.getElem?_drop] at hy
      have ev : y = v := Option.some.inj (hy.symm.trans hv)
      subst ev
      have s24 : Same H2 H4 := s3.trans (sl.trans s4)
      obtain ⟨ay, rfl, hay⟩ := dp_encCh (Dp.same s24 dv)
      obtain ⟨ax, rfl, hax⟩ := dp_encCh (Dp.same s24 dx)
      have step : ((cs.drop (i + 1)).take (j + 1)) = (cs.drop (i + 1)).take j ++ [cs[i + 1 + j]] := by
        rw [List.take_add_one, List.getElem?_drop, List.getElem?_eq_getElem hj2]; rfl
      refine ⟨rfl, ?_⟩
      refine ⟨_, rfl, _, rfl, slA_use hay fun p1 H5 s5 h5 => ?_⟩
      rw [show (2 : Int) = ((2 : Nat) : Int) by rfl, cutV_takeA] at h5
      have d5 := s5 _ _ (s4 _ _ (sl _ _ d3'))
      refine ⟨_, rfl, _, rfl, d, xs, _, _, rfl, rfl, SqL.of d5, at_of (Int.zero_add _) hxi, _, rfl, slA_use ((TK.same s5).seq hax) fun p2 H6 s6 h6 => ?_⟩
      rw [show (2 : Int) = ((2 : Nat) : Int) by rfl, cutV_takeA] at h6
      have k1 := (hck cs[i + 1 + j] (List.getElem_mem hj2)).1
      have k2 := (hck cs[i] (List.getElem_mem hi)).1
      have e1 : Dp K H6 (.ref p1) (.tuple [.int cs[i + 1 + j].t, .str cs[i + 1 + j].k]) := .tup ((TK.same s6).seq h5) (.cons (.int _) (.cons (.str _) .nil))
      have e2 : Dp K H6 (.ref p2) (.tuple [.int cs[i].t, .str cs[i].k]) := .tup h6 (.cons (.int _) (.cons (.str _) .nil))
      refine ⟨_, _, e1, e2, shaped_tk k1, shaped_tk k2, _, rfl, ?_⟩
      rw [eqv_tk]
      have s46 : Same H4 H6 := s5.trans s6
      have g16 := s46 _ _ g1
      have hacc : acc.length ≤ 14 := by
        have := List.length_filter_le (fun c : Ch => decide (c.kt = cs[i].kt)) ((cs.drop (i + 1)).take j)
        rw [List.length_take, List.length_drop] at this
        omega
      by_cases c : cs[i + 1 + j].kt = cs[i].kt
      · rw [show ((cs[i + 1 + j].k, cs[i + 1 + j].t) : KTm) = (cs[i].k, cs[i].t) from c, decide_eq_true rfl]
        refine iteT ?_
        refine ⟨_, rfl, acc, g16, (by show acc.length < 16777216; omega), same_upd (s4.trans s46) hDD, _, upd_same, ?_⟩
        rw [step, List.filter_append, List.length_append, List.length_append, g2, List.filter_cons_of_pos (p := fun c : Ch => decide (c.kt = cs[i].kt)) (decide_eq_true c)]
        rfl
      · rw [decide_eq_false (show ¬ ((cs[i + 1 + j].k, cs[i + 1 + j].t) : KTm) = (cs[i].k, cs[i].t) from c)]
        refine iteF ⟨s4.trans s46, acc, g16, ?_⟩
        rw [step, List.filter_append, List.length_append, List.filter_cons_of_neg (p := fun c : Ch => decide (c.kt = cs[i].kt)) (by rw [decide_eq_false c]; exact Bool.false_ne_true), g2]
        rfl
    · rintro H4 ⟨s4, acc, g1, g2⟩
      rw [take_all (by rw [List.length_drop, List.length_drop]; omega)] at g2
      have s24 : Same H2 H4 := s3.trans (sl.trans s4)
      have d4 := s24 _ _ d1
      have L4 := (L3.same sl).same s4
      have iff : acc.length = 0 ↔ cs[i].kt ∉ (cs.drop (i + 1)).map Ch.kt := by
        rw [g2, List.length_eq_zero_iff, List.filter_eq_nil_iff]
        constructor
        · intro h z
          obtain ⟨c, hc, e⟩ := List.mem_map.mp z
          exact h c hc (decide_eq_true e)
        · intro h c hc z
          exact h (List.mem_map.mpr ⟨c, hc, of_decide_eq_true z⟩)
      have hsucc := dueL_succ cs i hi
      refine ⟨_, rfl, DD, _, rfl, .inl (SqL.of g1), rfl, _, rfl, ?_⟩
      by_cases c : acc.length = 0
      · rw [c, decide_eq_true (by rfl)]
        refine iteT ?_
        obtain ⟨vs, v1, v2, v3⟩ := L4
        obtain ⟨ax, rfl, hax⟩ := dp_encCh (Dp.same s24 dx)
        refine ⟨_, rfl, .inl ⟨rfl, _, SqL.of v1⟩, ?_⟩
        refine ⟨_, rfl, _, rfl, d, xs, _, _, rfl, rfl, SqL.of d4, at_of (Int.zero_add _) hxi, ax, _, 1, _, rfl, rfl, hax, rfl, ?_⟩
        refine ⟨_, rfl, _, rfl, d, xs, _, _, rfl, rfl, SqL.of d4, at_of (Int.zero_add _) hxi, ax, _, 0, _, rfl, rfl, hax, rfl, ?_⟩
        refine ⟨_, rfl, (by show 3 ≤ sizeLine; decide), fun p7 hp7 => ?_⟩
        have s7 := same_new (o := .tup [.str cs[i].k, .int cs[i].t, .int (0 + (i : Int))]) hp7
        have hvl : vs.length ≤ 14 := by
          have := DpAll.len v2
          rw [List.length_map] at this
          have := dueL_len cs i
          omega
        refine ⟨e, vs, _, rfl, rfl, s7 _ _ v1, (by show vs.length < 16777216; omega), ?_⟩
        refine ⟨_, _, rfl, same_upd (s24.trans s7) he, ?_⟩
        rw [hsucc, if_neg (iff.mp c), List.map_append]
        refine LAt.push (s7 _ _ v1) (DpAll.same s7 v2) v3 ?_ (imm_enc3 _)
        refine mk_enc3 (q := (cs[i].kt, i)) ?_
        show SqT K _ p7 [.str cs[i].k, .int cs[i].t, .int ((i : Nat) : Int)]
        rw [Int.zero_add]
        exact SqT.of upd_same
      · rw [decide_eq_false (fun z => c (by have := V.int.inj z; omega))]
        refine iteF ?_
        refine ⟨_, _, rfl, s24, ?_⟩
        have c' : cs[i].kt ∈ (cs.drop (i + 1)).map Ch.kt := Classical.byContradiction fun z => c (iff.mpr z)
        rw [hsucc, if_pos c', List.append_nil]
        exact L4
  · rintro σ H3 ⟨c6, c7, rfl, s3, L3⟩
    obtain ⟨vs, v1, v2, v3⟩ := L3
    obtain ⟨m, m1, m2, m3⟩ := due_sorted cs
    have hvl : vs.length = (dueL cs cs.length).length := by rw [DpAll.len v2, List.length_map]
    have hd14 := dueL_len cs cs.length
    refine ⟨_, rfl, e, vs, (dueL cs cs.length).map enc3, rfl, SqL.of v1, v2, PySem.W.AllAlike.of (fun p q => by unfold enc3; simp [PySem.W.alike, PySem.W.alikeAll]), PySem.W.Sortable.tuples (fun p => ⟨_, _, rfl⟩), fun z hz => ?_, fun r ws hr0 hws hwl => ?_⟩
    · obtain ⟨q, _, rfl⟩ := List.mem_map.mp hz
      unfold enc3
      simp [PyData.depth, PyData.depthAll]
    rw [m1] at hws
    have sr := same_new (o := .lst ws) hr0
    have s23 := s3.trans sr
    refine ⟨r, rfl, ⟨_, SqL.of upd_same⟩, fun F hF => ?_⟩
    have sF := same_new (o := .lst []) hF
    have hml : ws.length = m.length := by rw [DpAll.len hws, List.length_map]
    refine lc_it (walk_list (xs := ws)) (fun j H' => Same (upd H3 r (.lst ws)) H' ∧ LAt K H' F (((m.take j).filterMap fun q => cs[q.2]?).map encCh)) ⟨sF, LAt.nil upd_same⟩ (fun j H' _ h => SqL.of (h.1 _ _ upd_same)) ?_ ?_
    · rintro j y H' H4 hj ⟨s4, acc, g1, g2, g3⟩ ⟨rfl, hy⟩
      have hjm : j < m.length := by omega
      obtain ⟨v, hv, dv⟩ := DpAll.get hws (i := j) (d := enc3 m[j]) (by rw [List.getElem?_map, List.getElem?_eq_getElem hjm]; rfl)
      have ev : y = v := Option.some.inj (hy.symm.trans hv)
      subst ev
      obtain ⟨ay, rfl, hay⟩ := dp_enc3 (Dp.same (sr.trans s4) dv)
      obtain ⟨hlt, c, c1, c2, _⟩ := mem_due.mp (m2.mem_iff.mp (List.getElem_mem hjm))
      obtain ⟨x, hxi, dx⟩ := hx m[j].2 hlt
      have d5 := s4 _ _ (s23 _ _ d1)
      refine ⟨rfl, _, rfl, _, rfl, ay, _, 2, _, rfl, rfl, hay, rfl, d, xs, _, _, rfl, rfl, SqL.of d5, atI_nat hxi, acc, g1, ?_, same_upd s4 hF, ?_⟩
      · have e1 := DpAll.len g2
        rw [List.length_map] at e1
        have e2 := List.length_filterMap_le (fun q : KTm × Nat => cs[q.2]?) (m.take j)
        have e3 := List.length_take_le j m
        have e4 := m2.length_eq
        show acc.length < 16777216
        omega
      · rw [List.take_add_one, List.getElem?_eq_getElem hjm, List.filterMap_append, List.map_append]
        have e1 : List.filterMap (fun q : KTm × Nat => cs[q.2]?) (some m[j]).toList = [cs[m[j].2]] := by
          show List.filterMap (fun q : KTm × Nat => cs[q.2]?) [m[j]] = _
          rw [List.filterMap_cons, List.getElem?_eq_getElem hlt]; rfl
        rw [e1]
        exact LAt.push g1 g2 g3 (Dp.same (s23.trans s4) dx) (imm_encCh _)
    · rintro H4 ⟨s4, L4⟩
      rw [take_all (Nat.le_of_eq hml.symm), ← m3] at L4
      have d5 := s4 _ _ (s23 _ _ d1)
      have s24 := s23.trans s4
      refine ⟨_, rfl, d, rfl, ⟨_, SqL.of d5⟩, fun G hG => ?_⟩
      have sG := same_new (o := .lst []) hG
      refine lc_it (walk_list (xs := xs)) (fun j H' => Same H4 H' ∧ LAt K H' G ((cs.take j).map encCh)) ⟨sG, LAt.nil upd_same⟩ (fun j H' _ h => SqL.of (h.1 _ _ d5)) ?_ ?_
      · rintro j y H' H5 hj ⟨s5, acc, g1, g2, g3⟩ ⟨rfl, hy⟩
        have hjc : j < cs.length := by omega
        obtain ⟨v, hv, dv⟩ := hx j hjc
        have ev : y = v := Option.some.inj (hy.symm.trans hv)
        subst ev
        refine ⟨rfl, _, rfl, acc, g1, ?_, same_upd s5 hG, ?_⟩
        · have e1 := DpAll.len g2
          rw [List.length_map, List.length_take] at e1
          show acc.length < 16777216
          omega
        · rw [← take_succ_map (List.getElem?_eq_getElem hjc)]
          exact LAt.push g1 g2 g3 (Dp.same (s24.trans s5) dv) (imm_encCh _)
      · rintro H5 ⟨s5, L5⟩
        rw [take_all (Nat.le_of_eq hxl.symm)] at L5
        obtain ⟨ys, g1, g2, g3⟩ := L5
        refine ⟨G, ys, cs, rfl, SqL.of g1, g2, (by omega), fun H6 r6 s6 hr6 L6 => ?_⟩
        refine ⟨_, rfl, .ref r6, .ref F, .list ((countedL cs).map encCh), rfl, L6.dpL, ((L4.same s5).same s6).dpL, ⟨?_, fun x hx => ?_⟩, fin _⟩
        · have e1 := DpAll.len L4.choose_spec.2.1
          have e2 : (countedL cs).length ≤ 14 := by
            rw [m3]
            have e2 := List.length_filterMap_le (fun q : KTm × Nat => cs[q.2]?) m
            have e4 := m2.length_eq
            omega
          rw [List.length_map]; omega
        · obtain ⟨c, _, rfl⟩ := List.mem_map.mp hx
          exact fits_encCh c
end

theorem all_mk {l : PySem.W.OpenLaw} {w : World} {K : PySem.W.Frag} {h : Heap} {mg : Str → Option Value} {fa f0 f1 f2 f3 f4 f5 f6 f7 f8 : Addr} (X : K.In h) (G : h.Ns mainGlobals mg) (hfa : mg "law" = some (.ref fa))
    {od0 od1 od2 od3 od4 od5 od6 od7 od8 an0 an1 an2 an3 an4 an5 an6 an7 an8 : Option Addr} {sl0 sl1 sl2 sl3 sl4 sl5 sl6 sl7 sl8 : Array (Option Value)} {oc0 oc1 oc2 oc3 oc4 oc5 oc6 oc7 oc8 kV0 kV1 kV2 kV3 kV4 kV5 kV6 kV7 kV8 dc0 dc1 dc2 dc3 dc4 dc5 dc6 dc7 dc8 pm0 pm1 pm2 pm3 pm4 pm5 pm6 pm7 pm8 cd0 cd1 cd2 cd3 cd4 cd5 cd6 cd7 cd8 ct0 ct1 ct2 ct3 ct4 ct5 ct6 ct7 ct8 : Value}
    (a0 : PySem.W.nsIn K mainGlobals "counted" = some (some (.ref f0))) (l0 : K.lookup f0 = some ⟨oc0, od0, .func (PySem.W.fnOf "counted" "counted" (defArgs s_counted) (defBody s_counted) (defScope s_counted) .none kV0 dc0 pm0 an0 cd0 ct0), sl0⟩) (c0 : PySem.W.codeIn K cd0 "counted" = true) (k0 : PySem.W.keepIn K (.ref f0) = true)
    (a1 : PySem.W.nsIn K mainGlobals "_law_cell" = some (some (.ref f1))) (l1 : K.lookup f1 = some ⟨oc1, od1, .func (PySem.W.fnOf "_law_cell" "_law_cell" (defArgs s__law_cell) (defBody s__law_cell) (defScope s__law_cell) .none kV1 dc1 pm1 an1 cd1 ct1), sl1⟩) (c1 : PySem.W.codeIn K cd1 "_law_cell" = true) (k1 : PySem.W.keepIn K (.ref f1) = true)
    (a2 : PySem.W.nsIn K mainGlobals "_law_digits" = some (some (.ref f2))) (l2 : K.lookup f2 = some ⟨oc2, od2, .func (PySem.W.fnOf "_law_digits" "_law_digits" (defArgs s__law_digits) (defBody s__law_digits) (defScope s__law_digits) .none kV2 dc2 pm2 an2 cd2 ct2), sl2⟩) (c2 : PySem.W.codeIn K cd2 "_law_digits" = true) (k2 : PySem.W.keepIn K (.ref f2) = true)
    (a3 : PySem.W.nsIn K mainGlobals "_law_draw" = some (some (.ref f3))) (l3 : K.lookup f3 = some ⟨oc3, od3, .func (PySem.W.fnOf "_law_draw" "_law_draw" (defArgs s__law_draw) (defBody s__law_draw) (defScope s__law_draw) .none kV3 dc3 pm3 an3 cd3 ct3), sl3⟩) (c3 : PySem.W.codeIn K cd3 "_law_draw" = true) (k3 : PySem.W.keepIn K (.ref f3) = true)
    (a4 : PySem.W.nsIn K mainGlobals "_law_same" = some (some (.ref f4))) (l4 : K.lookup f4 = some ⟨oc4, od4, .func (PySem.W.fnOf "_law_same" "_law_same" (defArgs s__law_same) (defBody s__law_same) (defScope s__law_same) .none kV4 dc4 pm4 an4 cd4 ct4), sl4⟩) (c4 : PySem.W.codeIn K cd4 "_law_same" = true) (k4 : PySem.W.keepIn K (.ref f4) = true)
    (a5 : PySem.W.nsIn K mainGlobals "_law_text" = some (some (.ref f5))) (l5 : K.lookup f5 = some ⟨oc5, od5, .func (PySem.W.fnOf "_law_text" "_law_text" (defArgs s__law_text) (defBody s__law_text) (defScope s__law_text) .none kV5 dc5 pm5 an5 cd5 ct5), sl5⟩) (c5 : PySem.W.codeIn K cd5 "_law_text" = true) (k5 : PySem.W.keepIn K (.ref f5) = true)
    (a6 : PySem.W.nsIn K mainGlobals "_law_change" = some (some (.ref f6))) (l6 : K.lookup f6 = some ⟨oc6, od6, .func (PySem.W.fnOf "_law_change" "_law_change" (defArgs s__law_change) (defBody s__law_change) (defScope s__law_change) .none kV6 dc6 pm6 an6 cd6 ct6), sl6⟩) (c6 : PySem.W.codeIn K cd6 "_law_change" = true) (k6 : PySem.W.keepIn K (.ref f6) = true)
    (a7 : PySem.W.nsIn K mainGlobals "_law_told" = some (some (.ref f7))) (l7 : K.lookup f7 = some ⟨oc7, od7, .func (PySem.W.fnOf "_law_told" "_law_told" (defArgs s__law_told) (defBody s__law_told) (defScope s__law_told) .none kV7 dc7 pm7 an7 cd7 ct7), sl7⟩) (c7 : PySem.W.codeIn K cd7 "_law_told" = true) (k7 : PySem.W.keepIn K (.ref f7) = true)
    (a8 : PySem.W.nsIn K mainGlobals "law" = some (some (.ref f8))) (l8 : K.lookup f8 = some ⟨oc8, od8, .func (PySem.W.fnOf "law" "law" (defArgs s_law) (defBody s_law) (defScope s_law) .none kV8 dc8 pm8 an8 cd8 ct8), sl8⟩) (c8 : PySem.W.codeIn K cd8 "law" = true) (k8 : PySem.W.keepIn K (.ref f8) = true)
    (z0 : PySem.W.nsIn K mainGlobals "bool" = some none)
    (z1 : PySem.W.nsIn K mainGlobals "int" = some none)
    (z2 : PySem.W.nsIn K mainGlobals "isinstance" = some none)
    (z3 : PySem.W.nsIn K mainGlobals "len" = some none)
    (z4 : PySem.W.nsIn K mainGlobals "list" = some none)
    (z5 : PySem.W.nsIn K mainGlobals "range" = some none)
    (z6 : PySem.W.nsIn K mainGlobals "sorted" = some none)
    (z7 : PySem.W.nsIn K mainGlobals "str" = some none)
    (z8 : PySem.W.nsIn K mainGlobals "tuple" = some none)
    : ∃ fd : FuncData, (∀ (s : Shared) (v : Value), BindsTo s fd ⟨[v], []⟩ [("script", v)]) ∧ ∀ base : Heap, K.In base → base.Ns mainGlobals mg → FnOk l.prog w K mg base CX0 6 fa fd ["script"] (ySpLaw K) := by
  have e := hfa.symm.trans (PySem.W.mg_of X G a8)
  cases e
  have F0 := fun_mk (st := s_counted) l0 c0 k0
  have F1 := fun_mk (st := s__law_cell) l1 c1 k1
  have F2 := fun_mk (st := s__law_digits) l2 c2 k2
  have F3 := fun_mk (st := s__law_draw) l3 c3 k3
  have F4 := fun_mk (st := s__law_same) l4 c4 k4
  have F5 := fun_mk (st := s__law_text) l5 c5 k5
  have F6 := fun_mk (st := s__law_change) l6 c6 k6
  have F7 := fun_mk (st := s__law_told) l7 c7 k7
  have F8 := fun_mk (st := s_law) l8 c8 k8
  have b0 := F0.binds (ps := ["changes"]) fun _ _ _ _ _ _ us hl => match us, hl with | [_], _ => rfl
  have b1 := F1.binds (ps := ["script", "k"]) fun _ _ _ _ _ _ us hl => match us, hl with | [_, _], _ => rfl
  have b2 := F2.binds (ps := ["script", "first", "last"]) fun _ _ _ _ _ _ us hl => match us, hl with | [_, _, _], _ => rfl
  have b3 := F3.binds (ps := ["box", "many"]) fun _ _ _ _ _ _ us hl => match us, hl with | [_, _], _ => rfl
  have b4 := F4.binds (ps := ["actual", "due"]) fun _ _ _ _ _ _ us hl => match us, hl with | [_, _], _ => rfl
  have b5 := F5.binds (ps := ["box"]) fun _ _ _ _ _ _ us hl => match us, hl with | [_], _ => rfl
  have b6 := F6.binds (ps := ["box", "keys", "times"]) fun _ _ _ _ _ _ us hl => match us, hl with | [_, _, _], _ => rfl
  have b7 := F7.binds (ps := ["box", "most", "keys", "times"]) fun _ _ _ _ _ _ us hl => match us, hl with | [_, _, _, _], _ => rfl
  have b8 := F8.binds (ps := ["script"]) fun _ _ _ _ _ _ us hl => match us, hl with | [_], _ => rfl
  let AA : Nat → Addr := fun i => match i with | 0 => f0 | 1 => f1 | 2 => f2 | 3 => f3 | 4 => f4 | 5 => f5 | 6 => f6 | 7 => f7 | 8 => fa | _ => fa
  let DD : Nat → FuncData := fun i => match i with | 0 => PySem.W.fnOf "counted" "counted" (defArgs s_counted) (defBody s_counted) (defScope s_counted) .none kV0 dc0 pm0 an0 cd0 ct0 | 1 => PySem.W.fnOf "_law_cell" "_law_cell" (defArgs s__law_cell) (defBody s__law_cell) (defScope s__law_cell) .none kV1 dc1 pm1 an1 cd1 ct1 | 2 => PySem.W.fnOf "_law_digits" "_law_digits" (defArgs s__law_digits) (defBody s__law_digits) (defScope s__law_digits) .none kV2 dc2 pm2 an2 cd2 ct2 | 3 => PySem.W.fnOf "_law_draw" "_law_draw" (defArgs s__law_draw) (defBody s__law_draw) (defScope s__law_draw) .none kV3 dc3 pm3 an3 cd3 ct3 | 4 => PySem.W.fnOf "_law_same" "_law_same" (defArgs s__law_same) (defBody s__law_same) (defScope s__law_same) .none kV4 dc4 pm4 an4 cd4 ct4 | 5 => PySem.W.fnOf "_law_text" "_law_text" (defArgs s__law_text) (defBody s__law_text) (defScope s__law_text) .none kV5 dc5 pm5 an5 cd5 ct5 | 6 => PySem.W.fnOf "_law_change" "_law_change" (defArgs s__law_change) (defBody s__law_change) (defScope s__law_change) .none kV6 dc6 pm6 an6 cd6 ct6 | 7 => PySem.W.fnOf "_law_told" "_law_told" (defArgs s__law_told) (defBody s__law_told) (defScope s__law_told) .none kV7 dc7 pm7 an7 cd7 ct7 | 8 => PySem.W.fnOf "law" "law" (defArgs s_law) (defBody s_law) (defScope s_law) .none kV8 dc8 pm8 an8 cd8 ct8 | _ => PySem.W.fnOf "law" "law" (defArgs s_law) (defBody s_law) (defScope s_law) .none kV8 dc8 pm8 an8 cd8 ct8
  have T : Txt K mg AA DD := { F_counted := F0, b_counted := b0, m_counted := PySem.W.mg_of X G a0, F__law_cell := F1, b__law_cell := b1, m__law_cell := PySem.W.mg_of X G a1, F__law_digits := F2, b__law_digits := b2, m__law_digits := PySem.W.mg_of X G a2, F__law_draw := F3, b__law_draw := b3, m__law_draw := PySem.W.mg_of X G a3, F__law_same := F4, b__law_same := b4, m__law_same := PySem.W.mg_of X G a4, F__law_text := F5, b__law_text := b5, m__law_text := PySem.W.mg_of X G a5, F__law_change := F6, b__law_change := b6, m__law_change := PySem.W.mg_of X G a6, F__law_told := F7, b__law_told := b7, m__law_told := PySem.W.mg_of X G a7, F_law := F8, b_law := b8, m_law := PySem.W.mg_of X G a8, z_bool := PySem.W.mg_none_of X G z0, z_int := PySem.W.mg_none_of X G z1, z_isinstance := PySem.W.mg_none_of X G z2, z_len := PySem.W.mg_none_of X G z3, z_list := PySem.W.mg_none_of X G z4, z_range := PySem.W.mg_none_of X G z5, z_sorted := PySem.W.mg_none_of X G z6, z_str := PySem.W.mg_none_of X G z7, z_tuple := PySem.W.mg_none_of X G z8 }
  exact ⟨DD 8, fun s v => .of_eq rfl, fun base _ _ => ok_law (A := AA) (D := DD) T⟩
theorem walk {l : PySem.W.OpenLaw} {q : Program} {loose : List Str} {XP : (Str → Option Value) → Heap → Prop} {YP : World → Heap → Prop} {d : DefRec} {K : Params → PySem.W.Frag} (hn : l.most = some 63) (hdf : d.params.defaults = [])
    (hY : ∀ (w : World) (h : Heap), YP w h → (K w.params).In h)
    (F : ∀ (w : World) (mg : Str → Option Value) (fa : Addr) (h : Heap), (K w.params).In h → h.Ns mainGlobals mg → mg d.name = some (.ref fa) →
      ∃ fd : FuncData, (∀ (s : Shared) (u : Value), BindsTo s fd ⟨[u], []⟩ [("script", u)]) ∧ ∀ base : Heap, (K w.params).In base → base.Ns mainGlobals mg → FnOk l.prog w (K w.params) mg base CX0 6 fa fd ["script"] (ySpLaw (K w.params))) :
    PySem.W.WalkO q loose XP YP l.row.toRowW d [] (fun f vs => PySem.call f vs) :=
  L2.walk_of (n := 63) (k := 6) (x := "script") (CX := fun _ => CX0) (sp := fun w => ySpLaw (K w.params)) hn (by decide) hdf ⟨rfl, by decide, by decide⟩ hY F (fun _ _ a ns hl _ hS => ⟨a, ns, rfl, hS, hl, fun _ => rfl⟩) fun _ _ _ _ _ z => z
end Z
open PySem PySem.W PyProof.Rows
set_option maxRecDepth 100000 in
set_option maxHeartbeats 0 in
theorem PySem.Challenge.cw_timeshelf_k18_changes_that_count_holds : PySem.Challenge.rw_timeshelf_k18_changes_that_count.Holds := by
  w_on; o_law; k_head; (case hw => w_witness2)
  k_fill
  refine Z.walk (l := PySem.Challenge.rw_timeshelf_k18_changes_that_count) rfl rfl (fun w h Y => PySem.W.kIn_of Y) ?F
  case F =>
    intro w mg fa h KX G hmg
    refine' Z.all_mk KX G hmg ?a0 ?l0 ?c0 ?k0 ?a1 ?l1 ?c1 ?k1 ?a2 ?l2 ?c2 ?k2 ?a3 ?l3 ?c3 ?k3 ?a4 ?l4 ?c4 ?k4 ?a5 ?l5 ?c5 ?k5 ?a6 ?l6 ?c6 ?k6 ?a7 ?l7 ?c7 ?k7 ?a8 ?l8 ?c8 ?k8 ?z0 ?z1 ?z2 ?z3 ?z4 ?z5 ?z6 ?z7 ?z8
    (case a0 => first | k_is | rfl | decide +kernel)
    (case l0 => first | k_is | rfl | decide +kernel)
    (case c0 => first | k_is | rfl | decide +kernel)
    (case k0 => first | k_is | rfl | decide +kernel)
    (case a1 => first | k_is | rfl | decide +kernel)
    (case l1 => first | k_is | rfl | decide +kernel)
    (case c1 => first | k_is | rfl | decide +kernel)
    (case k1 => first | k_is | rfl | decide +kernel)
    (case a2 => first | k_is | rfl | decide +kernel)
    (case l2 => first | k_is | rfl | decide +kernel)
    (case c2 => first | k_is | rfl | decide +kernel)
    (case k2 => first | k_is | rfl | decide +kernel)
    (case a3 => first | k_is | rfl | decide +kernel)
    (case l3 => first | k_is | rfl | decide +kernel)
    (case c3 => first | k_is | rfl | decide +kernel)
    (case k3 => first | k_is | rfl | decide +kernel)
    (case a4 => first | k_is | rfl | decide +kernel)
    (case l4 => first | k_is | rfl | decide +kernel)
    (case c4 => first | k_is | rfl | decide +kernel)
    (case k4 => first | k_is | rfl | decide +kernel)
    (case a5 => first | k_is | rfl | decide +kernel)
    (case l5 => first | k_is | rfl | decide +kernel)
    (case c5 => first | k_is | rfl | decide +kernel)
    (case k5 => first | k_is | rfl | decide +kernel)
    (case a6 => first | k_is | rfl | decide +kernel)
    (case l6 => first | k_is | rfl | decide +kernel)
    (case c6 => first | k_is | rfl | decide +kernel)
    (case k6 => first | k_is | rfl | decide +kernel)
    (case a7 => first | k_is | rfl | decide +kernel)
    (case l7 => first | k_is | rfl | decide +kernel)
    (case c7 => first | k_is | rfl | decide +kernel)
    (case k7 => first | k_is | rfl | decide +kernel)
    (case a8 => first | k_is | rfl | decide +kernel)
    (case l8 => first | k_is | rfl | decide +kernel)
    (case c8 => first | k_is | rfl | decide +kernel)
    (case k8 => first | k_is | rfl | decide +kernel)
    (case z0 => first | k_is | rfl | decide +kernel)
    (case z1 => first | k_is | rfl | decide +kernel)
    (case z2 => first | k_is | rfl | decide +kernel)
    (case z3 => first | k_is | rfl | decide +kernel)
    (case z4 => first | k_is | rfl | decide +kernel)
    (case z5 => first | k_is | rfl | decide +kernel)
    (case z6 => first | k_is | rfl | decide +kernel)
    (case z7 => first | k_is | rfl | decide +kernel)
    (case z8 => first | k_is | rfl | decide +kernel)
