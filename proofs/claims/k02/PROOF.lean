import PyProof.Rows.All
import Wide.All
import OpenK.AllK
import Wide.FinOn
import HandS.Zip
import KE.KDictZip
import HandS.GenList
import PyProof.ListNew
import HandS.ForMost
import HandS.IsInst
import HandS.TupAny
import HandS.Comp
import HandS.Iter
import HandS.Walk
import PySem.Challenge.RW_timeshelf_k02_spans_and_lengths
set_option Elab.async false
set_option linter.all false
set_option maxRecDepth 100000
set_option maxHeartbeats 2000000
namespace Z
open PySem L2
def top (i : Nat) : Stmt := PySem.Challenge.pw_timeshelf_k02_spans_and_lengths.main.body.getD i (.Pass ⟨0, 0, 0, 0⟩)
abbrev s_of_span : Stmt := top 1
abbrev N_of_span : List Str := ["start", "end"]
theorem sc_of_span : FnScope ["start", "end"] ["start", "end"] (defScope s_of_span) := ⟨rfl, rfl, rfl, by decide +kernel, rfl, by decide +kernel, by decide +kernel⟩
abbrev s_spans : Stmt := top 2
abbrev N_spans : List Str := ["timeline", "ends"]
theorem sc_spans : FnScope ["timeline", "ends"] ["timeline"] (defScope s_spans) := ⟨rfl, rfl, rfl, by decide +kernel, rfl, by decide +kernel, by decide +kernel⟩
abbrev s_length_before : Stmt := top 3
abbrev N_length_before : List Str := ["timeline", "time", "total", "start", "end", "last"]
theorem sc_length_before : FnScope ["timeline", "time", "total", "start", "end", "last"] ["timeline", "time"] (defScope s_length_before) := ⟨rfl, rfl, rfl, by decide +kernel, rfl, by decide +kernel, by decide +kernel⟩
abbrev s__law_cell : Stmt := top 5
abbrev N__law_cell : List Str := ["script", "k"]
theorem sc__law_cell : FnScope ["script", "k"] ["script", "k"] (defScope s__law_cell) := ⟨rfl, rfl, rfl, by decide +kernel, rfl, by decide +kernel, by decide +kernel⟩
abbrev s__law_digits : Stmt := top 6
abbrev N__law_digits : List Str := ["script", "first", "last", "digits", "k", "cell", "turn", "seed"]
theorem sc__law_digits : FnScope ["script", "first", "last", "digits", "k", "cell", "turn", "seed"] ["script", "first", "last"] (defScope s__law_digits) := ⟨rfl, rfl, rfl, by decide +kernel, rfl, by decide +kernel, by decide +kernel⟩
abbrev s__law_draw : Stmt := top 7
abbrev N__law_draw : List Str := ["box", "many", "at"]
theorem sc__law_draw : FnScope ["box", "many", "at"] ["box", "many"] (defScope s__law_draw) := ⟨rfl, rfl, rfl, by decide +kernel, rfl, by decide +kernel, by decide +kernel⟩
abbrev s__law_same : Stmt := top 8
abbrev N__law_same : List Str := ["actual", "due", "k"]
theorem sc__law_same : FnScope ["actual", "due", "k"] ["actual", "due"] (defScope s__law_same) := ⟨rfl, rfl, rfl, by decide +kernel, rfl, by decide +kernel, by decide +kernel⟩
abbrev s__law_timeline : Stmt := top 9
abbrev N__law_timeline : List Str := ["box", "most", "points", "time", "k"]
theorem sc__law_timeline : FnScope ["box", "most", "points", "time", "k"] ["box", "most"] (defScope s__law_timeline) := ⟨rfl, rfl, rfl, by decide +kernel, rfl, by decide +kernel, by decide +kernel⟩
abbrev s__law_is_in : Stmt := top 10
abbrev N__law_is_in : List Str := ["timeline", "time", "inside", "point"]
theorem sc__law_is_in : FnScope ["timeline", "time", "inside", "point"] ["timeline", "time"] (defScope s__law_is_in) := ⟨rfl, rfl, rfl, by decide +kernel, rfl, by decide +kernel, by decide +kernel⟩
abbrev s_law : Stmt := top 11
abbrev N_law : List Str := ["script", "point", "k", "box", "timeline", "due", "span", "turn", "time", "count", "far", "more"]
theorem sc_law : FnScope ["script", "point", "k", "box", "timeline", "due", "span", "turn", "time", "count", "far", "more"] ["script"] (defScope s_law) := ⟨rfl, rfl, rfl, by decide +kernel, rfl, by decide +kernel, by decide +kernel⟩
structure Txt (K : PySem.W.Frag) (mg : Str → Option Value) (A : Nat → Addr) (D : Nat → FuncData) : Prop where
  F_of_span : Fun K "of_span" "of_span" s_of_span (A 0) (D 0)
  b_of_span : Binds K (D 0) ["start", "end"] []
  m_of_span : mg "of_span" = some (.ref (A 0))
  F_spans : Fun K "spans" "spans" s_spans (A 1) (D 1)
  b_spans : Binds K (D 1) ["timeline"] []
  m_spans : mg "spans" = some (.ref (A 1))
  F_length_before : Fun K "length_before" "length_before" s_length_before (A 2) (D 2)
  b_length_before : Binds K (D 2) ["timeline", "time"] []
  m_length_before : mg "length_before" = some (.ref (A 2))
  F__law_cell : Fun K "_law_cell" "_law_cell" s__law_cell (A 3) (D 3)
  b__law_cell : Binds K (D 3) ["script", "k"] []
  m__law_cell : mg "_law_cell" = some (.ref (A 3))
  F__law_digits : Fun K "_law_digits" "_law_digits" s__law_digits (A 4) (D 4)
  b__law_digits : Binds K (D 4) ["script", "first", "last"] []
  m__law_digits : mg "_law_digits" = some (.ref (A 4))
  F__law_draw : Fun K "_law_draw" "_law_draw" s__law_draw (A 5) (D 5)
  b__law_draw : Binds K (D 5) ["box", "many"] []
  m__law_draw : mg "_law_draw" = some (.ref (A 5))
  F__law_same : Fun K "_law_same" "_law_same" s__law_same (A 6) (D 6)
  b__law_same : Binds K (D 6) ["actual", "due"] []
  m__law_same : mg "_law_same" = some (.ref (A 6))
  F__law_timeline : Fun K "_law_timeline" "_law_timeline" s__law_timeline (A 7) (D 7)
  b__law_timeline : Binds K (D 7) ["box", "most"] []
  m__law_timeline : mg "_law_timeline" = some (.ref (A 7))
  F__law_is_in : Fun K "_law_is_in" "_law_is_in" s__law_is_in (A 8) (D 8)
  b__law_is_in : Binds K (D 8) ["timeline", "time"] []
  m__law_is_in : mg "_law_is_in" = some (.ref (A 8))
  F_law : Fun K "law" "law" s_law (A 9) (D 9)
  b_law : Binds K (D 9) ["script"] []
  m_law : mg "law" = some (.ref (A 9))
  z_bool : mg "bool" = none
  z_int : mg "int" = none
  z_isinstance : mg "isinstance" = none
  z_len : mg "len" = none
  z_list : mg "list" = none
  z_min : mg "min" = none
  z_range : mg "range" = none
  z_str : mg "str" = none
  z_tuple : mg "tuple" = none
  z_zip : mg "zip" = none
/-! ### what all laws share: cells, digits, draws -/
theorem same_upd {H H' : Hp} {p : Addr} {o : HO} (h : Same H H') (hp : H p = none) : Same H (upd H' p o) := fun b u q => by
  rw [upd_ne (ne_of_none q hp)]; exact h b u q
theorem same_new {H : Hp} {p : Addr} {o : HO} (h : H p = none) : Same H (upd H p o) := same_upd (Same.refl H) h
def yCell (K : PySem.W.Frag) : Sp := fun vs H Q _ => ∃ (l : Addr) (ns : List Int) (k : Nat), vs = [.ref l, .int (k : Int)] ∧ SqL K H l (ns.map V.int) ∧ ∀ z : Int, Q (.int z) H
theorem at_ints {ns : List Int} {k : Nat} (h : k < ns.length) : atI (ns.map V.int) (k : Int) = some (.int (ns.getD k 0)) := by
  apply atI_nat
  rw [List.getElem?_map, List.getElem?_eq_getElem h, List.getD_eq_getElem?_getD, List.getElem?_eq_getElem h]
  rfl
section
variable {P : Program} {w : World} {K : PySem.W.Frag} {mg : Str → Option Value} {base : Heap} {A : Nat → Addr} {D : Nat → FuncData}
theorem ok_cell (T : Txt K mg A D) : FnOk P w K mg base CX0 1 (A 3) (D 3) ["script", "k"] (yCell K) := by
  refine T.F__law_cell.ok sc__law_cell (fun vs H Q E h => ?_) (fun cdv A' outer s H vs Q E hr h => ?_)
  · obtain ⟨l, ns, k, rfl, _⟩ := h; rfl
  obtain ⟨l, ns, k, rfl, hS, q⟩ := h
  refine ⟨_, (pss_cons (ps_if (pt_cmpR op_lt (pv 1) (pe_callB call_len_seq rfl T.z_len PySem.boot_len (pa_cons (pv 0) pa_nil)) (nomark _)) (pss_one (ps_ret (pe_ix (r := rIxL K) ix_list (pv 0) (pv 1) (fun _ _ => rfl)))) pss_nil) (pss_one (ps_ret pe_int))), ?_⟩
  refine ⟨_, rfl, _, rfl, l, _, rfl, .inl hS, _, _, rfl, rfl, _, rfl, ?_⟩
  refine ite2 (fun c => ?_) (fun c => ?_)
  · have c' : (k : Int) < (((ns.map V.int).length : Nat) : Int) := of_decide_eq_true c
    rw [List.length_map] at c'
    exact ⟨_, rfl, _, rfl, l, _, _, _, rfl, rfl, hS, at_ints (by omega), q _⟩
  · exact q 0
def yDigits (K : PySem.W.Frag) : Sp := fun vs H Q _ => ∃ (l : Addr) (ns : List Int), vs = [.ref l, .int 0, .int 63] ∧ SqL K H l (ns.map V.int) ∧
  ∀ (p : Addr) (ds : List Int) (H' : Hp), Same H H' → H p = none → H' p = some (.lst (ds.map V.int)) → ds.length ≤ 3780 → Q (.ref p) H'
theorem len_lt {n : Nat} (h : n ≤ 1000000) : n < sizeLine := Nat.lt_of_le_of_lt h (by decide)
theorem app_map {ds : List Int} {z : Int} : ds.map V.int ++ [V.int z] = (ds ++ [z]).map V.int := by rw [List.map_append]; rfl
theorem ok_digits (T : Txt K mg A D) : FnOk P w K mg base CX0 2 (A 4) (D 4) ["script", "first", "last"] (yDigits K) := by
  refine T.F__law_digits.ok sc__law_digits (fun vs H Q E h => ?_) (fun cdv A' outer s H vs Q E hr h => ?_)
  · obtain ⟨l, ns, rfl, _⟩ := h; rfl
  obtain ⟨l, ns, rfl, hS, q⟩ := h
  have G__law_cell := ok_cell (P := P) (w := w) (base := base) T
  have hnd := sc__law_digits.nd
  refine ⟨_, (pss_cons (ps_set (i := 3) hnd rfl (Or.inl rfl) (pe_lst pa_nil)) (pss_cons (ps_for PassesOwn.never rfl (pi_range2 rfl T.z_range (pa_cons (pv 1) (pa_cons (pv 2) pa_nil))) (pg_name (i := 4) hnd rfl (Or.inl rfl)) (pss_cons (ps_set (i := 5) hnd rfl (Or.inl rfl) (pe_call G__law_cell (hr.mono (by first | decide | omega)) rfl T.m__law_cell T.F__law_cell.kp T.b__law_cell .nil pass0 (pa_cons (pv 0) (pa_cons (pv 4) pa_nil)))) (pss_cons (ps_if (pt_cmpR op_lt (pv 5) pe_int (nomark _)) (pss_one (ps_set (i := 5) hnd rfl (Or.inl rfl) (pe_op op_sub pe_int (pe_op op_mul pe_int (pv 5))))) pss_nil) (pss_one (ps_if (pt_cmpR op_ge (pv 5) (pe_op op_pow pe_int pe_int) (nomark _)) (pss_one (ps_for PassesOwn.never rfl (pi_range1 rfl T.z_range (pa_cons pe_int pa_nil)) (pg_name (i := 6) hnd rfl (Or.inl rfl)) (pss_one (ps_if (pt_cmpR op_gt (pv 5) pe_int (nomark _)) (pss_cons (ps_expr (pe_bm PySem.F.plainAttrs_list PySem.F.slot_list_append PySem.F.type_list_append mt_append (pv 3) (pa_cons (pe_op op_mod (pe_callTy call_int1 rfl T.z_int (by decide +kernel) (pa_cons (pv 5) pa_nil)) pe_int) pa_nil))) (pss_one (ps_set (i := 5) hnd rfl (Or.inl rfl) (pe_op op_fdiv (pv 5) pe_int)))) pss_nil)))) (pss_cons (ps_set (i := 7) hnd rfl (Or.inl rfl) (pe_op op_mod (pe_callTy call_int1 rfl T.z_int (by decide +kernel) (pa_cons (pe_op op_add (pe_op op_add (pe_op op_mul (pv 5) pe_int) (pe_op op_mul (pv 4) pe_int)) pe_int) pa_nil)) pe_int)) (pss_one (ps_for PassesOwn.never rfl (pi_range1 rfl T.z_range (pa_cons pe_int pa_nil)) (pg_name (i := 6) hnd rfl (Or.inl rfl)) (pss_cons (ps_set (i := 7) hnd rfl (Or.inl rfl) (pe_op op_mod (pe_callTy call_int1 rfl T.z_int (by decide +kernel) (pa_cons (pe_op op_add (pe_op op_add (pe_op op_mul (pv 7) pe_int) (pe_op op_mul pe_int (pv 6))) pe_int) pa_nil)) pe_int)) (pss_one (ps_expr (pe_bm PySem.F.plainAttrs_list PySem.F.slot_list_append PySem.F.type_list_append mt_append (pv 3) (pa_cons (pe_op op_mod (pe_callTy call_int1 rfl T.z_int (by decide +kernel) (pa_cons (pe_op op_fdiv (pv 7) pe_int) pa_nil)) pe_int) pa_nil))))))))))))) (pss_one (ps_ret (pv 3))))), ?_⟩
  refine ⟨(by decide), fun p hp => ?_⟩
  have sH := fun o => same_new (o := o) hp
  refine ⟨_, rfl, _, rfl, (0 : Int), (63 : Int), rfl, (by decide), ?_⟩
  refine for_range (lo := 0) (n := 63) (fun i σ H' => ∃ (ds : List Int) (c4 c5 c6 c7 : Option V), σ = [some (.ref l), some (.int 0), some (.int 63), some (.ref p), c4, c5, c6, c7] ∧ Same H H' ∧ H' p = some (.lst (ds.map V.int)) ∧ ds.length ≤ 60 * i)
    ⟨[], none, none, none, none, rfl, sH _, upd_same, Nat.zero_le _⟩ ?_ ?_
  · rintro i σ H1 hi ⟨ds, c4, c5, c6, c7, rfl, s1, hd, hl⟩
    refine ⟨_, rfl, _, rfl, l, ns, i, (by rw [Int.zero_add]; rfl), s1.seq hS, fun z => ?_⟩
    refine ⟨_, rfl, _, _, rfl, rfl, _, rfl, ?_⟩
    refine ite2 (fun c => ?_) (fun c => ?_)
    refine ⟨_, rfl, _, _, rfl, rfl, .inl ⟨by decide, by decide⟩, _, _, rfl, rfl, ?_⟩
    all_goals
      refine ⟨_, rfl, _, _, rfl, rfl, ⟨by decide, by decide, by decide⟩, _, _, rfl, rfl, _, rfl, ?_⟩
      refine ite2 (fun _ => ?_) (fun _ => ?_)
      · refine ⟨_, rfl, by decide, by decide, for_range (n := 60) (fun t σ H' => ∃ (ds : List Int) (c : Int) (c6 : Option V), σ = [some (.ref l), some (.int 0), some (.int 63), some (.ref p), some (.int (0 + (i : Int))), some (.int c), c6, c7] ∧ Same H H' ∧ H' p = some (.lst (ds.map V.int)) ∧ ds.length ≤ 60 * i + t)
          ⟨ds, _, c6, rfl, s1, hd, by omega⟩ ?_ ?_⟩
        · rintro t σ H2 ht ⟨ds2, c, c6, rfl, s2, hd2, hl2⟩
          refine ⟨_, rfl, _, _, rfl, rfl, _, rfl, ?_⟩
          refine ite2 (fun _ => ?_) (fun _ => ?_)
          · refine ⟨_, rfl, .inl ⟨rfl, _, SqL.of hd2⟩, _, rfl, .inl ⟨_, rfl, _, _, rfl, rfl, (by show (0 : Int) < _; decide), _, _, _, rfl, rfl, hd2, (by rw [List.length_map]; exact len_lt (by omega)), ?_⟩⟩
            refine ⟨_, rfl, _, _, rfl, rfl, ⟨by decide, by decide⟩, ?_⟩
            exact ⟨_, _, _, rfl, same_upd s2 hp, by rw [upd_same, app_map], by rw [List.length_append]; simp only [List.length_singleton]; omega⟩
          · exact ⟨_, _, _, rfl, s2, hd2, by omega⟩
        · rintro σ H2 ⟨ds2, c, c6, rfl, s2, hd2, hl2⟩
          exact ⟨_, _, _, _, _, rfl, s2, hd2, by omega⟩
      · refine ⟨_, rfl, _, _, rfl, rfl, .inr ⟨by decide, by decide⟩, _, rfl, _, _, rfl, rfl, .inr ⟨by decide, by decide⟩, _, _, rfl, rfl, _, _, rfl, rfl, .inl ⟨_, rfl, _, _, rfl, rfl, (by show (0 : Int) < _; decide), ?_⟩⟩
        refine ⟨_, rfl, by decide, by decide, for_range (n := 12) (fun t σ H' => ∃ (ds : List Int) (c : Int) (c5 c6 : Option V), σ = [some (.ref l), some (.int 0), some (.int 63), some (.ref p), some (.int (0 + (i : Int))), c5, c6, some (.int c)] ∧ Same H H' ∧ H' p = some (.lst (ds.map V.int)) ∧ ds.length ≤ 60 * i + t)
          ⟨ds, _, _, _, rfl, s1, hd, by omega⟩ ?_ ?_⟩
        · rintro t σ H2 ht ⟨ds2, c, c5, c6, rfl, s2, hd2, hl2⟩
          refine ⟨_, rfl, _, _, rfl, rfl, .inr ⟨by decide, by decide⟩, _, rfl, _, _, rfl, rfl, .inl ⟨by decide, by decide⟩, _, _, rfl, rfl, _, _, rfl, rfl, .inl ⟨_, rfl, _, _, rfl, rfl, (by show (0 : Int) < _; decide), ?_⟩⟩
          refine ⟨_, rfl, .inl ⟨rfl, _, SqL.of hd2⟩, _, rfl, _, _, rfl, rfl, ⟨by decide, by decide⟩, .inl ⟨_, rfl, _, _, rfl, rfl, (by show (0 : Int) < _; decide), _, _, _, rfl, rfl, hd2, (by rw [List.length_map]; exact len_lt (by omega)), ?_⟩⟩
          exact ⟨_, _, _, _, rfl, same_upd s2 hp, by rw [upd_same, app_map], by rw [List.length_append]; simp only [List.length_singleton]; omega⟩
        · rintro σ H2 ⟨ds2, c, c5, c6, rfl, s2, hd2, hl2⟩
          exact ⟨_, _, _, _, _, rfl, s2, hd2, by omega⟩
  · rintro σ H1 ⟨ds, c4, c5, c6, c7, rfl, s1, hd, hl⟩
    exact ⟨_, rfl, q p ds H1 s1 hp hd (by omega)⟩
end

/-- all but the object at b stand as before -/
def Kp (b : Addr) (H H' : Hp) : Prop := ∀ c o, H c = some o → c ≠ b → H' c = some o
theorem Kp.refl (b : Addr) (H : Hp) : Kp b H H := fun _ _ h _ => h
theorem Kp.trans {b : Addr} {H H1 H2 : Hp} (a : Kp b H H1) (c : Kp b H1 H2) : Kp b H H2 := fun x o h n => c x o (a x o h n) n
theorem Kp.upd {b : Addr} {H H' : Hp} {o : HO} (a : Kp b H H') : Kp b H (upd H' b o) := fun x u h n => by rw [upd_ne n]; exact a x u h n
theorem Kp.of {b : Addr} {H H' : Hp} (a : Same H H') : Kp b H H' := fun x o h _ => a x o h
/-- the box of draws: its digits at p, the place -/
def BoxAt (H : Hp) (b p : Addr) : Prop := ∃ (ns : List Int) (n : Nat), H b = some (.lst [.ref p, .int (n : Int)]) ∧ H p = some (.lst (ns.map V.int))
theorem BoxAt.keep {H H' : Hp} {b p : Addr} (h : BoxAt H b p) (k : Same H H') : BoxAt H' b p := by
  obtain ⟨ns, n, h1, h2⟩ := h
  exact ⟨ns, n, k _ _ h1, k _ _ h2⟩
theorem BoxAt.ne {H : Hp} {b p d : Addr} (h : BoxAt H b p) (hd : H d = none) : d ≠ b ∧ d ≠ p := by
  obtain ⟨ns, n, h1, h2⟩ := h
  exact ⟨fun e => (by rw [e, h1] at hd; cases hd), fun e => (by rw [e, h2] at hd; cases hd)⟩
theorem BoxAt.updO {H : Hp} {b p d : Addr} {o : HO} (h : BoxAt H b p) (n1 : d ≠ b) (n2 : d ≠ p) : BoxAt (upd H d o) b p := by
  obtain ⟨ns, n, h1, h2⟩ := h
  exact ⟨ns, n, by rw [upd_ne n1.symm]; exact h1, by rw [upd_ne n2.symm]; exact h2⟩
/-- tuples stand as before -/
def TK (H H' : Hp) : Prop := ∀ c u, (∃ xs, u = .tup xs) → Rd H c u → Rd H' c u
theorem TK.refl (H : Hp) : TK H H := fun _ _ _ h => h
theorem TK.trans {H H1 H2 : Hp} (a : TK H H1) (b : TK H1 H2) : TK H H2 := fun c u h r => b c u h (a c u h r)
theorem TK.same {H H' : Hp} (a : Same H H') : TK H H' := fun c u _ r => by
  rcases r with r | ⟨o, r⟩
  · exact .inl (a _ _ r)
  · exact .inr ⟨o, a _ _ r⟩
theorem TK.kp {b : Addr} {H H' : Hp} {xs : List V} (a : Kp b H H') (h : H b = some (.lst xs)) : TK H H' := fun c u ⟨ys, e⟩ r => by
  subst e
  have hn : c ≠ b := fun z => by subst z; rcases r with r | ⟨o, r⟩ <;> (rw [h] at r; cases r)
  rcases r with r | ⟨o, r⟩
  · exact .inl (a _ _ r hn)
  · exact .inr ⟨o, a _ _ r hn⟩
theorem TK.box {b p : Addr} {H H' : Hp} (h : BoxAt H b p) (a : Kp b H H') : TK H H' := by
  obtain ⟨ns, n, h1, h2⟩ := h
  exact TK.kp a h1
theorem TK.updL {H H' : Hp} {b : Addr} {xs ys : List V} (a : TK H H') (h : H' b = some (.lst xs)) : TK H (upd H' b (.lst ys)) :=
  a.trans (TK.kp (Kp.upd (Kp.refl b H')) h)
theorem TK.new {H H' : Hp} {b : Addr} {o : HO} (a : TK H H') (h : H' b = none) : TK H (upd H' b o) := a.trans (TK.same (same_new h))
theorem TK.seq {K : PySem.W.Frag} {H H' : Hp} (k : TK H H') {a : Addr} {xs : List V} (h : SqT K H a xs) : SqT K H' a xs := by
  rcases h with h | h
  · exact .inl (k _ _ ⟨_, rfl⟩ h)
  · exact .inr h
/-- data without lists -/
inductive Imm : PyData → Prop
  | non : Imm .none
  | bl (b : Bool) : Imm (.bool b)
  | int (i : Int) : Imm (.int i)
  | str (x : Str) : Imm (.str x)
  | tup {ds : List PyData} : (∀ d ∈ ds, Imm d) → Imm (.tuple ds)
mutual
theorem Dp.keep {K : PySem.W.Frag} {H H' : Hp} (k : TK H H') : ∀ {v : V} {d : PyData}, Dp K H v d → Imm d → Dp K H' v d
  | _, _, .non, _ => .non
  | _, _, .bl b, _ => .bl b
  | _, _, .int i, _ => .int i
  | _, _, .str x, _ => .str x
  | _, _, .lst h a, i => nomatch i
  | _, _, .tup h a, i => .tup (k.seq h) (DpAll.keep k a (match i with | .tup j => j))
theorem DpAll.keep {K : PySem.W.Frag} {H H' : Hp} (k : TK H H') : ∀ {vs : List V} {ds : List PyData}, DpAll K H vs ds → (∀ d ∈ ds, Imm d) → DpAll K H' vs ds
  | _, _, .nil, _ => .nil
  | _, _, .cons a b, i => .cons (Dp.keep k a (i _ List.mem_cons_self)) (DpAll.keep k b fun d hd => i d (List.mem_cons_of_mem _ hd))
end
mutual
theorem Dp.same {K : PySem.W.Frag} {H H' : Hp} (k : Same H H') : ∀ {v : V} {d : PyData}, Dp K H v d → Dp K H' v d
  | _, _, .non => .non
  | _, _, .bl b => .bl b
  | _, _, .int i => .int i
  | _, _, .str x => .str x
  | _, _, .lst h a => .lst (k.seq h) (DpAll.same k a)
  | _, _, .tup h a => .tup ((TK.same k).seq h) (DpAll.same k a)
theorem DpAll.same {K : PySem.W.Frag} {H H' : Hp} (k : Same H H') : ∀ {vs : List V} {ds : List PyData}, DpAll K H vs ds → DpAll K H' vs ds
  | _, _, .nil => .nil
  | _, _, .cons a b => .cons (Dp.same k a) (DpAll.same k b)
end
theorem DpAll.len {K : PySem.W.Frag} {H : Hp} : ∀ {vs : List V} {ds : List PyData}, DpAll K H vs ds → vs.length = ds.length
  | _, _, .nil => rfl
  | _, _, .cons a b => by rw [List.length_cons, List.length_cons, DpAll.len b]
theorem DpAll.get {K : PySem.W.Frag} {H : Hp} : ∀ {vs : List V} {ds : List PyData}, DpAll K H vs ds → ∀ {i : Nat} {d : PyData}, ds[i]? = some d → ∃ v, vs[i]? = some v ∧ Dp K H v d
  | _, _, .nil, i, d, h => by simp at h
  | _, _, .cons a b, 0, d, h => by
    have e := Option.some.inj h
    subst e
    exact ⟨_, rfl, a⟩
  | _, _, .cons a b, i + 1, d, h => DpAll.get b (i := i) (by simpa using h)
theorem DpAll.app {K : PySem.W.Frag} {H : Hp} : ∀ {vs ws : List V} {ds es : List PyData}, DpAll K H vs ds → DpAll K H ws es → DpAll K H (vs ++ ws) (ds ++ es)
  | _, _, _, _, .nil, h => h
  | _, _, _, _, .cons a b, h => .cons a (DpAll.app b h)
theorem DpAll.ints {K : PySem.W.Frag} {H : Hp} : ∀ (ns : List Int), DpAll K H (ns.map V.int) (ns.map PyData.int)
  | [] => .nil
  | n :: r => .cons (.int n) (DpAll.ints r)
theorem DpAll.strs {K : PySem.W.Frag} {H : Hp} : ∀ (ns : List Str), DpAll K H (ns.map V.str) (ns.map PyData.str)
  | [] => .nil
  | n :: r => .cons (.str n) (DpAll.strs r)
/-- depth below n, lists not too long -/
def Fits : Nat → PyData → Prop
  | 0, _ => False
  | n + 1, .list xs => xs.length < 2 ^ 60 ∧ ∀ x ∈ xs, Fits n x
  | n + 1, .tuple xs => xs.length < 2 ^ 60 ∧ ∀ x ∈ xs, Fits n x
  | _ + 1, .dict _ => False
  | _ + 1, _ => True
theorem ty_l {K : PySem.W.Frag} {H : Hp} {a : Addr} {xs : List V} (h : SqL K H a xs) : TyX K H (.ref a) (.type "list") := by
  rcases h with (h | ⟨o, h⟩) | ⟨o, its, n, h1, h2, _⟩
  · exact .base (.lst h)
  · exact .base (.frz h)
  · exact .kList h1 h2
theorem ty_t {K : PySem.W.Frag} {H : Hp} {a : Addr} {xs : List V} (h : SqT K H a xs) : TyX K H (.ref a) (.type "tuple") := by
  rcases h with (h | ⟨o, h⟩) | ⟨o, its, n, h1, h2, _⟩
  · exact .base (.tup h)
  · exact .fTuple h
  · exact .kTuple h1 h2
/-- the two are the same data: True -/
def ySame (K : PySem.W.Frag) (n : Nat) : Sp := fun vs H Q _ => ∃ (x y : V) (d : PyData), vs = [x, y] ∧ Dp K H x d ∧ Dp K H y d ∧ Fits n d ∧ Q (.bl true) H
def yDraw (K : PySem.W.Frag) : Sp := fun vs H Q _ => ∃ (b p : Addr) (m : Int), vs = [.ref b, .int m] ∧ BoxAt H b p ∧ 0 < m ∧
  ∀ (r : Int) (H' : Hp), 0 ≤ r → r < m → BoxAt H' b p → Kp b H H' → Q (.int r) H'
section
variable {P : Program} {w : World} {K : PySem.W.Frag} {mg : Str → Option Value} {base : Heap} {A : Nat → Addr} {D : Nat → FuncData}
theorem ok_draw (T : Txt K mg A D) : FnOk P w K mg base CX0 1 (A 5) (D 5) ["box", "many"] (yDraw K) := by
  refine T.F__law_draw.ok sc__law_draw (fun vs H Q E h => ?_) (fun cdv A' outer s H vs Q E hr h => ?_)
  · obtain ⟨b, d, m, rfl, _⟩ := h; rfl
  obtain ⟨b, d, m, rfl, ⟨ns, n, h1, h2⟩, hm, q⟩ := h
  have hnd := sc__law_draw.nd
  have ndb : d ≠ b := fun e => by
    rw [e, h1] at h2
    cases ns with
    | nil => simp at h2
    | cons a r => simp at h2
  refine ⟨_, (pss_cons (ps_set (i := 2) hnd rfl (Or.inl rfl) (pe_ix (r := rIxL K) ix_list (pv 0) pe_int (fun _ _ => rfl))) (pss_cons (ps_asg (pe_op op_add (pv 2) pe_int) (pg_sub (pv 0) pe_int set_list)) (pss_cons (ps_if (pt_cmpR op_lt (pv 2) (pe_callB call_len_seq rfl T.z_len PySem.boot_len (pa_cons (pe_ix (r := rIxL K) ix_list (pv 0) pe_int (fun _ _ => rfl)) pa_nil)) (nomark _)) (pss_one (ps_ret (pe_op op_modN (pe_callTy call_int1 rfl T.z_int (by decide +kernel) (pa_cons (pe_ix (r := rIxL K) ix_list (pe_ix (r := rIxL K) ix_list (pv 0) pe_int (fun _ _ => rfl)) (pv 2) (fun _ _ => rfl)) pa_nil)) (pv 1)))) pss_nil) (pss_one (ps_ret pe_int))))), ?_⟩
  refine ⟨_, rfl, b, _, _, _, rfl, rfl, SqL.of h1, rfl, ?_⟩
  refine ⟨_, rfl, _, _, rfl, rfl, _, rfl, b, _, _, 1, rfl, rfl, h1, rfl, ?_⟩
  have k1 : Kp b H (upd H b (.lst [.ref d, .int ((n : Int) + 1)])) := Kp.upd (Kp.refl b H)
  have e1 : upd H b (.lst [.ref d, .int ((n : Int) + 1)]) b = some (.lst [.ref d, .int ((n : Int) + 1)]) := upd_same
  have e2 : upd H b (.lst [.ref d, .int ((n : Int) + 1)]) d = some (.lst (ns.map V.int)) := k1 _ _ h2 ndb
  have B : BoxAt (upd H b (.lst [.ref d, .int ((n : Int) + 1)])) b d := ⟨ns, n + 1, upd_same, e2⟩
  refine ⟨_, rfl, _, rfl, b, _, _, _, rfl, rfl, SqL.of e1, rfl, d, _, rfl, .inl (SqL.of e2), _, _, rfl, rfl, _, rfl, ?_⟩
  refine ite2 (fun c => ?_) (fun c => ?_)
  · have c' : (n : Int) < (((ns.map V.int).length : Nat) : Int) := of_decide_eq_true c
    rw [List.length_map] at c'
    refine ⟨_, rfl, b, _, _, _, rfl, rfl, SqL.of e1, rfl, _, rfl, d, _, _, _, rfl, rfl, SqL.of e2, at_ints (by omega), .inl ⟨_, rfl, _, rfl, _, _, rfl, rfl, (by show m ≠ 0; omega), ?_⟩⟩
    have z1 := Int.fmod_nonneg_of_pos (ns.getD n 0) hm
    have z2 := Int.fmod_lt_of_pos (ns.getD n 0) hm
    exact q _ _ z1 z2 B k1
  · exact q 0 _ (Int.le_refl 0) hm B k1
theorem ok_same (T : Txt K mg A D) : ∀ n, FnOk P w K mg base CX0 n (A 6) (D 6) ["actual", "due"] (ySame K n)
  | 0 => by
    have no : ∀ vs H Q E, ¬ ySame K 0 vs H Q E := fun vs H Q E h => by
      obtain ⟨x, y, d, _, _, _, f, _⟩ := h
      cases d <;> exact f
    exact ⟨fun vs H Q E h => absurd h (no vs H Q E), fun A outer s H args us vs Q E _ _ _ _ h => absurd h (no vs H Q E)⟩
  | n + 1 => by
    have G__law_same := ok_same T n
    refine T.F__law_same.ok sc__law_same (fun vs H Q E h => ?_) (fun cdv A' outer s H vs Q E hr h => ?_)
    · obtain ⟨x, y, d, rfl, _⟩ := h; rfl
    obtain ⟨x, y, d, rfl, dx, dy, hf, q⟩ := h
    have hnd := sc__law_same.nd
    refine ⟨_, (pss_cons (ps_if (PW.pt (pw_or (pt_val (pe_callB call_isi rfl T.z_isinstance (by decide +kernel) (pa_cons (pv 1) (pa_cons (pe_bltn (v := .ty "list") rfl T.z_list (by decide +kernel) rfl) pa_nil)))) (pw_or1 (pt_val (pe_callB call_isi rfl T.z_isinstance (by decide +kernel) (pa_cons (pv 1) (pa_cons (pe_bltn (v := .ty "tuple") rfl T.z_tuple (by decide +kernel) rfl) pa_nil))))))) (pss_cons (ps_if (PW.pt (pw_or (pt_cmpR op_ne (pe_callB call_isi rfl T.z_isinstance (by decide +kernel) (pa_cons (pv 1) (pa_cons (pe_bltn (v := .ty "list") rfl T.z_list (by decide +kernel) rfl) pa_nil))) (pe_callB call_isi rfl T.z_isinstance (by decide +kernel) (pa_cons (pv 0) (pa_cons (pe_bltn (v := .ty "list") rfl T.z_list (by decide +kernel) rfl) pa_nil))) (nomark _)) (pw_or1 (pt_cmpR op_ne (pe_callB call_isi rfl T.z_isinstance (by decide +kernel) (pa_cons (pv 1) (pa_cons (pe_bltn (v := .ty "tuple") rfl T.z_tuple (by decide +kernel) rfl) pa_nil))) (pe_callB call_isi rfl T.z_isinstance (by decide +kernel) (pa_cons (pv 0) (pa_cons (pe_bltn (v := .ty "tuple") rfl T.z_tuple (by decide +kernel) rfl) pa_nil))) (nomark _))))) (pss_one (ps_ret pe_bl)) pss_nil) (pss_cons (ps_if (pt_cmpR op_ne (pe_callB call_len_seq rfl T.z_len PySem.boot_len (pa_cons (pv 0) pa_nil)) (pe_callB call_len_seq rfl T.z_len PySem.boot_len (pa_cons (pv 1) pa_nil)) (nomark _)) (pss_one (ps_ret pe_bl)) pss_nil) (pss_cons (ps_for PassesOwn.never rfl (pi_range1 rfl T.z_range (pa_cons (pe_callB call_len_seq rfl T.z_len PySem.boot_len (pa_cons (pv 1) pa_nil)) pa_nil)) (pg_name (i := 2) hnd rfl (Or.inl rfl)) (pss_one (ps_if (pt_not (pt_val (pe_call G__law_same (hr.mono (by first | decide | omega)) rfl T.m__law_same T.F__law_same.kp T.b__law_same .nil pass0 (pa_cons (pe_ix (r := rIx K) ix_seq (pv 0) (pv 2) (fun _ _ => rfl)) (pa_cons (pe_ix (r := rIx K) ix_seq (pv 1) (pv 2) (fun _ _ => rfl)) pa_nil))))) (pss_one (ps_ret pe_bl)) pss_nil))) (pss_one (ps_ret pe_bl))))) pss_nil) (pss_cons (ps_if (pt_cmpR op_isN (pv 1) pe_non (nomark _)) (pss_one (ps_ret (pe_cmpR op_isN (pv 0) pe_non (nomark _)))) pss_nil) (pss_cons (ps_if (pt_val (pe_callB call_isi rfl T.z_isinstance (by decide +kernel) (pa_cons (pv 1) (pa_cons (pe_bltn (v := .ty "bool") rfl T.z_bool (by decide +kernel) rfl) pa_nil)))) (pss_one (ps_ret (pe_and (pe_callB call_isi rfl T.z_isinstance (by decide +kernel) (pa_cons (pv 0) (pa_cons (pe_bltn (v := .ty "bool") rfl T.z_bool (by decide +kernel) rfl) pa_nil))) (pe_one (pe_cmpR op_eq (pv 0) (pv 1) (nomark _)))))) pss_nil) (pss_cons (ps_if (pt_val (pe_callB call_isi rfl T.z_isinstance (by decide +kernel) (pa_cons (pv 1) (pa_cons (pe_bltn (v := .ty "str") rfl T.z_str (by decide +kernel) rfl) pa_nil)))) (pss_one (ps_ret (pe_and (pe_callB call_isi rfl T.z_isinstance (by decide +kernel) (pa_cons (pv 0) (pa_cons (pe_bltn (v := .ty "str") rfl T.z_str (by decide +kernel) rfl) pa_nil))) (pe_one (pe_cmpR op_eq (pv 0) (pv 1) (nomark _)))))) pss_nil) (pss_one (ps_ret (pe_and (pe_callB call_isi rfl T.z_isinstance (by decide +kernel) (pa_cons (pv 0) (pa_cons (pe_bltn (v := .ty "int") rfl T.z_int (by decide +kernel) rfl) pa_nil))) (pe_and (pe_not (pe_callB call_isi rfl T.z_isinstance (by decide +kernel) (pa_cons (pv 0) (pa_cons (pe_bltn (v := .ty "bool") rfl T.z_bool (by decide +kernel) rfl) pa_nil)))) (pe_one (pe_cmpR op_eq (pv 0) (pv 1) (nomark _))))))))))), ?_⟩
    cases d with
    | dict _ => exact hf.elim
    | list ds =>
      obtain ⟨hf1, hf2⟩ := hf
      cases dx with | lst hx ax =>
      cases dy with | lst hy ay =>
      rename_i a vs a' vs'
      have l1 := DpAll.len ax
      have l2 := DpAll.len ay
      refine ⟨_, rfl, _, _, _, _, _, rfl, .ty _, ty_l hy, kit_ty (by decide +kernel), _, rfl, iteT (iteT ?_)⟩
      refine ⟨_, rfl, _, _, _, _, true, rfl, .ty _, ty_l hy, kit_ty (by decide +kernel), _, rfl, _, _, _, _, true, rfl, .ty _, ty_l hx, kit_ty (by decide +kernel), rfl, _, rfl, iteNS rfl ?_⟩
      refine ⟨_, rfl, _, _, _, _, false, rfl, .ty _, ty_l hy, kit_ty (by decide +kernel), _, rfl, _, _, _, _, false, rfl, .ty _, ty_l hx, kit_ty (by decide +kernel), rfl, _, rfl, iteNS rfl ?_⟩
      refine ⟨_, rfl, _, _, rfl, .inl hx, _, rfl, _, _, rfl, .inl hy, rfl, _, rfl, iteNS (by rw [l1, l2]) ?_⟩
      refine ⟨_, rfl, _, _, rfl, .inl hy, _, rfl, (by omega), (by omega), ?_⟩
      rw [show ((vs'.length : Nat) : Int).toNat = ds.length by omega]
      refine for_range (n := ds.length) (fun i σ H' => ∃ kv : Option V, σ = [some (.ref a), some (.ref a'), kv] ∧ H' = H) ⟨none, rfl, rfl⟩ ?_ ?_
      · rintro i σ H' hi ⟨kv, rfl, rfl⟩
        obtain ⟨v, ev, dv⟩ := DpAll.get ax (List.getElem?_eq_getElem hi)
        obtain ⟨v', ev', dv'⟩ := DpAll.get ay (List.getElem?_eq_getElem hi)
        have ev1 : atI vs (0 + (i : Int)) = some v := by rw [Int.zero_add]; exact atI_nat ev
        have ev2 : atI vs' (0 + (i : Int)) = some v' := by rw [Int.zero_add]; exact atI_nat ev'
        refine ⟨_, rfl, _, rfl, .inl ⟨_, _, _, _, rfl, rfl, hx, ev1, _, rfl, _, rfl, .inl ⟨_, _, _, _, rfl, rfl, hy, ev2, ?_⟩⟩⟩
        exact ⟨v, v', ds[i], rfl, dv, dv', hf2 _ (List.getElem_mem hi), _, rfl, iteF ⟨_, rfl, rfl⟩⟩
      · rintro σ H' ⟨kv, rfl, rfl⟩
        exact q
    | tuple ds =>
      obtain ⟨hf1, hf2⟩ := hf
      cases dx with | tup hx ax =>
      cases dy with | tup hy ay =>
      rename_i a vs a' vs'
      have l1 := DpAll.len ax
      have l2 := DpAll.len ay
      refine ⟨_, rfl, _, _, _, _, _, rfl, .ty _, ty_t hy, kit_ty (by decide +kernel), _, rfl, iteF ⟨_, rfl, _, _, _, _, _, rfl, .ty _, ty_t hy, kit_ty (by decide +kernel), _, rfl, iteT ?_⟩⟩
      refine ⟨_, rfl, _, _, _, _, false, rfl, .ty _, ty_t hy, kit_ty (by decide +kernel), _, rfl, _, _, _, _, false, rfl, .ty _, ty_t hx, kit_ty (by decide +kernel), rfl, _, rfl, iteNS rfl ?_⟩
      refine ⟨_, rfl, _, _, _, _, true, rfl, .ty _, ty_t hy, kit_ty (by decide +kernel), _, rfl, _, _, _, _, true, rfl, .ty _, ty_t hx, kit_ty (by decide +kernel), rfl, _, rfl, iteNS rfl ?_⟩
      refine ⟨_, rfl, _, _, rfl, .inr hx, _, rfl, _, _, rfl, .inr hy, rfl, _, rfl, iteNS (by rw [l1, l2]) ?_⟩
      refine ⟨_, rfl, _, _, rfl, .inr hy, _, rfl, (by omega), (by omega), ?_⟩
      rw [show ((vs'.length : Nat) : Int).toNat = ds.length by omega]
      refine for_range (n := ds.length) (fun i σ H' => ∃ kv : Option V, σ = [some (.ref a), some (.ref a'), kv] ∧ H' = H) ⟨none, rfl, rfl⟩ ?_ ?_
      · rintro i σ H' hi ⟨kv, rfl, rfl⟩
        obtain ⟨v, ev, dv⟩ := DpAll.get ax (List.getElem?_eq_getElem hi)
        obtain ⟨v', ev', dv'⟩ := DpAll.get ay (List.getElem?_eq_getElem hi)
        have ev1 : atI vs (0 + (i : Int)) = some v := by rw [Int.zero_add]; exact atI_nat ev
        have ev2 : atI vs' (0 + (i : Int)) = some v' := by rw [Int.zero_add]; exact atI_nat ev'
        refine ⟨_, rfl, _, rfl, .inr (.inl ⟨_, _, _, _, rfl, rfl, hx, ev1, _, rfl, _, rfl, .inr (.inl ⟨_, _, _, _, rfl, rfl, hy, ev2, ?_⟩)⟩)⟩
        exact ⟨v, v', ds[i], rfl, dv, dv', hf2 _ (List.getElem_mem hi), _, rfl, iteF ⟨_, rfl, rfl⟩⟩
      · rintro σ H' ⟨kv, rfl, rfl⟩
        exact q
    | none =>
      cases dx with | non =>
      cases dy with | non =>
      refine ⟨_, rfl, _, _, _, _, _, rfl, .ty _, .base (.non), kit_ty (by decide +kernel), _, rfl, iteF ⟨_, rfl, _, _, _, _, _, rfl, .ty _, .base (.non), kit_ty (by decide +kernel), _, rfl, iteF ?_⟩⟩
      refine ⟨_, rfl, rfl, _, rfl, iteT ?_⟩
      exact ⟨_, rfl, rfl, q⟩
    | bool b =>
      cases dx with | bl =>
      cases dy with | bl =>
      refine ⟨_, rfl, _, _, _, _, _, rfl, .ty _, .base (.bl _), kit_ty (by decide +kernel), _, rfl, iteF ⟨_, rfl, _, _, _, _, _, rfl, .ty _, .base (.bl _), kit_ty (by decide +kernel), _, rfl, iteF ?_⟩⟩
      refine ⟨_, rfl, rfl, _, rfl, iteF ?_⟩
      refine ⟨_, rfl, _, _, _, _, _, rfl, .ty _, .base (.bl _), kit_ty (by decide +kernel), _, rfl, iteT ?_⟩
      refine ⟨_, rfl, _, _, _, _, _, rfl, .ty _, .base (.bl _), kit_ty (by decide +kernel), _, rfl, iteT ⟨_, rfl, _, rfl, rfl, ?_⟩⟩
      rw [decide_eq_true rfl]
      exact q
    | str z =>
      cases dx with | str =>
      cases dy with | str =>
      refine ⟨_, rfl, _, _, _, _, _, rfl, .ty _, .base (.str _), kit_ty (by decide +kernel), _, rfl, iteF ⟨_, rfl, _, _, _, _, _, rfl, .ty _, .base (.str _), kit_ty (by decide +kernel), _, rfl, iteF ?_⟩⟩
      refine ⟨_, rfl, rfl, _, rfl, iteF ?_⟩
      refine ⟨_, rfl, _, _, _, _, _, rfl, .ty _, .base (.str _), kit_ty (by decide +kernel), _, rfl, iteF ⟨_, rfl, _, _, _, _, _, rfl, .ty _, .base (.str _), kit_ty (by decide +kernel), _, rfl, iteT ?_⟩⟩
      refine ⟨_, rfl, _, _, _, _, _, rfl, .ty _, .base (.str _), kit_ty (by decide +kernel), _, rfl, iteT ⟨_, rfl, _, rfl, rfl, ?_⟩⟩
      rw [decide_eq_true rfl]
      exact q
    | int i =>
      cases dx with | int =>
      cases dy with | int =>
      refine ⟨_, rfl, _, _, _, _, _, rfl, .ty _, .base (.int _), kit_ty (by decide +kernel), _, rfl, iteF ⟨_, rfl, _, _, _, _, _, rfl, .ty _, .base (.int _), kit_ty (by decide +kernel), _, rfl, iteF ?_⟩⟩
      refine ⟨_, rfl, rfl, _, rfl, iteF ?_⟩
      refine ⟨_, rfl, _, _, _, _, _, rfl, .ty _, .base (.int _), kit_ty (by decide +kernel), _, rfl, iteF ⟨_, rfl, _, _, _, _, _, rfl, .ty _, .base (.int _), kit_ty (by decide +kernel), _, rfl, iteF ?_⟩⟩
      refine ⟨_, rfl, _, _, _, _, _, rfl, .ty _, .base (.int _), kit_ty (by decide +kernel), _, rfl, iteT ⟨_, rfl, _, _, _, _, false, rfl, .ty _, .base (.int _), kit_ty (by decide +kernel), _, rfl, _, rfl, iteT ⟨_, rfl, _, rfl, rfl, ?_⟩⟩⟩
      rw [decide_eq_true rfl]
      exact q
end

theorem take_succ_map {α β : Type} {f : α → β} {l : List α} {i : Nat} {x : α} (h : l[i]? = some x) : (l.take i).map f ++ [f x] = (l.take (i + 1)).map f := by
  rw [List.take_add_one, h, List.map_append]; rfl
theorem take_all {α : Type} {l : List α} {n : Nat} (h : l.length ≤ n) : l.take n = l := List.take_of_length_le h

/-! ### a list of immutable data that grows -/
def LAt (K : PySem.W.Frag) (H : Hp) (d : Addr) (ds : List PyData) : Prop := ∃ vs, H d = some (.lst vs) ∧ DpAll K H vs ds ∧ ∀ x ∈ ds, Imm x
theorem LAt.tk {K : PySem.W.Frag} {H H' : Hp} {d : Addr} {ds : List PyData} (h : LAt K H d ds) (k : TK H H') (e : ∀ o, H d = some o → H' d = some o) : LAt K H' d ds := by
  obtain ⟨vs, h1, h2, h3⟩ := h
  exact ⟨vs, e _ h1, DpAll.keep k h2 h3, h3⟩
theorem LAt.same {K : PySem.W.Frag} {H H' : Hp} {d : Addr} {ds : List PyData} (h : LAt K H d ds) (k : Same H H') : LAt K H' d ds := h.tk (TK.same k) fun o => k _ o
theorem LAt.kp {K : PySem.W.Frag} {H H' : Hp} {b p d : Addr} {ds : List PyData} (h : LAt K H d ds) (B : BoxAt H b p) (k : Kp b H H') (n : d ≠ b) : LAt K H' d ds := h.tk (TK.box B k) fun o e => k _ o e n
theorem LAt.push {K : PySem.W.Frag} {H : Hp} {d : Addr} {ds : List PyData} {vs : List V} {v : V} {x : PyData} (h1 : H d = some (.lst vs)) (h2 : DpAll K H vs ds) (h3 : ∀ x ∈ ds, Imm x) (hv : Dp K H v x) (hx : Imm x) : LAt K (upd H d (.lst (vs ++ [v]))) d (ds ++ [x]) := by
  have k : TK H (upd H d (.lst (vs ++ [v]))) := TK.updL (TK.refl H) h1
  have h4 : ∀ y ∈ ds ++ [x], Imm y := fun y hy => by
    rcases List.mem_append.mp hy with hy | hy
    · exact h3 y hy
    · rw [List.mem_singleton.mp hy]; exact hx
  exact ⟨_, upd_same, DpAll.keep k (DpAll.app h2 (.cons hv .nil)) h4, h4⟩
theorem LAt.nil {K : PySem.W.Frag} {H : Hp} {d : Addr} (h : H d = some (.lst [])) : LAt K H d [] := ⟨[], h, .nil, fun x hx => nomatch hx⟩

theorem catA_use {K : PySem.W.Frag} {H : Hp} {Q : VK} {a b : Addr} {xs ys : List V} (ha : SqT K H a xs) (hb : SqT K H b ys) (hz : xs.length + ys.length ≤ sizeLine) (h : ∀ p H', Same H H' → SqT K H' p (xs ++ ys) → Q (.ref p) H') : rCatA K (.ref a) (.ref b) H Q := by
  refine ⟨a, b, xs, ys, rfl, rfl, ha, hb, hz, fun e => h b H (Same.refl H) (by rw [e]; exact hb), fun _ e => h a H (Same.refl H) (by rw [e, List.append_nil]; exact ha), fun _ _ p hp => h p _ (same_new hp) (SqT.of upd_same)⟩

/-! ### list(zip(t, u)) -/
section
open PySem.Spec PyProof.Rows
variable {pr : Program} {wo : World} {B : Around} {FE : Value → Shared → Prop} {st : Shared}
theorem held_item {z ti to_ T i1 i2 a b : Addr} {f : Bool} {oT : Obj} {j : Nat} {xs ys : Array Value} {x y : Value} {R : Value → Shared → Prop} (D : ZipApart z ti to_ i1 i2 a b)
    (hz : IsZipHeld st.heap z ti to_ T f) (hT : st.heap.get? T = some oT) (hp : IsPair st.heap ti (.ref i1) (.ref i2)) (h1 : st.heap.IsTupleIter i1 a j) (h2 : st.heap.IsTupleIter i2 b j)
    (ha : st.heap.IsTuple a xs) (hb : st.heap.IsTuple b ys) (hx : xs[j]? = some x) (hy : ys[j]? = some y)
    (hR : ∀ h', IsZipHeld h' z ti to_ T true → h'.IsTupleIter i1 a (j + 1) → h'.IsTupleIter i2 b (j + 1) → IsPair h' st.heap.objs.size x y →
      (∀ c o, c ≠ z → c ≠ i1 → c ≠ i2 → st.heap.get? c = some o → h'.get? c = some o) → R (.ref st.heap.objs.size) { st with heap := h' }) :
    wpAny (model pr wo) B (Builtin.«zip.__next__» ⟨[.ref z], []⟩) (fun e s' => ∃ v, e = .done (.ret v) ∧ R v s') FE st := by
  show wpAny _ B (field (.ref z) 2 >>= _) _ FE st
  refine wpAny_bind (wpAny_field hz rfl (x := Value.bool false) rfl ?_)
  show wpAny _ B (field (.ref z) 3 >>= _) _ FE st
  refine wpAny_bind (wpAny_field hz rfl (x := Value.ref ti) rfl (wpAny_bind (wpAny_seqItems hp rfl ?_)))
  show wpAny _ B (Builtin.SmallTypes.ownedTupleIsFree (.ref z) >>= _) _ FE st
  refine wpAny_bind (wpAny_tupleHeld_zip hz hT fun g1 z1 s1 => ?_)
  rw [if_neg Bool.false_ne_true]
  refine wpAny_bind ?_
  rw [← Array.forIn_toList]
  rw [show (#[Value.ref i1, Value.ref i2] : Array Value).toList = [Value.ref i1, Value.ref i2] from rfl, List.forIn_cons]
  refine wpAny_bind (wpAny_bind (wpAny_holding ?_))
  show wpAny _ B (Builtin.SmallTypes.nextOf (.ref i1) >>= _) _ FE _
  refine wpAny_bind (RZ.nextOf_tuple_item (s := { st with heap := g1 }) (h1.extBut s1.extBut D.i1z) (ha.extBut s1.extBut D.l1z) hx fun g2 t1 s2 => wpAny_pure (wpAny_pure ?_))
  show wpAny _ B (forIn [Value.ref i2] _ _) _ FE _
  rw [List.forIn_cons]
  refine wpAny_bind (wpAny_bind (wpAny_holding ?_))
  show wpAny _ B (Builtin.SmallTypes.nextOf (.ref i2) >>= _) _ FE _
  refine wpAny_bind (RZ.nextOf_tuple_item (s := { st with heap := g2 }) ((h2.extBut s1.extBut D.i2z).extBut s2.extBut D.i12.symm) ((hb.extBut s1.extBut D.l2z).extBut s2.extBut D.l2i1) hy fun g3 t2 s3 => wpAny_pure (wpAny_pure ?_))
  show wpAny _ B (forIn ([] : List Value) _ _) _ FE _
  rw [List.forIn_nil]
  refine wpAny_pure ?_
  show wpAny _ B (newTuple [x, y] >>= _) _ FE _
  refine wpAny_bind (wpAny_newTuple ?_)
  have n3 : g3.objs.size = st.heap.objs.size := (s3.1.trans s2.1).trans s1.1
  have kk : ∀ c o, c ≠ z → c ≠ i1 → c ≠ i2 → st.heap.get? c = some o → g3.get? c = some o := fun c o a1 a2 a3 e => s3.extBut _ _ a3 (s2.extBut _ _ a2 (s1.extBut _ _ a1 e))
  refine wpAny_pure ⟨_, rfl, ?_⟩
  have w1 : IsZipHeld g3 z ti to_ T true := s3.extBut _ _ D.i2z.symm (s2.extBut _ _ D.i1z.symm z1)
  have w2 : g3.IsTupleIter i1 a (j + 1) := t1.extBut s3.extBut D.i12
  have w3 : IsPair (g3.push { cls := .type "tuple", data := .seq #[x, y] }) g3.objs.size x y := Heap.get?_push_size _ rfl
  show R (.ref g3.objs.size) _
  rw [n3] at w3 ⊢
  exact hR _ (Heap.get?_push_of_some _ w1) (w2.at fun o e => Heap.get?_push_of_some _ e) (t2.at fun o e => Heap.get?_push_of_some _ e) w3 fun c o a1 a2 a3 e => Heap.get?_push_of_some _ (kk c o a1 a2 a3 e)
theorem held_end {z ti to_ T i1 i2 a b : Addr} {f : Bool} {oT : Obj} {j : Nat} {xs ys : Array Value} {R : Fin → Shared → Prop} (hd : B.handled = none) (D : ZipApart z ti to_ i1 i2 a b)
    (hz : IsZipHeld st.heap z ti to_ T f) (hT : st.heap.get? T = some oT) (hp : IsPair st.heap ti (.ref i1) (.ref i2)) (h1 : st.heap.IsTupleIter i1 a j) (h2 : st.heap.IsTupleIter i2 b j)
    (ha : st.heap.IsTuple a xs) (hb : st.heap.IsTuple b ys) (hx : xs[j]? = none ∨ ys[j]? = none)
    (hR : ∀ h' e, (∀ c o, c ≠ z → c ≠ i1 → c ≠ i2 → st.heap.get? c = some o → h'.get? c = some o) → (∃ o, h'.get? e = some o ∧ o.cls = .type "StopIteration") → FE (.ref e) { st with heap := h' }) :
    wpAny (model pr wo) B (Builtin.«zip.__next__» ⟨[.ref z], []⟩) R FE st := by
  show wpAny _ B (field (.ref z) 2 >>= _) _ FE st
  refine wpAny_bind (wpAny_field hz rfl (x := Value.bool false) rfl ?_)
  show wpAny _ B (field (.ref z) 3 >>= _) _ FE st
  refine wpAny_bind (wpAny_field hz rfl (x := Value.ref ti) rfl (wpAny_bind (wpAny_seqItems hp rfl ?_)))
  show wpAny _ B (Builtin.SmallTypes.ownedTupleIsFree (.ref z) >>= _) _ FE st
  refine wpAny_bind (wpAny_tupleHeld_zip hz hT fun g1 z1 s1 => ?_)
  rw [if_neg Bool.false_ne_true]
  refine wpAny_bind ?_
  rw [← Array.forIn_toList]
  rw [show (#[Value.ref i1, Value.ref i2] : Array Value).toList = [Value.ref i1, Value.ref i2] from rfl, List.forIn_cons]
  refine wpAny_bind (wpAny_bind (wpAny_holding ?_))
  show wpAny _ B (Builtin.SmallTypes.nextOf (.ref i1) >>= _) _ FE _
  cases e1 : xs[j]? with
  | none =>
    refine wpAny_bind (RZ.nextOf_tuple_end (s := { st with heap := g1 }) hd (h1.extBut s1.extBut D.i1z) (ha.extBut s1.extBut D.l1z) e1 fun g2 e s2 he => ?_)
    exact hR g2 e (fun c o a1 a2 _ q => s2 _ _ a2 (s1.extBut _ _ a1 q)) he
  | some x =>
    have e2 : ys[j]? = none := hx.resolve_left fun h => by rw [e1] at h; cases h
    refine wpAny_bind (RZ.nextOf_tuple_item (s := { st with heap := g1 }) (h1.extBut s1.extBut D.i1z) (ha.extBut s1.extBut D.l1z) e1 fun g2 t1 s2 => wpAny_pure (wpAny_pure ?_))
    show wpAny _ B (forIn [Value.ref i2] _ _) _ FE _
    rw [List.forIn_cons]
    refine wpAny_bind (wpAny_bind (wpAny_holding ?_))
    show wpAny _ B (Builtin.SmallTypes.nextOf (.ref i2) >>= _) _ FE _
    refine wpAny_bind (RZ.nextOf_tuple_end (s := { st with heap := g2 }) hd ((h2.extBut s1.extBut D.i2z).extBut s2.extBut D.i12.symm) ((hb.extBut s1.extBut D.l2z).extBut s2.extBut D.l2i1) e2 fun g3 e s3 he => ?_)
    exact hR g3 e (fun c o a1 a2 a3 q => s3 _ _ a3 (s2.extBut _ _ a2 (s1.extBut _ _ a1 q))) he
theorem held_next {z ti to_ T i1 i2 a b : Addr} {f : Bool} {oT : Obj} {j : Nat} {xs ys : Array Value} {x y : Value} {R : Option Value → Shared → Prop} (D : ZipApart z ti to_ i1 i2 a b)
    (hz : IsZipHeld st.heap z ti to_ T f) (hT : st.heap.get? T = some oT) (hp : IsPair st.heap ti (.ref i1) (.ref i2)) (h1 : st.heap.IsTupleIter i1 a j) (h2 : st.heap.IsTupleIter i2 b j)
    (ha : st.heap.IsTuple a xs) (hb : st.heap.IsTuple b ys) (hx : xs[j]? = some x) (hy : ys[j]? = some y)
    (hR : ∀ h', IsZipHeld h' z ti to_ T true → h'.IsTupleIter i1 a (j + 1) → h'.IsTupleIter i2 b (j + 1) → IsPair h' st.heap.objs.size x y →
      (∀ c o, c ≠ z → c ≠ i1 → c ≠ i2 → st.heap.get? c = some o → h'.get? c = some o) → R (some (.ref st.heap.objs.size)) { st with heap := h' }) : wpAny (model pr wo) B (pyNext (.ref z)) R FE st := by
  have ty : st.TypeIs (.ref z) "zip" := ⟨_, hz, rfl⟩
  unfold pyNext
  refine wpAny_bind (wpAny_attempt (wpAny_callSpecial?_slot (name := Str.ofString "__next__") ty F.slot_zip_next ?_))
  refine wpAny_call_entry F.slot_zip_next ty F.entry_zip_next ?_ (F.args_zip_next_1 _)
  exact held_item D hz hT hp h1 h2 ha hb hx hy fun h' b1 b2 b3 b4 b5 => wpAny_pure (hR h' b1 b2 b3 b4 b5)
theorem held_stop {z ti to_ T i1 i2 a b : Addr} {f : Bool} {oT : Obj} {j : Nat} {xs ys : Array Value} {R : Option Value → Shared → Prop} (hd : B.handled = none) (D : ZipApart z ti to_ i1 i2 a b)
    (hz : IsZipHeld st.heap z ti to_ T f) (hT : st.heap.get? T = some oT) (hp : IsPair st.heap ti (.ref i1) (.ref i2)) (h1 : st.heap.IsTupleIter i1 a j) (h2 : st.heap.IsTupleIter i2 b j)
    (ha : st.heap.IsTuple a xs) (hb : st.heap.IsTuple b ys) (hx : xs[j]? = none ∨ ys[j]? = none)
    (hR : ∀ h', (∀ c o, c ≠ z → c ≠ i1 → c ≠ i2 → st.heap.get? c = some o → h'.get? c = some o) → R none { st with heap := h' }) : wpAny (model pr wo) B (pyNext (.ref z)) R FE st := by
  have ty : st.TypeIs (.ref z) "zip" := ⟨_, hz, rfl⟩
  unfold pyNext
  refine wpAny_bind (wpAny_attempt (wpAny_callSpecial?_slot (name := Str.ofString "__next__") ty F.slot_zip_next ?_))
  refine wpAny_call_entry F.slot_zip_next ty F.entry_zip_next ?_ (F.args_zip_next_1 _)
  refine held_end hd D hz hT hp h1 h2 ha hb hx fun h' e hk he => ?_
  obtain ⟨o, ho, hc⟩ := he
  exact wpAny_bind (wpAny_isInstance (T := "StopIteration") (b := true) ⟨o, ho, hc⟩ isSubtype_stop (wpAny_pure (hR _ hk)))
end
inductive PairsIn (H : Hp) : List V → List (V × V) → Prop
  | nil : PairsIn H [] []
  | cons {q : Addr} {x y : V} {vs : List V} {ps : List (V × V)} : H q = some (.tup [x, y]) → PairsIn H vs ps → PairsIn H (.ref q :: vs) ((x, y) :: ps)
theorem PairsIn.same {H H' : Hp} (k : Same H H') : ∀ {vs : List V} {ps : List (V × V)}, PairsIn H vs ps → PairsIn H' vs ps
  | _, _, .nil => .nil
  | _, _, .cons h t => .cons (k _ _ h) (PairsIn.same k t)
theorem PairsIn.snoc {H : Hp} {q : Addr} {x y : V} (e : H q = some (.tup [x, y])) : ∀ {vs : List V} {ps : List (V × V)}, PairsIn H vs ps → PairsIn H (vs ++ [.ref q]) (ps ++ [(x, y)])
  | _, _, .nil => .cons e .nil
  | _, _, .cons h t => .cons h (PairsIn.snoc e t)
theorem PairsIn.len {H : Hp} : ∀ {vs : List V} {ps : List (V × V)}, PairsIn H vs ps → vs.length = ps.length
  | _, _, .nil => rfl
  | _, _, .cons _ t => congrArg (· + 1) (PairsIn.len t)
section
open PySem.Spec PyProof.Rows
variable {X : Cx} {pins : List (Addr × Obj)} {σ : L2.St}
theorem zip_fill (hc : X.calm = true) {z ti to_ i1 i2 a b S : Addr} {res : Value} {xs ys : List V} {H1 : Hp} {B : Around} {R : Result → Shared → Prop} (hd : B.handled = none) (D : ZipApart z ti to_ i1 i2 a b) (hS : S ≠ z ∧ S ≠ ti ∧ S ≠ to_ ∧ S ≠ i1 ∧ S ≠ i2) (hx : xs.length ≤ 100000) 
    (hend : ∀ s' H' vs acc c, Inv X pins σ H' s' → FpOk X pins H' S → s'.heap.get? S = some (lstObj acc c) → Vals vs acc.toList → Same H1 H' → PairsIn H' vs (xs.zip ys) → R (.ok (.ret res)) s') :
    ∀ (k i : Nat) (H : Hp) (s : Shared) (vs : List V) (acc : Array Value) (c : Nat), k = min xs.length ys.length - i → i ≤ min xs.length ys.length → Inv X pins σ H s → (∀ q ∈ [z, ti, to_, i1, i2, S], FpOk X pins H q) →
      IsPair s.heap ti (.ref i1) (.ref i2) → (∃ u v, IsPair s.heap to_ u v) → s.heap.IsTupleIter i1 a i → s.heap.IsTupleIter i2 b i → (IsZip s.heap z ti to_ .none ∨ ∃ T f o, IsZipHeld s.heap z ti to_ T f ∧ H T = some (.tup o)) →
      s.heap.get? S = some (lstObj acc c) → Vals vs acc.toList → SqT X.K H a xs → SqT X.K H b ys → PairsIn H vs ((xs.zip ys).take i) → Same H1 H →
      codeAny (model X.prog X.w) B (.builtin "list.extend.loop" ⟨[.ref S, .ref z, res], []⟩) R s := by
  intro k
  induction k with
  | zero =>
    intro i H s vs acc c hk hi I hf hp hto t1 t2 hz eS rv qa qb hps hsm
    have hi2 : i = min xs.length ys.length := by omega
    obtain ⟨ia, ra, pa, _⟩ := I.tuple qa
    obtain ⟨ib, rb, pb, _⟩ := I.tuple qb
    have la := ra.length
    have lb := rb.length
    have stop : ia.toArray[i]? = none ∨ ib.toArray[i]? = none := by
      rcases Nat.le_total xs.length ys.length with h | h
      · exact .inl (by simp; omega)
      · exact .inr (by simp; omega)
    have full : PairsIn H vs (xs.zip ys) := by
      rw [List.take_of_length_le (by rw [List.length_zip]; omega)] at hps
      exact hps
    have done : ∀ h', (∀ q o, q ≠ z → q ≠ to_ → q ≠ i1 → q ≠ i2 → s.heap.get? q = some o → h'.get? q = some o) → R (.ok (.ret res)) { s with heap := h' } := fun h' kp => by
      refine hend _ H vs acc c (I.turnedL (t' := s.toks) (ch := [z, ti, to_, i1, i2, S]) (fun q o hq e => kp q o (fun w => hq (by simp [w])) (fun w => hq (by simp [w])) (fun w => hq (by simp [w])) (fun w => hq (by simp [w])) e) hf) (hf S (by simp)) ?_ rv hsm full
      exact kp S _ hS.1 hS.2.2.1 hS.2.2.2.1 hS.2.2.2.2 eS
    refine codeAny_builtin F.entry_extend_loop ?_
    rw [Around.under_plainId F.plain_extend_loop _]
    show wpAny _ B.in1 (pyNext (.ref z) >>= _) _ _ s
    refine wpAny_bind ?_
    rcases hz with hz | ⟨T, f, o, hz, hT⟩
    · obtain ⟨u, v, hto⟩ := hto
      exact RZ.pyNext_zipT_end (A := B.in1) hd D hz hp hto t1 t2 pa pb stop fun h' kp => wpAny_pure (done h' kp)
    · obtain ⟨it, _, ⟨oT, hoT, _⟩, _⟩ := I.tuple (SqT.of (K := X.K) hT)
      exact held_stop (B := B.in1) hd D hz hoT hp t1 t2 pa pb stop fun h' kp => wpAny_pure (done h' fun q o b1 _ b3 b4 e => kp q o b1 b3 b4 e)
  | succ k ih =>
    intro i H s vs acc c hk hi I hf hp hto t1 t2 hz eS rv qa qb hps hsm
    have hix : i < xs.length := by omega
    have hiy : i < ys.length := by omega
    obtain ⟨ia, ra, pa, _⟩ := I.tuple qa
    obtain ⟨ib, rb, pb, _⟩ := I.tuple qb
    obtain ⟨u, hu, ru⟩ := ra.get (List.getElem?_eq_getElem hix)
    obtain ⟨v, hv, rw_⟩ := rb.get (List.getElem?_eq_getElem hiy)
    have hu' : ia.toArray[i]? = some u := by simpa using hu
    have hv' : ib.toArray[i]? = some v := by simpa using hv
    obtain ⟨N, hN⟩ : ∃ N, N = s.heap.objs.size := ⟨_, rfl⟩
    have accl : acc.size = i := by
      have e1 := rv.length
      have e2 : acc.toList.length = acc.size := by simp
      have e3 := hps.len
      rw [List.length_take, List.length_zip] at e3
      omega
    have below : ∀ q ∈ [z, ti, to_, i1, i2, S], q < s.heap.objs.size := fun q hq => by
      obtain ⟨w1, w2, e2⟩ := hto
      obtain ⟨o1, e3, _⟩ := t1
      obtain ⟨o2, e4, _⟩ := t2
      have ez : ∃ o, s.heap.get? z = some o := by
        rcases hz with e | ⟨_, _, _, e, _⟩
        · exact ⟨_, e⟩
        · exact ⟨_, e⟩
      obtain ⟨oz, ez⟩ := ez
      simp only [List.mem_cons, List.not_mem_nil, or_false] at hq
      rcases hq with e | e | e | e | e | e
      · rw [e]; exact Heap.lt_size ez
      · rw [e]; exact Heap.lt_size hp
      · rw [e]; exact Heap.lt_size e2
      · rw [e]; exact Heap.lt_size e3
      · rw [e]; exact Heap.lt_size e4
      · rw [e]; exact Heap.lt_size eS
    have hNn : H N = none := I.hok.fresh (by rw [hN]; exact Nat.le_refl _)
    have go : ∀ h', (∃ T f o, IsZipHeld h' z ti to_ T f ∧ (upd H N (.tup [xs[i], ys[i]])) T = some (.tup o)) → (∃ w1 w2, IsPair h' to_ w1 w2) → h'.IsTupleIter i1 a (i + 1) → h'.IsTupleIter i2 b (i + 1) → IsPair h' N u v →
        (∀ q o, q ≠ z → q ≠ to_ → q ≠ i1 → q ≠ i2 → s.heap.get? q = some o → h'.get? q = some o) →
        wpAny (model X.prog X.w) B.in1 (updateSeq S (·.push (.ref N)) >>= fun _ => again (.builtin "list.extend.loop" ⟨[.ref S, .ref z, res], []⟩))
          (fun fin s' => match fin with | .done f => R (.ok f) s' | .again c' => c'.quiet = true ∧ codeAny (model X.prog X.w) B c' R s') (fun e s' => R (.error e) s') { s with heap := h' } := fun h' hz' hto' t1' t2' pN kp => by
      have eS' : h'.get? S = some (lstObj acc c) := kp S _ hS.1.symm.symm hS.2.2.1 hS.2.2.2.1 hS.2.2.2.2 eS
      have new : ObjOk X.prog X.w (upd H N (.tup [xs[i], ys[i]])) h' N (.tup [xs[i], ys[i]]) := ⟨(by show 2 ≤ 16777216; decide), [u, v], .cons ru (.cons rw_ .nil), ⟨_, pN, rfl, _, rfl⟩⟩
      have I2 : Inv X pins σ (upd H N (.tup [xs[i], ys[i]])) { s with heap := h' } := I.turnedNew (t' := s.toks) (ch := [z, ti, to_, i1, i2, S]) (fun q o hq e => kp q o (fun w => hq (by simp [w])) (fun w => hq (by simp [w])) (fun w => hq (by simp [w])) (fun w => hq (by simp [w])) e) hf (by rw [hN]; exact Nat.le_refl _) new
      have hf2 : ∀ q ∈ [z, ti, to_, i1, i2, S], FpOk X pins (upd H N (.tup [xs[i], ys[i]])) q := fun q hq => by
        obtain ⟨f0, f1⟩ := hf q hq
        exact ⟨by rw [upd_ne (by rw [hN]; exact Nat.ne_of_lt (below q hq))]; exact f0, f1⟩
      refine wpAny_bind (wpAny_updateSeq eS' rfl (wpAny_pure ⟨plainId_quiet F.plain_extend_loop _, ?_⟩) (by show acc.size ≤ 16777216; omega) (by show (acc.push _).size ≤ 16777216 + 1; rw [Array.size_push]; omega))
      have oth : ∀ q o, q ≠ S → h'.get? q = some o → (h'.update S (Obj.mapSeq (·.push (Value.ref N)))).get? q = some o := fun q o hq e => (Heap.get?_update_other _ _ (Ne.symm hq)).trans e
      have sm : Same H (upd H N (.tup [xs[i], ys[i]])) := same_new hNn
      refine ih (i + 1) (upd H N (.tup [xs[i], ys[i]])) { s with heap := h'.update S (Obj.mapSeq (·.push (Value.ref N))) } (vs ++ [.ref N]) (acc.push (.ref N)) _ (by omega) (by omega)
        (Inv.turnedL (s := { s with heap := h' }) (h' := h'.update S (Obj.mapSeq (·.push (Value.ref N)))) I2 (t' := s.toks) (ch := [S]) (fun q o hq e => oth q o (fun w => hq (by simp [w])) e) fun q hq => hf2 q (by simp at hq; simp [hq])) hf2 (oth _ _ hS.2.1.symm (kp _ _ D.TIz D.TITO D.TIi1 D.TIi2 hp)) ?_ (t1'.at fun o e => oth _ o hS.2.2.2.1.symm e) (t2'.at fun o e => oth _ o hS.2.2.2.2.symm e) ?_
        (Heap.get?_update_self _ eS' rfl) ?_ ((TK.same sm).seq qa) ((TK.same sm).seq qb) ?_ (hsm.trans sm)
      · obtain ⟨w1, w2, e⟩ := hto'
        exact ⟨w1, w2, oth _ _ hS.2.2.1.symm e⟩
      · obtain ⟨T, f, o, e, eT⟩ := hz'
        exact .inr ⟨T, f, o, oth _ _ hS.1.symm e, eT⟩
      · rw [Array.toList_push]
        exact rv.append (.cons rfl .nil)
      · have ez : (xs.zip ys)[i]? = some (xs[i], ys[i]) := List.getElem?_zip_eq_some.mpr ⟨List.getElem?_eq_getElem hix, List.getElem?_eq_getElem hiy⟩
        rw [List.take_add_one, ez]
        exact (hps.same sm).snoc upd_same
    refine codeAny_builtin F.entry_extend_loop ?_
    rw [Around.under_plainId F.plain_extend_loop _]
    show wpAny _ B.in1 (pyNext (.ref z) >>= _) _ _ s
    refine wpAny_bind ?_
    rcases hz with hz | ⟨T, f, o, hz, hT⟩
    · obtain ⟨w1, w2, hto⟩ := hto
      refine RZ.pyNext_zipT_item (A := B.in1) D hz hp hto t1 t2 pa pb hu' hv' fun h' z1 z2 z3 z4 z5 z6 kp => ?_
      rw [← hN] at z1 z5 ⊢
      exact go h' ⟨N, false, _, z1, upd_same⟩ ⟨_, _, z2⟩ z3 z4 z5 kp
    · obtain ⟨it, _, ⟨oT, hoT, _⟩, _⟩ := I.tuple (SqT.of (K := X.K) hT)
      obtain ⟨w1, w2, hto⟩ := hto
      refine held_next (B := B.in1) D hz hoT hp t1 t2 pa pb hu' hv' fun h' z1 z3 z4 z5 kp => ?_
      rw [← hN] at z5 ⊢
      exact go h' ⟨T, true, o, z1, by rw [upd_ne (ne_of_none hT hNn)]; exact hT⟩ ⟨_, _, kp _ _ D.TOz D.TOi1 D.TOi2 hto⟩ z3 z4 z5 fun q o b1 _ b3 b4 e => kp q o b1 b3 b4 e
end

theorem far5 {N S : Nat} (h : N + 4 < S) : S ≠ N + 4 ∧ S ≠ N + 2 ∧ S ≠ N + 3 ∧ S ≠ N ∧ S ≠ N + 1 := ⟨by omega, by omega, by omega, by omega, by omega⟩
theorem six_ge {N S c : Nat} (h : N + 4 < S) (hc : c ∈ [N + 4, N + 2, N + 3, N, N + 1, S]) : N ≤ c := by
  simp only [List.mem_cons, List.not_mem_nil, or_false] at hc
  omega
theorem zip_nolen : typeLookup (.type "zip") "__len__" = pure none := am_miss_of_fast (by decide +kernel)
theorem zip_nohint : typeLookup (.type "zip") "__length_hint__" = pure none := am_miss_of_fast (by decide +kernel)
def tListZip (K : PySem.W.Frag) (ta : TA) : TE := fun σ H Q => ta σ H fun vs H1 => ∃ a b xs ys, vs = [.ref a, .ref b] ∧ SqT K H1 a xs ∧ SqT K H1 b ys ∧ xs.length ≤ 100000 ∧
  ∀ p H' out, Same H1 H' → H1 p = none → H' p = some (.lst out) → PairsIn H' out (xs.zip ys) → Q (.ref p) H'
section
open PySem.Spec PyProof.Rows
variable {X : Cx}
theorem pe_listZip (hc : X.calm = true) {e e2 : Expr} {ta : TA} {p q pos qos : Pos} (hgL : Gl X "list") (hmL : X.mg "list" = none) (hvL : bootBuiltins "list" = some (.type "list")) (hg : Gl X "zip") (hm : X.mg "zip" = none) (ha : PA X [e, e2] ta)
    (h1 : starEach [.Call (.Name "zip" q) [e, e2] [] qos] X.env = (false, eval (.Call (.Name "zip" q) [e, e2] [] qos) X.env) :: starEach [] X.env := by rfl)
    (hs : starEach [e, e2] X.env = (false, eval e X.env) :: starEach [e2] X.env := by rfl) (hpl : (backTo qos (starEach [e2] X.env)).any (·.1) = false := by rfl) :
    PE X (.Call (.Name "list" p) [.Call (.Name "zip" q) [e, e2] [] qos] [] pos) (tListZip X.K ta) := by
  refine ⟨fun pins s σ H Q I h => ?_⟩
  refine wpAny_Call_Name_kw (ld_blt I hgL hmL hvL ?_)
  refine PyProof.Rows.callWith_type1 ?_ h1 rfl
  rw [h1]
  show wpAny _ _ (spliced ((false, eval (.Call (.Name "zip" q) [e, e2] [] qos) X.env) :: backTo pos (starEach [] X.env))) _ _ s
  refine Calls.spliced_cons ?_
  refine Call_ (ld_blt I hg hm PyProof.Rows.boot_zip (PyProof.Rows.callWith_type1 (thn (ha.run qos pins s σ H _ I h) fun us s1 ⟨vs, H1, I1, r1, q1⟩ => ?_) hs hpl))
  obtain ⟨a, b, xs, ys, ex, hqx, hqy, hxl, q1⟩ := q1
  subst ex
  obtain ⟨ua, ub, rfl⟩ : ∃ ua ub, us = [ua, ub] := by
    have e := r1.length
    match us, e with
    | [x, y], _ => exact ⟨x, y, rfl⟩
  obtain rfl : ua = .ref a := by cases r1 with | cons r _ => exact r
  obtain rfl : ub = .ref b := by cases r1 with | cons _ r => cases r with | cons r _ => exact r
  obtain ⟨its, rv, p1, _⟩ := I1.tuple hqx
  obtain ⟨its2, rv2, p2, _⟩ := I1.tuple hqy
  obtain ⟨o1, ho1, _⟩ := id p1
  obtain ⟨o2, ho2, _⟩ := id p2
  refine RZ.call_zipT (show s1.heap.IsTuple a its.toArray from p1) (show s1.heap.IsTuple b its2.toArray from p2) fun h' hz hTI hTO t1 t2 hsz hk => ?_
  obtain ⟨N, hN⟩ : ∃ N, N = s1.heap.objs.size := ⟨_, rfl⟩
  rw [← hN] at hz hTI hTO t1 t2 hsz
  have D : ZipApart (N + 4) (N + 2) (N + 3) N (N + 1) a b := PySem.W.ktu_apart N a b (by rw [hN]; exact Heap.lt_size ho1) (by rw [hN]; exact Heap.lt_size ho2)
  have I2 : Inv X pins σ H1 { s1 with heap := h' } := I1.kept (t' := s1.toks) hk
  refine Calls.spliced_nil ?_
  rw [← hN]
  have zlt : (N + 4 : Nat) < h'.objs.size := by rw [hsz]; exact Nat.lt_succ_self _
  obtain ⟨S, hS⟩ : ∃ S, S = h'.objs.size := ⟨_, rfl⟩
  have fS : ∀ g : Heap, (∀ b o, h'.get? b = some o → g.get? b = some o) → IsZip g (N + 4) (N + 2) (N + 3) .none := fun g k => k _ _ hz
  have tyZ : ∀ {s' : Shared}, (∀ b o, h'.get? b = some o → s'.heap.get? b = some o) → s'.TypeIs (.ref (N + 4)) "zip" := fun {s'} k => ⟨_, fS _ k, rfl⟩
  refine callType_codes (Q₁ := fun obj s2 => obj = .ref S ∧ s2 = { s1 with heap := h'.push { cls := .type "list", data := .seq #[] } }) PySem.F.called_list (PySem.F.typeCall_list_1 _) PySem.F.entry_list_init
    (code_list_new _ ⟨by rw [hS], rfl⟩) fun obj s2 e2 => ?_
  obtain ⟨rfl, rfl⟩ := e2
  have l0 : (h'.push { cls := .type "list", data := .seq #[] }).get? S = some { cls := .type "list", data := .seq #[] } := by rw [hS]; exact Heap.get?_push_size _ rfl
  refine ⟨⟨_, l0, rfl⟩, PySem.F.args_list_init_2 _ _, ?_⟩
  show wpAny _ X.A.in1.in1 (do let old ← Builtin.List.listItems (.ref S); Builtin.List.listUpdate (.ref S) (fun _ => #[]); letGo old.toList.reverse; Builtin.List.listExtendWith (.ref S) (.ref (N + 4)) .none) _ _ _
  unfold Builtin.List.listItems
  refine wpAny_bind (wpAny_bind (wpAny_seqItems l0 rfl (wpAny_pure ?_)))
  show wpAny _ X.A.in1.in1 (updateSeq S (fun _ => #[]) >>= fun _ => letGo (#[] : Array Value).toList.reverse >>= fun _ => Builtin.List.listExtendWith (.ref S) (.ref (N + 4)) .none) _ _ _
  refine wpAny_bind (wpAny_updateSeq l0 rfl (wpAny_bind (wpAny_letGo ?_)))
  have l1 := Heap.get?_update_self (Obj.mapSeq (fun _ => (#[] : Array Value))) l0 rfl
  have up : ∀ (g : Heap) (f : Obj → Obj), (∀ b o, h'.get? b = some o → g.get? b = some o) → ∀ b o, h'.get? b = some o → (g.update S f).get? b = some o := fun g f k b o e =>
    (Heap.get?_update_other _ _ (fun w => absurd (Heap.lt_size e) (by rw [← w, hS]; exact Nat.lt_irrefl _))).trans (k b o e)
  have k1 := up _ (Obj.mapSeq (fun _ => (#[] : Array Value))) fun b o e => Heap.get?_push_of_some { cls := .type "list", data := .seq #[] } e
  have dif : Builtin.List.listSameRef (.ref S) (.ref (N + 4)) = false := by
    have : S ≠ N + 4 := by rw [hS]; exact Nat.ne_of_gt zlt
    simp [Builtin.List.listSameRef, this]
  unfold Builtin.List.listExtendWith
  refine wpAny_bind (wpAny_typeOf (tyZ k1) ?_)
  simp only [dif, show (Value.type "zip" == Value.type "list") = false by decide, show (Value.type "zip" == Value.type "tuple") = false by decide, Bool.or_false, Bool.false_eq_true, if_false]
  refine wpAny_bind (wpAny_pyIter_zip (fS _ k1) (wpAny_bind (wpAny_holding ?_)))
  unfold Builtin.List.listLengthHint
  refine wpAny_bind (wpAny_specialOf (tyZ k1) zip_nolen ?_)
  show wpAny _ X.A.in1.in1 (specialOf (Value.ref (N + 4)) (Str.ofString "__length_hint__") >>= _) _ _ _
  refine wpAny_bind (wpAny_specialOf (tyZ k1) zip_nohint (wpAny_pure ?_))
  show wpAny _ X.A.in1.in1 (rule "list.extend.makes-room" >>= fun _ => Builtin.List.listTouch (.ref S) >>= fun _ => again (.builtin "list.extend.loop" ⟨[.ref S, .ref (N + 4), .none], []⟩)) _ _ _
  refine wpAny_bind (wpAny_rule (wpAny_bind ?_))
  show wpAny _ X.A.in1.in1 (updateSeq S (·.push .none) >>= fun _ => updateSeq S (·.pop)) _ _ _
  refine wpAny_bind (wpAny_updateSeq l1 rfl ?_)
  have l2 := Heap.get?_update_self (Obj.mapSeq (·.push Value.none)) l1 rfl
  refine wpAny_updateSeq (hz := by seq_fits) l2 rfl ?_
  have l3 := Heap.get?_update_self (Obj.mapSeq (·.pop)) l2 rfl
  have k3 := up _ (Obj.mapSeq (·.pop)) (up _ (Obj.mapSeq (·.push Value.none)) k1)
  refine wpAny_pure ⟨plainId_quiet PySem.F.plain_extend_loop _, ?_⟩
  have I3 := Inv.kept (s := { s1 with heap := h' }) I2 (t' := s1.toks) k3
  have hNs : s1.heap.objs.size ≤ N := by rw [hN]; exact Nat.le_refl _
  have young : ∀ c, N ≤ c → FpOk X pins H1 c := fun c hcc => I1.fpOk (Nat.le_trans hNs hcc) (I1.hok.fresh (Nat.le_trans hNs hcc))
  have ltS : N + 4 < S := by rw [hS]; exact zlt
  refine zip_fill hc (B := X.A.in1) (H1 := H1) (I1.ok.hd hc) D (far5 ltS) hxl (fun s' H' vs acc c J fo eS rvs sm pr => ?_) _ 0 H1 _ [] #[] _ rfl (Nat.zero_le _) I3 (fun c hcc => young c (six_ge ltS hcc)) (k3 _ _ hTI) ⟨_, _, k3 _ _ hTO⟩ (t1.at fun o e => k3 _ o e) (t2.at fun o e => k3 _ o e) (.inl (k3 _ _ hz)) l3 .nil hqx hqy .nil (Same.refl _)
  refine ⟨rfl, .ref S, upd H' S (.lst vs), ?_, rfl, q1 S _ vs (same_upd sm (I1.hok.fresh (Nat.le_trans hNs (Nat.le_trans (Nat.le_add_right _ _) (Nat.le_of_lt ltS))))) (I1.hok.fresh (Nat.le_trans hNs (Nat.le_trans (Nat.le_add_right _ _) (Nat.le_of_lt ltS)))) upd_same (pr.same (same_new fo.1))⟩
  have vl : vs.length ≤ 16777216 := by
    have e := pr.len
    rw [List.length_zip] at e
    omega
  refine J.step (h' := s'.heap) (g' := s'.gens) (t' := s'.toks) (d' := s'.drawn) (ch := [S]) (fun c hcc => ?_) (fun _ _ _ _ _ e _ => e) (fun b o _ _ _ e _ => ⟨o.slots, e⟩) (fun b o hb e n => ?_) (fun b o _ e => ⟨o, e⟩) (fun b u e => ?_) (fun b o u e => ?_) (fun b u e => ⟨#[], ?_⟩) (fun _ hm => hm) (fun b u e => ?_) J.bare
  · rw [List.mem_singleton.mp hcc]
    exact ⟨fo.2.2.2.1, fo.2.1, fo.2.2.2.2.1, fo.2.2.2.2.2⟩
  · rw [upd_ne (fun w => hb (by rw [w]; exact List.mem_singleton.mpr rfl))]; exact n
  · rw [upd_ne (ne_of_none e fo.1)]; exact e
  · rw [upd_ne (ne_of_none e fo.1)]; exact e
  · rw [upd_ne (ne_of_none e fo.1), Array.append_empty]; exact e
  · by_cases hbS : b = S
    · subst hbS
      rw [upd_same] at e
      cases e
      exact ⟨vl, acc.toList, c, rvs, by rw [eS]⟩
    · rw [upd_ne hbS] at e
      exact (J.hok b u e).stay (fun _ _ _ w => w) (fun d w => by rw [upd_ne (ne_of_none w fo.1)]; exact w) fun d us w => by rw [upd_ne (ne_of_none w fo.1)]; exact w
end

/-! ### t[::2], t[1::2] -/
def evOther {α : Type} : List α → List α
  | [] => []
  | [a] => [a]
  | a :: _ :: r => a :: evOther r
theorem fm_congr {α β : Type} {f g : α → Option β} : ∀ {l : List α}, (∀ a ∈ l, f a = g a) → l.filterMap f = l.filterMap g
  | [], _ => rfl
  | a :: r, h => by
    rw [List.filterMap_cons, List.filterMap_cons, h a List.mem_cons_self, fm_congr fun x hx => h x (List.mem_cons_of_mem _ hx)]
theorem evOther_len {α : Type} : ∀ xs : List α, (evOther xs).length = (xs.length + 1) / 2
  | [] => by simp [evOther]
  | [a] => by simp [evOther]
  | a :: b :: r => by
    show (evOther r).length + 1 = (r.length + 1 + 1 + 1) / 2
    rw [evOther_len r]; omega
theorem evOther_pick {α : Type} : ∀ (xs : List α) (n : Nat), n = (xs.length + 1) / 2 → (List.range n).filterMap (fun k => xs[2 * k]?) = evOther xs
  | [], n, h => by
    have : n = 0 := by simpa using h
    subst this; rfl
  | [a], n, h => by
    have : n = 1 := by simpa using h
    subst this; rfl
  | a :: b :: r, n, h => by
    obtain ⟨m, rfl⟩ : ∃ m, n = m + 1 := ⟨n - 1, by simp only [List.length_cons] at h; omega⟩
    rw [List.range_succ_eq_map, List.filterMap_cons]
    show a :: List.filterMap _ (List.map Nat.succ (List.range m)) = a :: evOther r
    rw [List.filterMap_map, ← evOther_pick r m (by simp only [List.length_cons] at h; omega)]
    refine congrArg (a :: ·) (fm_congr fun k _ => ?_)
    show (a :: b :: r)[2 * (k + 1)]? = r[2 * k]?
    rw [show 2 * (k + 1) = 2 * k + 1 + 1 by omega]
    rfl
section
open PySem.Spec PyProof.Rows
variable {pr : Program} {wo : World} {B : Around} {FE : Value → Shared → Prop} {st : Shared}
theorem evOther_arr (items : Array Value) (a n : Nat) (hn : n = ((items.toList.drop a).length + 1) / 2) : ((List.range n).filterMap fun (k : Nat) => items[((a : Int) + (k : Int) * 2).toNat]?) = evOther (items.toList.drop a) := by
  rw [← evOther_pick _ n hn]
  refine fm_congr fun k _ => ?_
  rw [List.getElem?_drop, Array.getElem?_toList, show ((a : Int) + (k : Int) * 2).toNat = a + 2 * k by omega]
theorem applied2 {sl : Addr} {vl : Value} {t : Tok} {a : Nat} {lo : Option Int} {n : Nat} {Q : Int × Int × Nat → Shared → Prop} (hs : st.heap.IsSliceOf sl vl .none (.int 2 t)) (pl : IsPart vl lo) (hlo : (lo = none ∧ a = 0) ∨ lo = some (a : Int))
    (h : Q (((min a n : Nat) : Int), 2, (n - min a n + 1) / 2) st) : wpAny (model pr wo) B (Builtin.Slice.sliceApplied (.ref sl) (pure (n : Int))) Q FE st := by
  obtain ⟨os, e1, e2, e3⟩ := id hs
  unfold Builtin.Slice.sliceApplied Builtin.Slice.sliceFields
  refine wpAny_bind (wpAny_bind (wpAny_field e1 e3 (x := vl) rfl (wpAny_bind (wpAny_field e1 e3 (x := Value.none) rfl (wpAny_bind (wpAny_field e1 e3 (x := Value.int 2 t) rfl (wpAny_pure ?_)))))))
  refine wpAny_bind (slicePart_int ?_)
  show wpAny _ _ (if ((2 : Int) == 0) = true then _ else _) _ _ st
  rw [if_neg (by decide)]
  refine wpAny_bind (HT.slicePart_ pl (wpAny_bind (slicePart_none (wpAny_bind (wpAny_pure ?_)))))
  have adj : Builtin.Slice.sliceAdjust lo none 2 (n : Int) = (((min a n : Nat) : Int), (n : Int)) := by
    unfold Builtin.Slice.sliceAdjust
    have h1 : ¬ ((2 : Int) < 0) := by decide
    simp only [h1, if_false]
    refine Prod.ext ?_ rfl
    rcases hlo with ⟨rfl, rfl⟩ | rfl
    · show (0 : Int) = ((min 0 n : Nat) : Int)
      rw [Nat.zero_min]; rfl
    · show (if (a : Int) < 0 then max ((a : Int) + (n : Int)) 0 else min (a : Int) (n : Int)) = ((min a n : Nat) : Int)
      rw [if_neg (by omega)]; omega
  have plc : Builtin.Slice.slicePlaces ((min a n : Nat) : Int) (n : Int) 2 = (n - min a n + 1) / 2 := by
    unfold Builtin.Slice.slicePlaces
    have h1 : (2 : Int) > 0 := by decide
    simp only [h1, if_true]
    by_cases c : ((min a n : Nat) : Int) < (n : Int)
    · rw [if_pos c]; omega
    · rw [if_neg c]; omega
  show wpAny _ _ (match Builtin.Slice.sliceAdjust lo none 2 (n : Int) with | (lo, hi) => pure (lo, (2 : Int), Builtin.Slice.slicePlaces lo hi 2)) _ _ st
  rw [adj]
  show wpAny _ _ (pure (((min a n : Nat) : Int), (2 : Int), Builtin.Slice.slicePlaces ((min a n : Nat) : Int) (n : Int) 2)) _ _ st
  rw [plc]
  exact wpAny_pure h
theorem tuple_step2 {t sl : Addr} {items : Array Value} {vl : Value} {tk : Tok} {a : Nat} {lo : Option Int} {Q : Value → Shared → Prop} (ht : IsTup st.heap t items) (hs : st.heap.IsSliceOf sl vl .none (.int 2 tk)) (pl : IsPart vl lo) (hlo : (lo = none ∧ a = 0) ∨ lo = some (a : Int))
    (h : Q (.ref st.heap.objs.size) { st with heap := st.heap.push { cls := .type "tuple", data := .seq (evOther (items.toList.drop a)).toArray } }) (hsz : items.size ≤ sizeLine) : wpAny (model pr wo) B (getItem (.ref t) (.ref sl)) Q FE st := by
  obtain ⟨os, e1, e2, e3⟩ := id hs
  have tyS : st.TypeIs (.ref sl) "slice" := ⟨os, e1, e2⟩
  unfold getItem
  try with_reducible refine wpAny_holding ?_
  first | refine wpAny_bind (wpAny_pure ?_) | skip
  refine wpAny_bind (wpAny_sequenceKey ht.typeIs (by decide) ?_)
  refine wpAny_bind (wpAny_callSpecial?_slot (name := Str.ofString "__getitem__") ht.typeIs PyProof.Rows.slot_tuple_getitem ?_)
  refine wpAny_call_entry PyProof.Rows.slot_tuple_getitem ht.typeIs entry_tuple_getitem ?_ (args_tuple_getitem _ _)
  show wpAny _ _ (Builtin.Tuple.tupleItemsOf (.ref t) >>= _) _ _ st
  refine wpAny_bind (tupleItemsOf_ ht (wpAny_bind (wpAny_typeOf tyS ?_)))
  rw [if_pos (by decide)]
  refine wpAny_bind (applied2 hs pl hlo ?_)
  show wpAny _ _ (if (((min a items.size : Nat) : Int) == 0 && (2 : Int) == 1 && (items.size - min a items.size + 1) / 2 == items.size) = true then _ else _) _ _ st
  rw [if_neg (by rw [show ((2 : Int) == 1) = false from rfl, Bool.and_false, Bool.false_and]; exact Bool.false_ne_true)]
  have dl : items.toList.drop (min a items.size) = items.toList.drop a := by
    by_cases c : a ≤ items.size
    · rw [Nat.min_eq_left c]
    · rw [List.drop_eq_nil_of_le (by rw [Array.length_toList]; omega), List.drop_eq_nil_of_le (by rw [Array.length_toList]; omega)]
  have arr := evOther_arr items (min a items.size) ((items.size - min a items.size + 1) / 2) (by rw [List.length_drop, Array.length_toList])
  rw [dl] at arr
  rw [arr]
  have fit : sizeOk (.seq (evOther (items.toList.drop a)).toArray) := by
    show (evOther (items.toList.drop a)).toArray.size ≤ sizeLine
    rw [List.size_toArray, evOther_len, List.length_drop, Array.length_toList]
    omega
  first
    | exact wpAny_bind (m := Builtin.Tuple.tupleExact _) (wpAny_newObj_type (wpAny_pure ⟨_, rfl, wpAny_pure h⟩) fit)
    | exact wpAny_bind (wpAny_bind (m := Builtin.Tuple.tupleExact _) (wpAny_newObj_type (wpAny_pure (wpAny_pure ⟨_, rfl, wpAny_pure h⟩)) fit))
    | exact wpAny_bind (wpAny_bind (m := Builtin.Tuple.tupleExact _) (wpAny_newObj_type (wpAny_pure ⟨_, rfl, wpAny_pure h⟩) fit))
end
theorem Vals.every : ∀ {xs : List V} {us : List Value}, Vals xs us → Vals (evOther xs) (evOther us)
  | _, _, .nil => .nil
  | _, _, .cons r .nil => .cons r .nil
  | _, _, .cons r (.cons _ t) => .cons r (Vals.every t)
def tSl2 (K : PySem.W.Frag) (te : TE) (tl : TO) : TE := fun σ H Q => te σ H fun x H1 => tl σ H1 fun l H2 => ∃ a xs k, x = .ref a ∧ SqT K H2 a xs ∧ ((l = none ∧ k = 0) ∨ l = some ((k : Nat) : Int)) ∧ ∀ p, H2 p = none → Q (.ref p) (upd H2 p (.tup (evOther (xs.drop k))))
section
open PySem.Spec PyProof.Rows
variable {X : Cx}
theorem pe_slice2 {e : Expr} {te : TE} {lo : Option Expr} {tl : TO} {k : Nat} {p1 p3 pos : Pos} (he : PE X e te) (hl : PO X lo tl) : PE X (.Subscript e (.Slice lo none (some (.Constant (.int 2) k p1)) p3) pos) (tSl2 X.K te tl) := by
  refine ⟨fun pins s σ H Q I h => ?_⟩
  refine Subscript_ (thn (he.run pins s σ H _ I h) fun v s1 ⟨x, H1, I1, r1, q1⟩ => ?_)
  refine wpAny_Slice (thn (hl.run pins s1 σ H1 _ I1 q1) fun va g2 ⟨l, H2, J2, pl, q2⟩ => ?_)
  obtain ⟨a, xs, k0, ex, hx, hlo, q⟩ := q2
  subst ex
  cases r1
  have two : PO X (some (.Constant (.int 2) k p1)) (tPart (tC (.int 2))) := po_some pe_int
  refine thn (po_none.run pins g2 σ H2 (fun o G => o = none ∧ G = H2) J2 ⟨rfl, rfl⟩) fun vb g3 ⟨o3, H3, J3, pb, eo3, eh3⟩ => ?_
  subst eo3
  subst eh3
  refine thn (two.run pins g3 σ H3 (fun o G => o = some 2 ∧ G = H3) J3 ⟨2, rfl, rfl, rfl⟩) fun vc g4 ⟨o4, H4, J4, pc, eo4, eh4⟩ => ?_
  subst eo4
  subst eh4
  obtain rfl : vb = Value.none := by cases pb; rfl
  obtain ⟨tk, rfl⟩ : ∃ tk, vc = Value.int 2 tk := by cases pc; exact ⟨_, rfl⟩
  have J5 : Inv X pins σ H4 { g4 with heap := g4.heap.push { cls := .type "slice", data := .fields #[va, .none, .int 2 tk] } } := J4.kept (t' := g4.toks) fun b o w => Heap.get?_push_of_some _ w
  obtain ⟨its, rv, pt, hz⟩ := J5.tuple hx
  have hl2 : its.length = xs.length := rv.length.symm
  show wpAny (model X.prog X.w) X.A (subscriptTail e (.Slice lo none (some (.Constant (.int 2) k p1)) p3) (.ref a) (.ref g4.heap.objs.size)) (EP X pins σ Q) X.xe { g4 with heap := g4.heap.push { cls := .type "slice", data := .fields #[va, .none, .int 2 tk] } }
  refine tail_any (ops := [.ref a, .ref g4.heap.objs.size]) pt.typeIs PyProof.Rows.slot_tuple_getitem.lookup ?_ (by with_unfolding_all rfl)
  refine tuple_step2 pt (Heap.IsSliceOf.new _ va .none (.int 2 tk)) pl hlo ?_ (by rw [List.size_toArray, hl2]; exact hz)
  refine ⟨.ref _, _, J5.laid (t' := g4.toks) (o := .tup (evOther (xs.drop k0))) (fun b o w => Heap.get?_push_of_some _ w) (Nat.le_refl _) ?_, rfl, q _ (J5.hok.fresh (Nat.le_refl _))⟩
  have e9 : (evOther (xs.drop k0)).length ≤ sizeLine := by rw [evOther_len, List.length_drop]; omega
  exact ⟨e9, _, Vals.every (rv.drop k0), IsTup.new _ _⟩
end

/-! ### timelines -/
def encI (ts : List Int) : PyData := .tuple (ts.map .int)
theorem imm_encI (ts : List Int) : Imm (encI ts) := .tup fun d hd => by
  obtain ⟨n, _, rfl⟩ := List.mem_map.mp hd; exact .int _
def Rise (ts : List Int) : Prop := ts.Pairwise (· < ·)
def inL (ts : List Int) (k : Int) : Bool := ts.foldl (fun b t => if t ≤ k then !b else b) false
theorem fold_none {k : Int} : ∀ (ts : List Int) (b : Bool), (∀ t ∈ ts, k < t) → ts.foldl (fun b t => if t ≤ k then !b else b) b = b
  | [], _, _ => rfl
  | t :: r, b, h => by
    have h1 := h t List.mem_cons_self
    rw [List.foldl_cons, if_neg (by omega)]
    exact fold_none r b fun x hx => h x (List.mem_cons_of_mem _ hx)
theorem inL_two {a b : Int} {r : List Int} (h : Rise (a :: b :: r)) (k : Int) : inL (a :: b :: r) k = (decide (a ≤ k ∧ k < b) || inL r k) := by
  have hab : a < b := (List.pairwise_cons.mp h).1 b List.mem_cons_self
  have hbr := (List.pairwise_cons.mp (List.pairwise_cons.mp h).2).1
  unfold inL
  rw [List.foldl_cons, List.foldl_cons]
  by_cases h1 : a ≤ k
  · by_cases h2 : b ≤ k
    · rw [if_pos h1, if_pos h2, decide_eq_false (by omega)]; rfl
    · have hr : ∀ t ∈ r, k < t := fun t ht => by have := hbr t ht; omega
      rw [if_pos h1, if_neg h2, decide_eq_true (by omega), fold_none r _ hr, fold_none r _ hr]; rfl
  · have h2 : ¬ b ≤ k := by omega
    rw [if_neg h1, if_neg h2, decide_eq_false (by omega)]; rfl
theorem inL_one (a k : Int) : inL [a] k = decide (a ≤ k) := by
  unfold inL
  rw [List.foldl_cons, List.foldl_nil]
  by_cases h1 : a ≤ k
  · rw [if_pos h1, decide_eq_true h1]; rfl
  · rw [if_neg h1, decide_eq_false h1]
theorem inL_far {M : Int} : ∀ (ts : List Int) (b : Bool), (∀ t ∈ ts, t ≤ M) → ∀ k, M ≤ k → ts.foldl (fun b t => if t ≤ k then !b else b) b = ts.foldl (fun b t => if t ≤ M then !b else b) b
  | [], _, _, _, _ => rfl
  | t :: r, b, h, k, hk => by
    have h1 := h t List.mem_cons_self
    rw [List.foldl_cons, List.foldl_cons, if_pos (by omega), if_pos h1]
    exact inL_far r _ (fun x hx => h x (List.mem_cons_of_mem _ hx)) k hk
def spansL : List Int → List (Int × Option Int)
  | [] => []
  | [a] => [(a, none)]
  | a :: b :: r => (a, some b) :: spansL r
theorem spansL_len : ∀ ts : List Int, (spansL ts).length = (ts.length + 1) / 2
  | [] => by simp [spansL]
  | [a] => by simp [spansL]
  | a :: b :: r => by
    show (spansL r).length + 1 = (r.length + 1 + 1 + 1) / 2
    rw [spansL_len r]; omega
theorem spansL_get : ∀ (ts : List Int) (i : Nat) (h : 2 * i < ts.length), (spansL ts)[i]? = some (ts[2 * i], ts[2 * i + 1]?)
  | [], i, h => absurd h (by simp)
  | [a], i, h => by
    have : i = 0 := by simp at h; omega
    subst this; rfl
  | a :: b :: r, 0, h => rfl
  | a :: b :: r, i + 1, h => by
    have h2 : 2 * i < r.length := by simp only [List.length_cons] at h; omega
    show (spansL r)[i]? = _
    rw [spansL_get r i h2]
    have e1 : (a :: b :: r)[2 * (i + 1)]'h = r[2 * i] := by
      have e : (a :: b :: r)[2 * (i + 1)]? = r[2 * i]? := by rw [show 2 * (i + 1) = 2 * i + 1 + 1 by omega]; rfl
      rw [List.getElem?_eq_getElem h, List.getElem?_eq_getElem h2] at e
      exact Option.some.inj e
    have e2 : (a :: b :: r)[2 * (i + 1) + 1]? = r[2 * i + 1]? := by rw [show 2 * (i + 1) + 1 = (2 * i + 1) + 1 + 1 by omega]; rfl
    rw [e1, e2]
def oV : Option Int → V
  | none => .non
  | some b => .int b
def oP : Option Int → PyData
  | none => .none
  | some b => .int b
def encSp (p : Int × Option Int) : PyData := .tuple [.int p.1, oP p.2]
theorem imm_oP (o : Option Int) : Imm (oP o) := by
  cases o with
  | none => exact .non
  | some b => exact .int b
theorem imm_encSp (p : Int × Option Int) : Imm (encSp p) := .tup fun d hd => by
  rcases List.mem_cons.mp hd with rfl | hd
  · exact .int _
  · rw [List.mem_singleton.mp hd]; exact imm_oP _
theorem dp_oP {K : PySem.W.Frag} {H : Hp} (o : Option Int) : Dp K H (oV o) (oP o) := by
  cases o with
  | none => exact .non
  | some b => exact .int b
theorem every_cons {α : Type} (b : α) (r : List α) : evOther (b :: r) = b :: evOther (r.drop 1) := by
  cases r with
  | nil => simp [evOther]
  | cons c r => rfl
theorem zip_spans : ∀ ts : List Int, (evOther (ts.map V.int)).zip (evOther ((ts.map V.int).drop 1) ++ [V.non]) = (spansL ts).map fun p => (V.int p.1, oV p.2)
  | [] => by simp [evOther, spansL]
  | [a] => by simp [evOther, spansL, oV]
  | a :: b :: r => by
    have e1 : evOther ((a :: b :: r).map V.int) = V.int a :: evOther (r.map V.int) := rfl
    have e2 : evOther (((a :: b :: r).map V.int).drop 1) = V.int b :: evOther ((r.map V.int).drop 1) := every_cons _ _
    rw [e1, e2, List.cons_append, List.zip_cons_cons, zip_spans r]
    rfl
theorem pairs_spans {K : PySem.W.Frag} {H : Hp} : ∀ {ps : List (Int × Option Int)} {vs : List V}, PairsIn H vs (ps.map fun p => (V.int p.1, oV p.2)) → DpAll K H vs (ps.map encSp)
  | [], _, h => by cases h; exact .nil
  | p :: r, _, h => by
    cases h with
    | cons e t => exact .cons (.tup (SqT.of e) (.cons (.int _) (.cons (dp_oP _) .nil))) (pairs_spans t)
/-- how much of a span lies before T -/
def partL (T : Int) (p : Int × Option Int) : Int := if p.1 < T then (match p.2 with | none => T | some b => min b T) - p.1 else 0
def lenS (T : Int) (ps : List (Int × Option Int)) : Int := (ps.map (partL T)).sum
theorem lenS_snoc (T : Int) (ps : List (Int × Option Int)) (p : Int × Option Int) : lenS T (ps ++ [p]) = lenS T ps + partL T p := by
  unfold lenS
  rw [List.map_append, List.sum_append]
  simp
theorem range_part : ∀ (n s e : Nat), e ≤ n → ((List.range n).filter (fun j => decide (s ≤ j ∧ j < e))).length = e - s
  | 0, s, e, h => by
    have : e - s = 0 := by omega
    rw [this]; rfl
  | n + 1, s, e, h => by
    rw [List.range_succ, List.filter_append, List.length_append]
    by_cases h1 : e ≤ n
    · rw [List.filter_cons_of_neg (by rw [decide_eq_true_eq]; omega), range_part n s e h1]; rfl
    · have e0 : e = n + 1 := by omega
      have e2 : (List.range n).filter (fun j => decide (s ≤ j ∧ j < e)) = (List.range n).filter (fun j => decide (s ≤ j ∧ j < n)) := List.filter_congr fun x hx => by
        have := List.mem_range.mp hx
        by_cases c : s ≤ x
        · rw [decide_eq_true (by omega), decide_eq_true (by omega)]
        · rw [decide_eq_false (by omega), decide_eq_false (by omega)]
      rw [e2, range_part n s n (Nat.le_refl _)]
      by_cases c : s ≤ n
      · rw [List.filter_cons_of_pos (by rw [decide_eq_true_eq]; omega)]
        show n - s + 1 = e - s
        omega
      · rw [List.filter_cons_of_neg (by rw [decide_eq_true_eq]; omega)]
        show n - s + 0 = e - s
        omega
theorem filter_or {α : Type} {p q : α → Bool} (h : ∀ a, p a = true → q a = false) : ∀ l : List α, (l.filter fun a => p a || q a).length = (l.filter p).length + (l.filter q).length
  | [] => rfl
  | a :: r => by
    have ih := filter_or h r
    cases hp : p a with
    | true =>
      rw [List.filter_cons_of_pos (by rw [hp]; rfl), List.filter_cons_of_pos hp, List.filter_cons_of_neg (by rw [h a hp]; exact Bool.false_ne_true), List.length_cons, List.length_cons, ih]; omega
    | false =>
      cases hq : q a with
      | true => rw [List.filter_cons_of_pos (by rw [hp, hq]; rfl), List.filter_cons_of_neg (by rw [hp]; exact Bool.false_ne_true), List.filter_cons_of_pos hq, List.length_cons, List.length_cons, ih]; omega
      | false => rw [List.filter_cons_of_neg (by rw [hp, hq]; exact Bool.false_ne_true), List.filter_cons_of_neg (by rw [hp]; exact Bool.false_ne_true), List.filter_cons_of_neg (by rw [hq]; exact Bool.false_ne_true), ih]
def cntL (ts : List Int) (T : Nat) : Nat := ((List.range T).filter fun (k : Nat) => inL ts (k : Int)).length
theorem cnt_len (T : Nat) : ∀ ts : List Int, Rise ts → (∀ t ∈ ts, 0 ≤ t) → lenS (T : Int) (spansL ts) = (cntL ts T : Nat)
  | [], _, _ => by
    have e : cntL [] T = 0 := by
      unfold cntL
      rw [List.length_eq_zero_iff, List.filter_eq_nil_iff]
      intro a _
      show ¬ (false = true)
      exact Bool.false_ne_true
    rw [e]; simp [lenS, spansL]
  | [a], _, h0 => by
    obtain ⟨a', rfl⟩ := Int.eq_ofNat_of_zero_le (h0 a List.mem_cons_self)
    have e : cntL [(a' : Int)] T = T - a' := by
      unfold cntL
      rw [← range_part T a' T (Nat.le_refl _)]
      refine congrArg List.length (List.filter_congr fun k hk => ?_)
      have := List.mem_range.mp hk
      rw [inL_one]
      by_cases c : a' ≤ k
      · rw [decide_eq_true (by omega), decide_eq_true (by omega)]
      · rw [decide_eq_false (by omega), decide_eq_false (by omega)]
    rw [e]
    show (if (a' : Int) < (T : Int) then (T : Int) - (a' : Int) else 0) + 0 = _
    split <;> omega
  | a :: b :: r, hr, h0 => by
    obtain ⟨a', rfl⟩ := Int.eq_ofNat_of_zero_le (h0 a List.mem_cons_self)
    have hab : (a' : Int) < b := (List.pairwise_cons.mp hr).1 b List.mem_cons_self
    have hrr := (List.pairwise_cons.mp (List.pairwise_cons.mp hr).2).2
    have hbr := (List.pairwise_cons.mp (List.pairwise_cons.mp hr).2).1
    obtain ⟨b', rfl⟩ := Int.eq_ofNat_of_zero_le (h0 b (List.mem_cons_of_mem _ List.mem_cons_self))
    have ih := cnt_len T r hrr fun t ht => h0 t (List.mem_cons_of_mem _ (List.mem_cons_of_mem _ ht))
    have e : cntL ((a' : Int) :: (b' : Int) :: r) T = (min b' T - a') + cntL r T := by
      unfold cntL
      rw [← range_part T a' (min b' T) (Nat.min_le_right _ _)]
      rw [show ((List.range T).filter fun (k : Nat) => inL ((a' : Int) :: (b' : Int) :: r) (k : Int)) = (List.range T).filter fun (k : Nat) => (decide (a' ≤ k ∧ k < min b' T) || inL r (k : Int)) from List.filter_congr fun k hk => by
        have := List.mem_range.mp hk
        rw [inL_two hr]
        congr 1
        by_cases c : a' ≤ k ∧ k < b'
        · rw [decide_eq_true (by omega), decide_eq_true (by omega)]
        · rw [decide_eq_false (by omega), decide_eq_false (by omega)]]
      refine filter_or (fun k hk => ?_) _
      rw [decide_eq_true_eq] at hk
      unfold inL
      exact fold_none r _ fun t ht => by have := hbr t ht; omega
    rw [e]
    have ih' : ((spansL r).map (partL (T : Int))).sum = (cntL r T : Int) := ih
    show (partL (T : Int) ((a' : Int), some (b' : Int))) + ((spansL r).map (partL (T : Int))).sum = _
    rw [ih']
    show (if (a' : Int) < (T : Int) then min (b' : Int) (T : Int) - (a' : Int) else 0) + _ = _
    split <;> omega
theorem cnt_far {ts : List Int} {M : Nat} (h : ∀ t ∈ ts, t ≤ (M : Int)) : ∀ m, cntL ts (M + m) = cntL ts M + m * (if inL ts (M : Int) = true then 1 else 0)
  | 0 => by rw [Nat.zero_mul]; rfl
  | m + 1 => by
    have ih := cnt_far h m
    unfold cntL at ih ⊢
    rw [show M + (m + 1) = (M + m) + 1 by omega, List.range_succ, List.filter_append, List.length_append, ih]
    have e : inL ts ((M + m : Nat) : Int) = inL ts (M : Int) := inL_far ts false h _ (by omega)
    by_cases c : inL ts (M : Int) = true
    · rw [if_pos c, List.filter_cons_of_pos (by rw [e]; exact c)]
      show _ + 1 = _
      omega
    · rw [if_neg c, List.filter_cons_of_neg (by rw [e]; exact c)]
      show _ + 0 = _
      omega

open TL
theorem atI_mem {α : Type} {l : List α} {r : Int} (h0 : 0 ≤ r) (h1 : r < (l.length : Int)) : ∃ c, atI l r = some c ∧ c ∈ l := by
  obtain ⟨n, rfl⟩ := Int.eq_ofNat_of_zero_le h0
  have hn : n < l.length := by omega
  exact ⟨l[n], atI_nat (List.getElem?_eq_getElem hn), List.getElem_mem hn⟩
theorem tl_sgn (c : Nat) : tl (⟨#[c]⟩ : Str) = [c] := rfl

def ySpLaw (K : PySem.W.Frag) : Sp := fun vs H Q _ => ∃ (a : Addr) (ns : List Int), vs = [.ref a] ∧ SqL K H a (ns.map V.int) ∧ ns.length ≤ 63 ∧ ∀ H', Q (.bl true) H'
theorem box_new {H1 : Hp} {p bx : Addr} {ds : List Int} (hp : H1 p = some (.lst (ds.map V.int))) (hb : H1 bx = none) : BoxAt (upd H1 bx (.lst [.ref p, .int 0])) bx p :=
  ⟨ds, 0, upd_same, by rw [upd_ne (ne_of_none hp hb)]; exact hp⟩
theorem pick2 {a b : V} {r : Int} (h0 : 0 ≤ r) (h1 : r < 2) : atI [a, b] r = some (if r = 0 then a else b) := by
  by_cases e : r = 0
  · subst e; rfl
  · have e1 : r = 1 := by omega
    subst e1; rfl
theorem pick2i {x y r : Int} (h0 : 0 ≤ r) (h1 : r < 2) : atI [V.int x, V.int y] r = some (V.int (if r = 0 then x else y)) := by
  rw [pick2 h0 h1]; split <;> rfl
theorem pick2s {x y : Str} {r : Int} (h0 : 0 ≤ r) (h1 : r < 2) : atI [V.str x, V.str y] r = some (V.str (if r = 0 then x else y)) := by
  rw [pick2 h0 h1]; split <;> rfl
theorem atI_map {α β : Type} {f : α → β} {l : List α} {r : Int} {x : α} (h0 : 0 ≤ r) (h : atI l r = some x) : atI (l.map f) r = some (f x) := by
  obtain ⟨n, rfl⟩ := Int.eq_ofNat_of_zero_le h0
  by_cases hn : n < l.length
  · have e : atI l (n : Int) = some l[n] := atI_nat (List.getElem?_eq_getElem hn)
    have e2 : l[n] = x := Option.some.inj (e.symm.trans h)
    exact atI_nat (by rw [List.getElem?_map, List.getElem?_eq_getElem hn, e2]; rfl)
  · unfold atI ixN at h
    rw [if_pos h0, if_neg (by omega)] at h
    cases h

theorem LAt.dp {K : PySem.W.Frag} {H : Hp} {d : Addr} {ds : List PyData} (h : LAt K H d ds) : Dp K H (.ref d) (.list ds) := by
  obtain ⟨vs, h1, h2, _⟩ := h
  exact .lst (SqL.of h1) h2

theorem dp_encI {K : PySem.W.Frag} {H : Hp} {v : V} {ts : List Int} (h : Dp K H v (encI ts)) : ∃ q, v = .ref q ∧ SqT K H q (ts.map V.int) := by
  cases h with
  | tup h1 h2 =>
    have : ∀ {vs : List V} {ts : List Int}, DpAll K H vs (ts.map PyData.int) → vs = ts.map V.int := fun {vs ts} => by
      induction ts generalizing vs with
      | nil => intro h; cases h; rfl
      | cons t r ih =>
        intro h
        cases h with
        | cons a b => cases a; rw [ih b]; rfl
    rw [this h2] at h1
    exact ⟨_, rfl, h1⟩
def yTl (K : PySem.W.Frag) : Sp := fun vs H Q _ => ∃ (b p : Addr) (m : Nat), vs = [.ref b, .int (m : Int)] ∧ BoxAt H b p ∧ m ≤ 12 ∧
  ∀ (q : Addr) (ts : List Int) (H' : Hp), Rise ts → (∀ t ∈ ts, 0 ≤ t) → (∀ t ∈ ts, t ≤ 2 + 7 * (m : Int)) → ts.length ≤ m → SqT K H' q (ts.map V.int) → BoxAt H' b p → Kp b H H' → Q (.ref q) H'
def yIn (K : PySem.W.Frag) : Sp := fun vs H Q _ => ∃ (v : V) (ts : List Int) (k : Int), vs = [v, .int k] ∧ Dp K H v (encI ts) ∧ Q (.bl (inL ts k)) H
section
variable {P : Program} {w : World} {K : PySem.W.Frag} {mg : Str → Option Value} {base : Heap} {A : Nat → Addr} {D : Nat → FuncData}
theorem ok_ltimeline (T : Txt K mg A D) : FnOk P w K mg base CX0 2 (A 7) (D 7) ["box", "most"] (yTl K) := by
  refine T.F__law_timeline.ok sc__law_timeline (fun vs H Q E h => ?_) (fun cdv A' outer s H vs Q E hr h => ?_)
  · obtain ⟨b, p, m, rfl, _⟩ := h; rfl
  obtain ⟨b, p, m, rfl, B, hm, q⟩ := h
  have hnd := sc__law_timeline.nd
  have G__law_draw := ok_draw (P := P) (w := w) (base := base) T
  refine ⟨_, (pss_cons (ps_set (i := 2) hnd rfl (Or.inl rfl) (pe_lst pa_nil)) (pss_cons (ps_set (i := 3) hnd rfl (Or.inl rfl) (pe_op op_sub (pe_call G__law_draw (hr.mono (by first | decide | omega)) rfl T.m__law_draw T.F__law_draw.kp T.b__law_draw .nil pass0 (pa_cons (pv 0) (pa_cons pe_int pa_nil))) pe_int)) (pss_cons (ps_for PassesOwn.never rfl (pi_range1 rfl T.z_range (pa_cons (pe_call G__law_draw (hr.mono (by first | decide | omega)) rfl T.m__law_draw T.F__law_draw.kp T.b__law_draw .nil pass0 (pa_cons (pv 0) (pa_cons (pe_op op_add (pv 1) pe_int) pa_nil))) pa_nil)) (pg_name (i := 4) hnd rfl (Or.inl rfl)) (pss_cons (ps_set (i := 3) hnd rfl (Or.inl rfl) (pe_op op_add (pe_op op_add (pv 3) pe_int) (pe_op op_mul (pe_call G__law_draw (hr.mono (by first | decide | omega)) rfl T.m__law_draw T.F__law_draw.kp T.b__law_draw .nil pass0 (pa_cons (pv 0) (pa_cons pe_int pa_nil))) (pe_call G__law_draw (hr.mono (by first | decide | omega)) rfl T.m__law_draw T.F__law_draw.kp T.b__law_draw .nil pass0 (pa_cons (pv 0) (pa_cons pe_int pa_nil)))))) (pss_one (ps_if (pt_cmpR op_ge (pv 3) pe_int (nomark _)) (pss_one (ps_expr (pe_bm PySem.F.plainAttrs_list PySem.F.slot_list_append PySem.F.type_list_append mt_append (pv 2) (pa_cons (pv 3) pa_nil)))) pss_nil)))) (pss_one (ps_ret (pe_callTy call_tuple_of rfl T.z_tuple (by decide +kernel) (pa_cons (pv 2) pa_nil))))))), ?_⟩
  refine ⟨(by decide), fun d hd => ?_⟩
  have ndb := B.ne hd
  refine ⟨_, rfl, b, p, _, rfl, B.keep (same_new hd), (by decide), fun r1 H1 h10 h11 B1 k1 => ⟨_, _, rfl, rfl, ?_⟩⟩
  refine ⟨_, rfl, _, rfl, _, _, rfl, rfl, b, p, _, rfl, B1, (by omega), fun r2 H2 h20 h21 B2 k2 => ?_⟩
  refine ⟨_, rfl, (by omega), (by omega), ?_⟩
  refine for_range (n := r2.toNat) (fun i σ H' => ∃ (ts : List Int) (t : Int) (kv : Option V), σ = [some (.ref b), some (.int (m : Int)), some (.ref d), some (.int t), kv] ∧ BoxAt H' b p ∧ Kp b H H' ∧ H' d = some (.lst (ts.map V.int)) ∧ Rise ts ∧ (∀ x ∈ ts, 0 ≤ x) ∧ (∀ x ∈ ts, x ≤ t) ∧ -1 ≤ t ∧ t ≤ 2 + 7 * (i : Int) ∧ ts.length ≤ i)
    ⟨[], _, none, rfl, B2, ((Kp.of (same_new hd)).trans k1).trans k2, k2 _ _ (k1 _ _ upd_same ndb.1) ndb.1, List.Pairwise.nil, (fun x hx => nomatch hx), (fun x hx => nomatch hx), by omega, by omega, Nat.le_refl _⟩ ?_ ?_
  · rintro i σ H5 hi ⟨ts, t, kv, rfl, B5, k5, h5, hr5, h05, ht5, t0, t1, hl⟩
    refine ⟨_, rfl, _, _, rfl, rfl, _, rfl, b, p, _, rfl, B5, (by decide), fun r6 H6 h60 h61 B6 k6 => ?_⟩
    refine ⟨_, rfl, b, p, _, rfl, B6, (by decide), fun r7 H7 h70 h71 B7 k7 => ⟨_, _, rfl, rfl, ?_, ?_⟩⟩
    · exact .inl ⟨by omega, by omega⟩
    have hm67 : 0 ≤ r6 * r7 ∧ r6 * r7 ≤ 6 := by
      have e6 : r6 = 0 ∨ r6 = 1 ∨ r6 = 2 ∨ r6 = 3 := by omega
      rcases e6 with e | e | e | e <;> subst e <;> omega
    have h7 : H7 d = some (.lst (ts.map V.int)) := k7 _ _ (k6 _ _ h5 ndb.1) ndb.1
    have kk := (k5.trans k6).trans k7
    refine ⟨_, _, rfl, rfl, ?_⟩
    refine ⟨_, rfl, _, _, rfl, rfl, _, rfl, ?_⟩
    refine ite2 (fun c => ?_) (fun c => ?_)
    · have c' : (0 : Int) ≤ t + 1 + r6 * r7 := of_decide_eq_true c
      refine ⟨_, rfl, .inl ⟨rfl, _, SqL.of h7⟩, _, rfl, d, _, _, rfl, rfl, h7, (by rw [List.length_map]; exact len_lt (by omega)), ?_⟩
      have kd : Kp b H (upd H7 d (.lst (ts.map V.int ++ [V.int (t + 1 + r6 * r7)]))) := fun c o hc n => by
        rw [upd_ne (ne_of_none hc hd)]; exact kk c o hc n
      refine ⟨ts ++ [t + 1 + r6 * r7], _, _, rfl, B7.updO ndb.1 ndb.2, kd, by rw [upd_same, app_map], ?_, fun x hx => ?_, fun x hx => ?_, by omega, by omega, by rw [List.length_append, List.length_singleton]; omega⟩
      · refine List.pairwise_append.mpr ⟨hr5, List.pairwise_singleton _ _, fun x hx y hy => ?_⟩
        have := ht5 x hx
        rw [List.mem_singleton.mp hy]; omega
      · rcases List.mem_append.mp hx with hx | hx
        · exact h05 x hx
        · rw [List.mem_singleton.mp hx]; exact c'
      · rcases List.mem_append.mp hx with hx | hx
        · have := ht5 x hx; omega
        · rw [List.mem_singleton.mp hx]; omega
    · exact ⟨ts, _, _, rfl, B7, kk, h7, hr5, h05, fun x hx => (by have := ht5 x hx; omega), by omega, by omega, by omega⟩
  · rintro σ H5 ⟨ts, t, kv, rfl, B5, k5, h5, hr5, h05, ht5, t0, t1, hl⟩
    refine ⟨_, rfl, d, _, rfl, .inl ⟨SqL.of h5, fun p2 hp2 => ?_⟩⟩
    have s2 := same_new (o := .tup (ts.map V.int)) hp2
    exact q p2 ts _ hr5 h05 (fun x hx => by have := ht5 x hx; omega) (by omega) (SqT.of upd_same) (B5.keep s2) (k5.trans (Kp.of s2))
theorem ok_lisin (T : Txt K mg A D) : FnOk P w K mg base CX0 1 (A 8) (D 8) ["timeline", "time"] (yIn K) := by
  refine T.F__law_is_in.ok sc__law_is_in (fun vs H Q E h => ?_) (fun cdv A' outer s H vs Q E hr h => ?_)
  · obtain ⟨v, ts, k, rfl, _⟩ := h; rfl
  obtain ⟨v, ts, k, rfl, hd, q⟩ := h
  have hnd := sc__law_is_in.nd
  obtain ⟨a, rfl, ha⟩ := dp_encI hd
  refine ⟨_, (pss_cons (ps_set (i := 2) hnd rfl (Or.inl rfl) pe_bl) (pss_cons (ps_for PassesOwn.never rfl (pi_tup (pv 0)) (pg_name (i := 3) hnd rfl (Or.inl rfl)) (pss_one (ps_if (pt_cmpR op_le (pv 3) (pv 1) (nomark _)) (pss_one (ps_set (i := 2) hnd rfl (Or.inl rfl) (pe_not (pv 2)))) pss_nil))) (pss_one (ps_ret (pv 2))))), ?_⟩
  refine ⟨_, rfl, a, rfl, ⟨_, ha⟩, ?_⟩
  refine for_tup (xs := ts.map V.int) (fun i σ H' => ∃ (kv : Option V), σ = [some (.ref a), some (.int k), some (.bl (inL (ts.take i) k)), kv] ∧ H' = H) ⟨none, rfl, rfl⟩ (fun i σ H' _ h => by obtain ⟨_, _, h2⟩ := h; rw [h2]; exact ha) ?_ ?_
  · rintro i x σ H1 hi ⟨kv, rfl, rfl⟩
    rw [List.getElem?_map] at hi
    obtain ⟨t, ht, rfl⟩ := Option.map_eq_some_iff.mp hi
    have stp : inL (ts.take (i + 1)) k = if t ≤ k then !(inL (ts.take i) k) else inL (ts.take i) k := by
      unfold inL
      rw [List.take_add_one, ht, List.foldl_append]; rfl
    refine ⟨_, rfl, _, rfl, _, _, rfl, rfl, _, rfl, ?_⟩
    refine ite2 (fun c => ?_) (fun c => ?_)
    · have c' : t ≤ k := of_decide_eq_true c
      rw [if_pos c'] at stp
      exact ⟨_, rfl, _, rfl, _, by rw [stp]; rfl, rfl⟩
    · have c' : ¬ t ≤ k := fun h => c (decide_eq_true h)
      rw [if_neg c'] at stp
      exact ⟨_, by rw [stp]; rfl, rfl⟩
  · rintro σ H1 ⟨kv, rfl, rfl⟩
    rw [List.length_map, List.take_length]
    exact ⟨_, rfl, q⟩
def ySpans (K : PySem.W.Frag) : Sp := fun vs H Q _ => ∃ (v : V) (ts : List Int), vs = [v] ∧ Dp K H v (encI ts) ∧ ts.length ≤ 1000 ∧
  ∀ p H', Same H H' → LAt K H' p ((spansL ts).map encSp) → Q (.ref p) H'
def yOf (K : PySem.W.Frag) : Sp := fun vs H Q _ => ∃ (a : Int) (o : Option Int), vs = [.int a, oV o] ∧ ∀ p H', Same H H' → SqT K H' p ((a :: o.toList).map V.int) → Q (.ref p) H'
def yLen (K : PySem.W.Frag) : Sp := fun vs H Q _ => ∃ (v : V) (ts : List Int) (T : Int), vs = [v, .int T] ∧ Dp K H v (encI ts) ∧ ts.length ≤ 1000 ∧ ∀ H', Same H H' → Q (.int (lenS T (spansL ts))) H'
theorem ok_of_span (T : Txt K mg A D) : FnOk P w K mg base CX0 1 (A 0) (D 0) ["start", "end"] (yOf K) := by
  refine T.F_of_span.ok sc_of_span (fun vs H Q E h => ?_) (fun cdv A' outer s H vs Q E hr h => ?_)
  · obtain ⟨a, o, rfl, _⟩ := h; rfl
  obtain ⟨a, o, rfl, q⟩ := h
  refine ⟨_, (pss_cons (ps_if (pt_cmpR op_isN (pv 1) pe_non (nomark _)) (pss_one (ps_ret (pe_tup (pa_cons (pv 0) pa_nil)))) pss_nil) (pss_one (ps_ret (pe_tup (pa_cons (pv 0) (pa_cons (pv 1) pa_nil)))))), ?_⟩
  cases o with
  | none =>
    refine ⟨_, rfl, rfl, _, rfl, iteT ?_⟩
    exact ⟨_, rfl, (by show 1 ≤ sizeLine; decide), fun p hp => q p _ (same_new hp) (SqT.of upd_same)⟩
  | some b =>
    refine ⟨_, rfl, rfl, _, rfl, iteF ?_⟩
    exact ⟨_, rfl, _, rfl, (by show 2 ≤ sizeLine; decide), fun p hp => q p _ (same_new hp) (SqT.of upd_same)⟩
theorem ok_spans (T : Txt K mg A D) : FnOk P w K mg base CX0 1 (A 1) (D 1) ["timeline"] (ySpans K) := by
  refine T.F_spans.ok sc_spans (fun vs H Q E h => ?_) (fun cdv A' outer s H vs Q E hr h => ?_)
  · obtain ⟨v, ts, rfl, _⟩ := h; rfl
  obtain ⟨v, ts, rfl, hd, hl, q⟩ := h
  have hnd := sc_spans.nd
  obtain ⟨a, rfl, ha⟩ := dp_encI hd
  have hml : (ts.map V.int).length = ts.length := List.length_map _
  refine ⟨_, (pss_cons (ps_set (i := 1) hnd rfl (Or.inl rfl) (pe_op (r := rCatA K) op_catA (pe_slice2 (pv 0) (po_some pe_int)) (pe_tup (pa_cons pe_non pa_nil)))) (pss_one (ps_ret (pe_listZip rfl rfl T.z_list (by decide +kernel) rfl T.z_zip (pa_cons (pe_slice2 (pv 0) po_none) (pa_cons (pv 1) pa_nil)))))), ?_⟩
  refine ⟨_, rfl, _, rfl, a, _, 1, rfl, ha, .inr rfl, fun p1 hp1 => ?_⟩
  have s1 := same_new (o := .tup (evOther ((ts.map V.int).drop 1))) hp1
  refine ⟨(by show 1 ≤ sizeLine; decide), fun p2 hp2 => ?_⟩
  have s2 := s1.trans (same_new (o := .tup [.non]) hp2)
  refine catA_use ((TK.same (same_new (o := .tup [.non]) hp2)).seq (SqT.of upd_same)) (SqT.of upd_same) ?_ fun p3 H3 s3 h3 => ?_
  · rw [evOther_len, List.length_drop, hml]; show _ + 1 ≤ 16777216; omega
  have s03 := s2.trans s3
  refine ⟨_, rfl, a, _, 0, rfl, (TK.same s03).seq ha, .inl ⟨rfl, rfl⟩, fun p4 hp4 => ?_⟩
  have s4 := same_new (o := .tup (evOther ((ts.map V.int).drop 0))) hp4
  refine ⟨_, rfl, p4, p3, _, _, rfl, SqT.of upd_same, (TK.same s4).seq h3, ?_, fun p5 H5 out s5 hp5 h5 pr => ?_⟩
  · rw [evOther_len, List.length_drop, hml]; omega
  · rw [List.drop_zero, zip_spans] at pr
    exact q p5 H5 ((s03.trans s4).trans s5) ⟨out, h5, pairs_spans pr, fun x hx => by
      obtain ⟨y, _, rfl⟩ := List.mem_map.mp hx
      exact imm_encSp y⟩
theorem ok_lenb (T : Txt K mg A D) : FnOk P w K mg base CX0 2 (A 2) (D 2) ["timeline", "time"] (yLen K) := by
  refine T.F_length_before.ok sc_length_before (fun vs H Q E h => ?_) (fun cdv A' outer s H vs Q E hr h => ?_)
  · obtain ⟨v, ts, k, rfl, _⟩ := h; rfl
  obtain ⟨v, ts, k, rfl, hd, hl, q⟩ := h
  have hnd := sc_length_before.nd
  have G_spans := ok_spans (P := P) (w := w) (base := base) T
  refine ⟨_, (pss_cons (ps_set (i := 2) hnd rfl (Or.inl rfl) pe_int) (pss_cons (ps_for PassesOwn.never rfl (pi_list (pe_call G_spans (hr.mono (by first | decide | omega)) rfl T.m_spans T.F_spans.kp T.b_spans .nil pass0 (pa_cons (pv 0) pa_nil))) (pg_tup rfl (pgs_cons (pg_name (i := 3) hnd rfl (Or.inl rfl)) (pgs_cons (pg_name (i := 4) hnd rfl (Or.inl rfl)) pgs_nil))) (pss_one (ps_if (pt_cmpR op_lt (pv 3) (pv 1) (nomark _)) (pss_cons (ps_set (i := 5) hnd rfl (Or.inl rfl) (pe_ifExp (pt_cmpR op_isN (pv 4) pe_non (nomark _)) (pv 1) (pe_callB (call_min2 rfl) rfl T.z_min (by decide +kernel) (pa_cons (pv 4) (pa_cons (pv 1) pa_nil))))) (pss_one (ps_aug (i := 2) hnd rfl (Or.inl rfl) (pe_op op_sub (pv 5) (pv 3)) ip_add))) pss_nil))) (pss_one (ps_ret (pv 2))))), ?_⟩
  refine ⟨_, rfl, _, ts, rfl, hd, hl, fun p H1 s1 L1 => ?_⟩
  obtain ⟨vs, e1, e2, e3⟩ := L1
  have hvl : vs.length = (spansL ts).length := by rw [DpAll.len e2, List.length_map]
  refine ⟨p, rfl, ⟨_, SqL.of e1⟩, ?_⟩
  refine for_list (xs := vs) (fun i σ H' => ∃ (c3 c4 c5 : Option V), σ = [some v, some (.int k), some (.int (lenS k ((spansL ts).take i))), c3, c4, c5] ∧ H' = H1) ⟨none, none, none, rfl, rfl⟩ (fun i σ H' _ h => by obtain ⟨_, _, _, _, h2⟩ := h; rw [h2]; exact SqL.of e1) ?_ ?_
  · rintro i x σ H2 hi ⟨c3, c4, c5, rfl, rfl⟩
    have hil : i < (spansL ts).length := by rw [← hvl]; exact (List.getElem?_eq_some_iff.mp hi).1
    obtain ⟨y, hy, dy⟩ := DpAll.get e2 (i := i) (d := encSp (spansL ts)[i]) (by rw [List.getElem?_map, List.getElem?_eq_getElem hil]; rfl)
    have ex : x = y := Option.some.inj (hi.symm.trans hy)
    subst ex
    have stp : lenS k ((spansL ts).take (i + 1)) = lenS k ((spansL ts).take i) + partL k (spansL ts)[i] := by
      rw [List.take_add_one, List.getElem?_eq_getElem hil]
      exact lenS_snoc _ _ _
    obtain ⟨sp, hsp⟩ : ∃ sp, sp = (spansL ts)[i] := ⟨_, rfl⟩
    rw [← hsp] at dy stp
    obtain ⟨a, o⟩ := sp
    have hq : ∃ q, x = .ref q ∧ SqT K H2 q [.int a, oV o] := by
      cases dy with
      | tup h1 h2 =>
        cases h2 with
        | cons ha hr =>
          cases hr with
          | cons hb hr =>
            cases hr
            cases ha
            cases o with
            | none => cases hb; exact ⟨_, rfl, h1⟩
            | some b => cases hb; exact ⟨_, rfl, h1⟩
    obtain ⟨q1, rfl, hq1⟩ := hq
    refine ⟨q1, _, rfl, hq1, rfl, _, _, rfl, _, _, rfl, rfl, ?_⟩
    refine ⟨_, rfl, _, rfl, _, _, rfl, rfl, _, rfl, ?_⟩
    refine ite2 (fun c => ?_) (fun c => ?_)
    · have c' : a < k := of_decide_eq_true c
      cases o with
      | none =>
        have stp2 : partL k (a, none) = k - a := if_pos c'
        refine ⟨_, rfl, rfl, _, rfl, iteT ?_⟩
        refine ⟨_, rfl, _, rfl, _, rfl, _, rfl, _, _, rfl, rfl, _, _, rfl, rfl, ?_⟩
        exact ⟨_, _, _, by rw [stp, stp2]; rfl, rfl⟩
      | some b =>
        have stp2 : partL k (a, some b) = min b k - a := if_pos c'
        refine ⟨_, rfl, rfl, _, rfl, iteF ?_⟩
        refine ⟨_, rfl, _, rfl, _, _, rfl, ?_⟩
        refine ⟨_, rfl, _, rfl, _, rfl, _, _, rfl, rfl, _, _, rfl, rfl, ?_⟩
        rw [show (if k < b then k else b) = min b k by split <;> omega]
        exact ⟨_, _, _, by rw [stp, stp2]; rfl, rfl⟩
    · have c' : ¬ a < k := fun h => c (decide_eq_true h)
      have stp2 : partL k (a, o) = 0 := if_neg c'
      exact ⟨_, _, _, by rw [stp, stp2, Int.add_zero]; rfl, rfl⟩
  · rintro σ H2 ⟨c3, c4, c5, rfl, rfl⟩
    rw [hvl, List.take_length]
    exact ⟨_, rfl, q _ s1⟩
end

theorem dp_encSp {K : PySem.W.Frag} {H : Hp} {v : V} {a : Int} {o : Option Int} (h : Dp K H v (encSp (a, o))) : ∃ q, v = .ref q ∧ SqT K H q [.int a, oV o] := by
  cases h with
  | tup h1 h2 =>
    cases h2 with
    | cons ha hr =>
      cases hr with
      | cons hb hr =>
        cases hr
        cases ha
        cases o with
        | none => cases hb; exact ⟨_, rfl, h1⟩
        | some b => cases hb; exact ⟨_, rfl, h1⟩
theorem rg2 (L : Nat) (h : L ≤ 9) : RgC 0 (L : Int) 2 ((L + 1) / 2) := by
  have : L = 0 ∨ L = 1 ∨ L = 2 ∨ L = 3 ∨ L = 4 ∨ L = 5 ∨ L = 6 ∨ L = 7 ∨ L = 8 ∨ L = 9 := by omega
  rcases this with e | e | e | e | e | e | e | e | e | e <;> subst e <;> exact ⟨by decide, by decide, by decide, by decide⟩
section
variable {P : Program} {w : World} {K : PySem.W.Frag} {mg : Str → Option Value} {base : Heap} {A : Nat → Addr} {D : Nat → FuncData}
theorem ok_law (T : Txt K mg A D) : FnOk P w K mg base CX0 4 (A 9) (D 9) ["script"] (ySpLaw K) := by
  refine T.F_law.ok sc_law (fun vs H Q E h => ?_) (fun cdv A' outer s H vs Q E hr h => ?_)
  · obtain ⟨a, ns, rfl, _⟩ := h; rfl
  obtain ⟨a, ns, rfl, hS, hn, q⟩ := h
  have hnd := sc_law.nd
  have G__law_draw := ok_draw (P := P) (w := w) (base := base) T
  have G__law_digits := ok_digits (P := P) (w := w) (base := base) T
  have G__law_same := ok_same (P := P) (w := w) (base := base) T 3
  have G__law_timeline := ok_ltimeline (P := P) (w := w) (base := base) T
  have G__law_is_in := ok_lisin (P := P) (w := w) (base := base) T
  have G_spans := ok_spans (P := P) (w := w) (base := base) T
  have G_of_span := ok_of_span (P := P) (w := w) (base := base) T
  have G_length_before := ok_lenb (P := P) (w := w) (base := base) T
  refine ⟨_, (pss_cons (ps_set (i := 3) hnd rfl (Or.inl rfl) (pe_lst (pa_cons (pe_call G__law_digits (hr.mono (by first | decide | omega)) rfl T.m__law_digits T.F__law_digits.kp T.b__law_digits .nil pass0 (pa_cons (pv 0) (pa_cons pe_int (pa_cons pe_int pa_nil)))) (pa_cons pe_int pa_nil)))) (pss_cons (ps_set (i := 4) hnd rfl (Or.inr rfl) (pe_call G__law_timeline (hr.mono (by first | decide | omega)) rfl T.m__law_timeline T.F__law_timeline.kp T.b__law_timeline .nil pass0 (pa_cons (pv 3) (pa_cons pe_int pa_nil)))) (pss_cons (ps_set (i := 5) hnd rfl (Or.inl rfl) (pe_lst pa_nil)) (pss_cons (ps_for PassesOwn.never rfl (pi_range3 rfl T.z_range (pa_cons pe_int (pa_cons (pe_callB call_len_seq rfl T.z_len PySem.boot_len (pa_cons (pv 4) pa_nil)) (pa_cons pe_int pa_nil)))) (pg_name (i := 2) hnd rfl (Or.inl rfl)) (pss_one (ps_if (pt_cmpR op_lt (pe_op op_add (pv 2) pe_int) (pe_callB call_len_seq rfl T.z_len PySem.boot_len (pa_cons (pv 4) pa_nil)) (nomark _)) (pss_one (ps_expr (pe_bm PySem.F.plainAttrs_list PySem.F.slot_list_append PySem.F.type_list_append mt_append (pv 5) (pa_cons (pe_tup (pa_cons (pe_ix (r := rIxT K) ix_tup (pv 4) (pv 2) (fun _ _ => rfl)) (pa_cons (pe_ix (r := rIxT K) ix_tup (pv 4) (pe_op op_add (pv 2) pe_int) (fun _ _ => rfl)) pa_nil))) pa_nil)))) (pss_one (ps_expr (pe_bm PySem.F.plainAttrs_list PySem.F.slot_list_append PySem.F.type_list_append mt_append (pv 5) (pa_cons (pe_tup (pa_cons (pe_ix (r := rIxT K) ix_tup (pv 4) (pv 2) (fun _ _ => rfl)) (pa_cons pe_non pa_nil))) pa_nil))))))) (pss_cons (ps_if (pt_not (pt_val (pe_call G__law_same (hr.mono (by first | decide | omega)) rfl T.m__law_same T.F__law_same.kp T.b__law_same .nil pass0 (pa_cons (pe_call G_spans (hr.mono (by first | decide | omega)) rfl T.m_spans T.F_spans.kp T.b_spans .nil pass0 (pa_cons (pv 4) pa_nil)) (pa_cons (pv 5) pa_nil))))) (pss_one (ps_ret pe_bl)) pss_nil) (pss_cons (ps_for PassesOwn.never rfl (pi_list (pv 5)) (pg_name (i := 6) hnd rfl (Or.inl rfl)) (pss_one (ps_if (pt_not (pt_val (pe_call G__law_same (hr.mono (by first | decide | omega)) rfl T.m__law_same T.F__law_same.kp T.b__law_same .nil pass0 (pa_cons (pe_call G_of_span (hr.mono (by first | decide | omega)) rfl T.m_of_span T.F_of_span.kp T.b_of_span .nil pass0 (pa_cons (pe_ix (r := rIxT K) ix_tup (pv 6) pe_int (fun _ _ => rfl)) (pa_cons (pe_ix (r := rIxT K) ix_tup (pv 6) pe_int (fun _ _ => rfl)) pa_nil))) (pa_cons (pe_callTy call_tuple_of rfl T.z_tuple (by decide +kernel) (pa_cons (pe_lc (own := [("point", 1)]) rfl hnd (pi_tup (pv 6)) (blkOk_by (own := [("point", 1)]) (N := N_law) (sc := defScope s_law) (by decide +kernel)) (fun _ _ _ _ _ => (pg_name (i := 1) hnd rfl (Or.inl rfl))) (fun _ _ _ _ _ => (pts_one (pt_cmpR op_notN (pv 1) pe_non (nomark _)))) (fun _ _ _ _ _ => (pv 1))) pa_nil)) pa_nil))))) (pss_one (ps_ret pe_bl)) pss_nil))) (pss_cons (ps_for PassesOwn.never rfl (pi_range1 rfl T.z_range (pa_cons pe_int pa_nil)) (pg_name (i := 7) hnd rfl (Or.inl rfl)) (pss_cons (ps_set (i := 8) hnd rfl (Or.inl rfl) (pe_call G__law_draw (hr.mono (by first | decide | omega)) rfl T.m__law_draw T.F__law_draw.kp T.b__law_draw .nil pass0 (pa_cons (pv 3) (pa_cons pe_int pa_nil)))) (pss_cons (ps_set (i := 9) hnd rfl (Or.inl rfl) (pe_callB call_len_seq rfl T.z_len PySem.boot_len (pa_cons (pe_lc (own := [("k", 2)]) rfl hnd (pi_range1 rfl T.z_range (pa_cons (pv 8) pa_nil)) (blkOk_by (own := [("k", 2)]) (N := N_law) (sc := defScope s_law) (by decide +kernel)) (fun _ _ _ _ _ => (pg_name (i := 2) hnd rfl (Or.inl rfl))) (fun _ _ _ _ _ => (pts_one (pt_val (pe_call G__law_is_in (hr.mono (by first | decide | omega)) rfl T.m__law_is_in T.F__law_is_in.kp T.b__law_is_in .nil pass0 (pa_cons (pv 4) (pa_cons (pv 2) pa_nil)))))) (fun _ _ _ _ _ => (pv 2))) pa_nil))) (pss_one (ps_if (pt_not (pt_val (pe_call G__law_same (hr.mono (by first | decide | omega)) rfl T.m__law_same T.F__law_same.kp T.b__law_same .nil pass0 (pa_cons (pe_call G_length_before (hr.mono (by first | decide | omega)) rfl T.m_length_before T.F_length_before.kp T.b_length_before .nil pass0 (pa_cons (pv 4) (pa_cons (pv 8) pa_nil))) (pa_cons (pv 9) pa_nil))))) (pss_one (ps_ret pe_bl)) pss_nil))))) (pss_cons (ps_set (i := 10) hnd rfl (Or.inl rfl) (pe_op op_add pe_int (pe_call G__law_draw (hr.mono (by first | decide | omega)) rfl T.m__law_draw T.F__law_draw.kp T.b__law_draw .nil pass0 (pa_cons (pv 3) (pa_cons pe_int pa_nil))))) (pss_cons (ps_set (i := 11) hnd rfl (Or.inl rfl) (pe_op op_sub (pv 10) pe_int)) (pss_cons (ps_set (i := 9) hnd rfl (Or.inl rfl) (pe_op op_add (pe_callB call_len_seq rfl T.z_len PySem.boot_len (pa_cons (pe_lc (own := [("k", 2)]) rfl hnd (pi_range1 rfl T.z_range (pa_cons pe_int pa_nil)) (blkOk_by (own := [("k", 2)]) (N := N_law) (sc := defScope s_law) (by decide +kernel)) (fun _ _ _ _ _ => (pg_name (i := 2) hnd rfl (Or.inl rfl))) (fun _ _ _ _ _ => (pts_one (pt_val (pe_call G__law_is_in (hr.mono (by first | decide | omega)) rfl T.m__law_is_in T.F__law_is_in.kp T.b__law_is_in .nil pass0 (pa_cons (pv 4) (pa_cons (pv 2) pa_nil)))))) (fun _ _ _ _ _ => (pv 2))) pa_nil)) (pe_op op_mul (pv 11) (pe_callTy call_int1 rfl T.z_int (by decide +kernel) (pa_cons (pe_call G__law_is_in (hr.mono (by first | decide | omega)) rfl T.m__law_is_in T.F__law_is_in.kp T.b__law_is_in .nil pass0 (pa_cons (pv 4) (pa_cons pe_int pa_nil))) pa_nil))))) (pss_one (ps_ret (pe_call G__law_same (hr.mono (by first | decide | omega)) rfl T.m__law_same T.F__law_same.kp T.b__law_same .nil pass0 (pa_cons (pe_call G_length_before (hr.mono (by first | decide | omega)) rfl T.m_length_before T.F_length_before.kp T.b_length_before .nil pass0 (pa_cons (pv 4) (pa_cons (pv 10) pa_nil))) (pa_cons (pv 9) pa_nil))))))))))))))), ?_⟩
  refine ⟨_, rfl, a, ns, rfl, hS, fun p ds H1 s1 hp0 hp1 hl => ⟨(by show 2 ≤ sizeLine; decide), fun b hb => ?_⟩⟩
  have B1 := box_new hp1 hb
  refine ⟨_, rfl, b, p, 9, rfl, B1, (by decide), fun qt ts H2 hr2 h02 hm2 hl2 hq2 B2 k2 => ?_⟩
  refine ⟨(by show 0 ≤ sizeLine; decide), fun DD hDD => ?_⟩
  have sD := same_new (o := .lst []) hDD
  have ndb := B2.ne hDD
  have hml : (ts.map V.int).length = ts.length := List.length_map _
  have hq3 := (TK.same sD).seq hq2
  refine ⟨_, rfl, qt, _, rfl, .inr hq3, 0, _, 2, (ts.length + 1) / 2, rfl, by rw [hml]; exact rg2 _ hl2, ?_⟩
  refine for_rangeC (n := (ts.length + 1) / 2) (fun i σ H' => ∃ (kv : Option V), σ = [some (.ref a), none, kv, some (.ref b), some (.ref qt), some (.ref DD), none, none, none, none, none, none] ∧ BoxAt H' b p ∧ SqT K H' qt (ts.map V.int) ∧ LAt K H' DD (((spansL ts).take i).map encSp))
    ⟨_, rfl, B2.updO ndb.1 ndb.2, hq3, LAt.nil upd_same⟩ ?_ ?_
  · rintro i σ H3 hi ⟨kv, rfl, B3, h3, L3⟩
    have hi2 : 2 * i < ts.length := by omega
    have g0 := spansL_get ts i hi2
    obtain ⟨vs, e1, e2, e3⟩ := L3
    have hk0 : ((0 : Int) + (i : Nat) * 2) = ((2 * i : Nat) : Int) := by omega
    rw [hk0]
    have at0 : atI (ts.map V.int) ((2 * i : Nat) : Int) = some (.int ts[2 * i]) := atI_nat (by rw [List.getElem?_map, List.getElem?_eq_getElem hi2]; rfl)
    refine ⟨_, rfl, _, _, rfl, rfl, _, rfl, qt, _, rfl, .inr h3, _, _, rfl, rfl, _, rfl, ?_⟩
    refine ite2 (fun c => ?_) (fun c => ?_)
    · have c' : ((2 * i : Nat) : Int) + 1 < (((ts.map V.int).length : Nat) : Int) := of_decide_eq_true c
      have hi3 : 2 * i + 1 < ts.length := by omega
      have at1 : atI (ts.map V.int) (((2 * i : Nat) : Int) + 1) = some (.int ts[2 * i + 1]) := by
        rw [show ((2 * i : Nat) : Int) + 1 = ((2 * i + 1 : Nat) : Int) by omega]
        exact atI_nat (by rw [List.getElem?_map, List.getElem?_eq_getElem hi3]; rfl)
      refine ⟨_, rfl, .inl ⟨rfl, _, SqL.of e1⟩, _, rfl, _, rfl, qt, _, _, _, rfl, rfl, h3, at0, ?_⟩
      refine ⟨_, rfl, _, rfl, _, _, rfl, rfl, qt, _, _, _, rfl, rfl, h3, at1, (by show 2 ≤ sizeLine; decide), fun t5 ht5 => ?_⟩
      have s5 := same_new (o := .tup [.int ts[2 * i], .int ts[2 * i + 1]]) ht5
      refine ⟨DD, _, _, rfl, rfl, s5 _ _ e1, ?_, ?_⟩
      · rw [DpAll.len e2, List.length_map, List.length_take]; exact len_lt (by omega)
      have e1' := s5 _ _ e1
      refine ⟨_, rfl, (B3.keep s5).updO ndb.1 ndb.2, (TK.updL (TK.same s5) e1').seq h3, ?_⟩
      rw [List.take_add_one, g0, List.getElem?_eq_getElem hi3]
      simp only [Option.toList_some, List.map_append, List.map_cons, List.map_nil]
      exact LAt.push e1' (DpAll.same s5 e2) e3 (.tup (SqT.of upd_same) (.cons (.int _) (.cons (.int _) .nil))) (imm_encSp _)
    · have c' : ¬ ((2 * i : Nat) : Int) + 1 < (((ts.map V.int).length : Nat) : Int) := fun h => c (decide_eq_true h)
      have hn1 : ts[2 * i + 1]? = none := List.getElem?_eq_none (by omega)
      refine ⟨_, rfl, .inl ⟨rfl, _, SqL.of e1⟩, _, rfl, _, rfl, qt, _, _, _, rfl, rfl, h3, at0, ?_⟩
      refine ⟨(by show 2 ≤ sizeLine; decide), fun t5 ht5 => ?_⟩
      have s5 := same_new (o := .tup [.int ts[2 * i], .non]) ht5
      refine ⟨DD, _, _, rfl, rfl, s5 _ _ e1, ?_, ?_⟩
      · rw [DpAll.len e2, List.length_map, List.length_take]; exact len_lt (by omega)
      have e1' := s5 _ _ e1
      refine ⟨_, rfl, (B3.keep s5).updO ndb.1 ndb.2, (TK.updL (TK.same s5) e1').seq h3, ?_⟩
      rw [List.take_add_one, g0, hn1]
      simp only [Option.toList_some, List.map_append, List.map_cons, List.map_nil]
      exact LAt.push e1' (DpAll.same s5 e2) e3 (.tup (SqT.of upd_same) (.cons (.int _) (.cons .non .nil))) (imm_encSp _)
  · rintro σ H3 ⟨kv, rfl, B3, h3, L3⟩
    rw [List.take_of_length_le (by rw [spansL_len]; exact Nat.le_refl _)] at L3
    have dts : Dp K H3 (.ref qt) (encI ts) := .tup h3 (DpAll.ints ts)
    refine ⟨_, rfl, _, ts, rfl, dts, by omega, fun p4 H4 s4 L4 => ?_⟩
    have L3' := L3.same s4
    refine ⟨_, rfl, .ref p4, .ref DD, .list ((spansL ts).map encSp), rfl, L4.dp, L3'.dp, ?_, ?_⟩
    · refine ⟨by rw [List.length_map, spansL_len]; omega, fun x hx => ?_⟩
      obtain ⟨⟨a, o⟩, _, rfl⟩ := List.mem_map.mp hx
      refine ⟨by show 2 < 2 ^ 60; decide, fun y hy => ?_⟩
      cases o <;> (rcases List.mem_cons.mp hy with rfl | hy <;> first | exact True.intro | (rw [List.mem_singleton.mp hy]; exact True.intro))
    refine ⟨_, rfl, iteF ?_⟩
    have B4 := B3.keep s4
    have h4 := (TK.same s4).seq h3
    obtain ⟨vs, e1, e2, e3⟩ := L3'
    have hvl : vs.length = (spansL ts).length := by rw [DpAll.len e2, List.length_map]
    refine ⟨_, rfl, DD, rfl, ⟨_, SqL.of e1⟩, ?_⟩
    refine for_list (xs := vs) (fun i σ H' => ∃ (kv c6 : Option V), σ = [some (.ref a), none, kv, some (.ref b), some (.ref qt), some (.ref DD), c6, none, none, none, none, none] ∧ Same H4 H') ⟨_, _, rfl, Same.refl H4⟩ (fun i σ H' _ h => by obtain ⟨_, _, _, h2⟩ := h; exact SqL.of (h2 _ _ e1)) ?_ ?_
    · rintro i x σ H5 hi ⟨kv, c6, rfl, s5⟩
      have hil : i < (spansL ts).length := by rw [← hvl]; exact (List.getElem?_eq_some_iff.mp hi).1
      obtain ⟨y, hy, dy⟩ := DpAll.get e2 (i := i) (d := encSp (spansL ts)[i]) (by rw [List.getElem?_map, List.getElem?_eq_getElem hil]; rfl)
      have ex : x = y := Option.some.inj (hi.symm.trans hy)
      subst ex
      obtain ⟨⟨a1, o⟩, hsp⟩ : ∃ sp, sp = (spansL ts)[i] := ⟨_, rfl⟩
      rw [← hsp] at dy
      obtain ⟨q1, rfl, hq1⟩ := dp_encSp dy
      have hq5 := (TK.same s5).seq hq1
      refine ⟨_, rfl, q1, _, _, _, rfl, rfl, hq5, rfl, ?_⟩
      refine ⟨_, rfl, q1, _, _, _, rfl, rfl, hq5, rfl, a1, o, rfl, fun p6 H6 s6 h6 => ?_⟩
      have hq6 := (TK.same s6).seq hq5
      refine ⟨_, rfl, q1, rfl, ⟨_, hq6⟩, fun D1 hD1 => ?_⟩
      refine lc_it (walk_tup (xs := [V.int a1, oV o])) (fun m H' => Same H6 H' ∧ H' D1 = some (.lst (([V.int a1, oV o].take m).filter fun v => !decide (v = V.non)))) ⟨same_new hD1, upd_same⟩ (fun m H' _ h => (TK.same h.1).seq hq6) ?_ ?_
      · rintro m z H7 H8 hm ⟨s7, g7⟩ ⟨rfl, hz⟩
        have stp : ([V.int a1, oV o].take (m + 1)).filter (fun v => !decide (v = V.non)) = ([V.int a1, oV o].take m).filter (fun v => !decide (v = V.non)) ++ [z].filter (fun v => !decide (v = V.non)) := by
          rw [List.take_add_one, hz, List.filter_append]; rfl
        refine ⟨rfl, ?_⟩
        refine ⟨_, rfl, rfl, _, rfl, ?_⟩
        refine ite2 (fun c => ?_) (fun c => ?_)
        · refine ⟨_, rfl, _, g7, ?_, same_upd s7 hD1, ?_⟩
          · exact Nat.lt_of_le_of_lt (Nat.le_trans (List.length_filter_le _ _) (by rw [List.length_take]; exact Nat.min_le_right _ _)) (by show 2 < 16777216; decide)
          · rw [upd_same, stp, List.filter_cons_of_pos (p := fun v => !decide (v = V.non)) c]; rfl
        · refine ⟨s7, ?_⟩
          rw [stp, List.filter_cons_of_neg (p := fun v => !decide (v = V.non)) c]
          rw [List.filter_nil, List.append_nil]
          exact g7
      · rintro H7 ⟨s7, g7⟩
        have fin : ([V.int a1, oV o].take 2).filter (fun v => !decide (v = V.non)) = (a1 :: o.toList).map V.int := by
          cases o with
          | none => rfl
          | some b2 => rfl
        rw [show [V.int a1, oV o].length = 2 from rfl, fin] at g7
        refine ⟨D1, _, rfl, .inl ⟨SqL.of g7, fun p8 hp8 => ?_⟩⟩
        have s8 := s7.trans (same_new (o := .tup ((a1 :: o.toList).map V.int)) hp8)
        refine ⟨.ref p6, .ref p8, .tuple ((a1 :: o.toList).map .int), rfl, .tup ((TK.same s8).seq h6) (DpAll.ints _), .tup (SqT.of upd_same) (DpAll.ints _), ?_, ?_⟩
        · cases o <;> exact ⟨Nat.lt_of_le_of_lt (show _ ≤ 2 from by simp) (by decide), fun y hy => by obtain ⟨z, _, rfl⟩ := List.mem_map.mp hy; exact True.intro⟩
        · exact ⟨_, rfl, iteF ⟨_, _, rfl, (s5.trans s6).trans s8⟩⟩
    · rintro σ H5 ⟨kv, c6, rfl, s5⟩
      have B5 := B4.keep s5
      have h5 := (TK.same s5).seq h4
      have cstep : ∀ m : Nat, (((List.range (m + 1)).filter fun (k : Nat) => inL ts (k : Int)).map fun (k : Nat) => V.int (0 + (k : Int))) = (((List.range m).filter fun (k : Nat) => inL ts (k : Int)).map fun (k : Nat) => V.int (0 + (k : Int))) ++ (if inL ts (m : Int) = true then [V.int (0 + (m : Int))] else []) := fun m => by
        rw [List.range_succ, List.filter_append, List.map_append]
        by_cases c : inL ts (m : Int) = true
        · rw [if_pos c, List.filter_cons_of_pos (p := fun (k : Nat) => inL ts (k : Int)) c]; rfl
        · rw [if_neg c, List.filter_cons_of_neg (p := fun (k : Nat) => inL ts (k : Int)) c]; rfl
      have clen : ∀ m : Nat, (((List.range m).filter fun (k : Nat) => inL ts (k : Int)).map fun (k : Nat) => V.int (0 + (k : Int))).length = cntL ts m := fun m => List.length_map _
      have cle : ∀ m : Nat, cntL ts m ≤ m := fun m => Nat.le_trans (List.length_filter_le _ _) (by rw [List.length_range]; exact Nat.le_refl _)
      refine ⟨_, rfl, (by decide), (by decide), ?_⟩
      refine for_range (n := 3) (fun i σ H' => ∃ (kv c6 c7 c8 c9 : Option V), σ = [some (.ref a), none, kv, some (.ref b), some (.ref qt), some (.ref DD), c6, c7, c8, c9, none, none] ∧ BoxAt H' b p ∧ SqT K H' qt (ts.map V.int)) ⟨_, _, _, _, _, rfl, B5, h5⟩ ?_ ?_
      · rintro i σ H6 hi ⟨kv, c6, c7, c8, c9, rfl, B6, h6⟩
        refine ⟨_, rfl, b, p, _, rfl, B6, (by decide), fun r7 H7 h70 h71 B7 k7 => ?_⟩
        obtain ⟨T7, rfl⟩ := Int.eq_ofNat_of_zero_le h70
        have h7 := (TK.box B6 k7).seq h6
        refine ⟨_, rfl, _, rfl, (by omega), (by omega), fun D1 hD1 => ?_⟩
        rw [show ((T7 : Nat) : Int).toNat = T7 by omega]
        refine lc_it (walk_range (n := T7)) (fun m H' => Same H7 H' ∧ H' D1 = some (.lst (((List.range m).filter fun (k : Nat) => inL ts (k : Int)).map fun (k : Nat) => V.int (0 + (k : Int))))) ⟨same_new hD1, upd_same⟩ (fun _ _ _ _ => trivial) ?_ ?_
        · rintro m z H8 H9 hm ⟨s8, g8⟩ ⟨rfl, rfl⟩
          refine ⟨rfl, ?_⟩
          refine ⟨_, rfl, _, rfl, _, ts, _, rfl, .tup ((TK.same s8).seq h7) (DpAll.ints _), _, rfl, ?_⟩
          refine ite2 (fun c => ?_) (fun c => ?_)
          · have c' : inL ts (m : Int) = true := by simpa using c
            refine ⟨_, rfl, _, g8, ?_, same_upd s8 hD1, ?_⟩
            · rw [clen]; have := cle m; exact len_lt (by omega)
            · rw [upd_same, cstep, if_pos c']
          · have c' : ¬ inL ts (m : Int) = true := fun h => c (by simpa using h)
            refine ⟨s8, ?_⟩
            rw [cstep, if_neg c', List.append_nil]
            exact g8
        · rintro H8 ⟨s8, g8⟩
          have h8 := (TK.same s8).seq h7
          refine ⟨D1, _, rfl, .inl (SqL.of g8), ?_⟩
          rw [clen]
          refine ⟨_, rfl, _, rfl, _, ts, _, rfl, .tup h8 (DpAll.ints _), by omega, fun H9 s9 => ?_⟩
          rw [cnt_len T7 ts hr2 h02]
          refine ⟨_, rfl, _, _, .int (cntL ts T7 : Nat), rfl, .int _, .int _, True.intro, _, rfl, iteF ?_⟩
          exact ⟨_, _, _, _, _, rfl, (B7.keep s8).keep s9, (TK.same s9).seq h8⟩
      · rintro σ H6 ⟨kv, c6, c7, c8, c9, rfl, B6, h6⟩
        refine ⟨_, rfl, b, p, _, rfl, B6, (by decide), fun r7 H7 h70 h71 B7 k7 => ⟨_, _, rfl, rfl, ?_⟩⟩
        have h7 := (TK.box B6 k7).seq h6
        refine ⟨_, rfl, _, _, rfl, rfl, ?_⟩
        refine ⟨100, rfl, (by decide), (by decide), fun D1 hD1 => ?_⟩
        refine lc_it (walk_range (n := 100)) (fun m H' => Same H7 H' ∧ H' D1 = some (.lst (((List.range m).filter fun (k : Nat) => inL ts (k : Int)).map fun (k : Nat) => V.int (0 + (k : Int))))) ⟨same_new hD1, upd_same⟩ (fun _ _ _ _ => trivial) ?_ ?_
        · rintro m z H8 H9 hm ⟨s8, g8⟩ ⟨rfl, rfl⟩
          refine ⟨rfl, ?_⟩
          refine ⟨_, rfl, _, rfl, _, ts, _, rfl, .tup ((TK.same s8).seq h7) (DpAll.ints _), _, rfl, ?_⟩
          refine ite2 (fun c => ?_) (fun c => ?_)
          · have c' : inL ts (m : Int) = true := by simpa using c
            refine ⟨_, rfl, _, g8, ?_, same_upd s8 hD1, ?_⟩
            · rw [clen]; have := cle m; exact len_lt (by omega)
            · rw [upd_same, cstep, if_pos c']
          · have c' : ¬ inL ts (m : Int) = true := fun h => c (by simpa using h)
            refine ⟨s8, ?_⟩
            rw [cstep, if_neg c', List.append_nil]
            exact g8
        · rintro H8 ⟨s8, g8⟩
          have h8 := (TK.same s8).seq h7
          refine ⟨D1, _, rfl, .inl (SqL.of g8), ?_⟩
          rw [clen]
          refine ⟨_, rfl, _, rfl, _, ts, _, rfl, .tup h8 (DpAll.ints _), .inr ⟨_, rfl, ?_⟩⟩
          have hfar := cnt_far (ts := ts) (M := 100) (fun t ht => by have := hm2 t ht; omega) (49900 + r7.toNat)
          have e100 : ((100 : Nat) : Int) = 100 := rfl
          rw [e100] at hfar
          refine ⟨_, _, rfl, rfl, ?_, ?_⟩
          · exact .inl ⟨by omega, by omega⟩
          refine ⟨_, _, rfl, rfl, ?_⟩
          refine ⟨_, rfl, _, rfl, _, ts, _, rfl, .tup h8 (DpAll.ints _), by omega, fun H9 s9 => ?_⟩
          have ef : (50000 : Int) + r7 = ((100 + (49900 + r7.toNat) : Nat) : Int) := by omega
          have e1 : lenS ((50000 : Int) + r7) (spansL ts) = (cntL ts (100 + (49900 + r7.toNat)) : Nat) := by
            rw [ef]; exact cnt_len _ ts hr2 h02
          refine ⟨_, rfl, _, _, .int (lenS (50000 + r7) (spansL ts)), rfl, .int _, ?_, True.intro, ?_⟩
          · have eq9 : ((cntL ts 100 : Nat) : Int) + ((50000 : Int) + r7 - 100) * (if inL ts 100 = true then 1 else 0) = lenS (50000 + r7) (spansL ts) := by
              rw [e1, hfar]
              by_cases c : inL ts 100 = true
              · rw [if_pos c, if_pos c]; omega
              · rw [if_neg c, if_neg c]; omega
            rw [← eq9]
            exact .int _
          · exact q _
end

theorem all_mk {l : PySem.W.OpenLaw} {w : World} {K : PySem.W.Frag} {h : Heap} {mg : Str → Option Value} {fa f0 f1 f2 f3 f4 f5 f6 f7 f8 f9 : Addr} (X : K.In h) (G : h.Ns mainGlobals mg) (hfa : mg "law" = some (.ref fa))
    {od0 od1 od2 od3 od4 od5 od6 od7 od8 od9 an0 an1 an2 an3 an4 an5 an6 an7 an8 an9 : Option Addr} {sl0 sl1 sl2 sl3 sl4 sl5 sl6 sl7 sl8 sl9 : Array (Option Value)} {oc0 oc1 oc2 oc3 oc4 oc5 oc6 oc7 oc8 oc9 kV0 kV1 kV2 kV3 kV4 kV5 kV6 kV7 kV8 kV9 dc0 dc1 dc2 dc3 dc4 dc5 dc6 dc7 dc8 dc9 pm0 pm1 pm2 pm3 pm4 pm5 pm6 pm7 pm8 pm9 cd0 cd1 cd2 cd3 cd4 cd5 cd6 cd7 cd8 cd9 ct0 ct1 ct2 ct3 ct4 ct5 ct6 ct7 ct8 ct9 : Value}
    (a0 : PySem.W.nsIn K mainGlobals "of_span" = some (some (.ref f0))) (l0 : K.lookup f0 = some ⟨oc0, od0, .func (PySem.W.fnOf "of_span" "of_span" (defArgs s_of_span) (defBody s_of_span) (defScope s_of_span) .none kV0 dc0 pm0 an0 cd0 ct0), sl0⟩) (c0 : PySem.W.codeIn K cd0 "of_span" = true) (k0 : PySem.W.keepIn K (.ref f0) = true)
    (a1 : PySem.W.nsIn K mainGlobals "spans" = some (some (.ref f1))) (l1 : K.lookup f1 = some ⟨oc1, od1, .func (PySem.W.fnOf "spans" "spans" (defArgs s_spans) (defBody s_spans) (defScope s_spans) .none kV1 dc1 pm1 an1 cd1 ct1), sl1⟩) (c1 : PySem.W.codeIn K cd1 "spans" = true) (k1 : PySem.W.keepIn K (.ref f1) = true)
    (a2 : PySem.W.nsIn K mainGlobals "length_before" = some (some (.ref f2))) (l2 : K.lookup f2 = some ⟨oc2, od2, .func (PySem.W.fnOf "length_before" "length_before" (defArgs s_length_before) (defBody s_length_before) (defScope s_length_before) .none kV2 dc2 pm2 an2 cd2 ct2), sl2⟩) (c2 : PySem.W.codeIn K cd2 "length_before" = true) (k2 : PySem.W.keepIn K (.ref f2) = true)
    (a3 : PySem.W.nsIn K mainGlobals "_law_cell" = some (some (.ref f3))) (l3 : K.lookup f3 = some ⟨oc3, od3, .func (PySem.W.fnOf "_law_cell" "_law_cell" (defArgs s__law_cell) (defBody s__law_cell) (defScope s__law_cell) .none kV3 dc3 pm3 an3 cd3 ct3), sl3⟩) (c3 : PySem.W.codeIn K cd3 "_law_cell" = true) (k3 : PySem.W.keepIn K (.ref f3) = true)
    (a4 : PySem.W.nsIn K mainGlobals "_law_digits" = some (some (.ref f4))) (l4 : K.lookup f4 = some ⟨oc4, od4, .func (PySem.W.fnOf "_law_digits" "_law_digits" (defArgs s__law_digits) (defBody s__law_digits) (defScope s__law_digits) .none kV4 dc4 pm4 an4 cd4 ct4), sl4⟩) (c4 : PySem.W.codeIn K cd4 "_law_digits" = true) (k4 : PySem.W.keepIn K (.ref f4) = true)
    (a5 : PySem.W.nsIn K mainGlobals "_law_draw" = some (some (.ref f5))) (l5 : K.lookup f5 = some ⟨oc5, od5, .func (PySem.W.fnOf "_law_draw" "_law_draw" (defArgs s__law_draw) (defBody s__law_draw) (defScope s__law_draw) .none kV5 dc5 pm5 an5 cd5 ct5), sl5⟩) (c5 : PySem.W.codeIn K cd5 "_law_draw" = true) (k5 : PySem.W.keepIn K (.ref f5) = true)
    (a6 : PySem.W.nsIn K mainGlobals "_law_same" = some (some (.ref f6))) (l6 : K.lookup f6 = some ⟨oc6, od6, .func (PySem.W.fnOf "_law_same" "_law_same" (defArgs s__law_same) (defBody s__law_same) (defScope s__law_same) .none kV6 dc6 pm6 an6 cd6 ct6), sl6⟩) (c6 : PySem.W.codeIn K cd6 "_law_same" = true) (k6 : PySem.W.keepIn K (.ref f6) = true)
    (a7 : PySem.W.nsIn K mainGlobals "_law_timeline" = some (some (.ref f7))) (l7 : K.lookup f7 = some ⟨oc7, od7, .func (PySem.W.fnOf "_law_timeline" "_law_timeline" (defArgs s__law_timeline) (defBody s__law_timeline) (defScope s__law_timeline) .none kV7 dc7 pm7 an7 cd7 ct7), sl7⟩) (c7 : PySem.W.codeIn K cd7 "_law_timeline" = true) (k7 : PySem.W.keepIn K (.ref f7) = true)
    (a8 : PySem.W.nsIn K mainGlobals "_law_is_in" = some (some (.ref f8))) (l8 : K.lookup f8 = some ⟨oc8, od8, .func (PySem.W.fnOf "_law_is_in" "_law_is_in" (defArgs s__law_is_in) (defBody s__law_is_in) (defScope s__law_is_in) .none kV8 dc8 pm8 an8 cd8 ct8), sl8⟩) (c8 : PySem.W.codeIn K cd8 "_law_is_in" = true) (k8 : PySem.W.keepIn K (.ref f8) = true)
    (a9 : PySem.W.nsIn K mainGlobals "law" = some (some (.ref f9))) (l9 : K.lookup f9 = some ⟨oc9, od9, .func (PySem.W.fnOf "law" "law" (defArgs s_law) (defBody s_law) (defScope s_law) .none kV9 dc9 pm9 an9 cd9 ct9), sl9⟩) (c9 : PySem.W.codeIn K cd9 "law" = true) (k9 : PySem.W.keepIn K (.ref f9) = true)
    (z0 : PySem.W.nsIn K mainGlobals "bool" = some none)
    (z1 : PySem.W.nsIn K mainGlobals "int" = some none)
    (z2 : PySem.W.nsIn K mainGlobals "isinstance" = some none)
    (z3 : PySem.W.nsIn K mainGlobals "len" = some none)
    (z4 : PySem.W.nsIn K mainGlobals "list" = some none)
    (z5 : PySem.W.nsIn K mainGlobals "min" = some none)
    (z6 : PySem.W.nsIn K mainGlobals "range" = some none)
    (z7 : PySem.W.nsIn K mainGlobals "str" = some none)
    (z8 : PySem.W.nsIn K mainGlobals "tuple" = some none)
    (z9 : PySem.W.nsIn K mainGlobals "zip" = some none)
    : ∃ fd : FuncData, (∀ (s : Shared) (v : Value), BindsTo s fd ⟨[v], []⟩ [("script", v)]) ∧ ∀ base : Heap, K.In base → base.Ns mainGlobals mg → FnOk l.prog w K mg base CX0 4 fa fd ["script"] (ySpLaw K) := by
  have e := hfa.symm.trans (PySem.W.mg_of X G a9)
  cases e
  have F0 := fun_mk (st := s_of_span) l0 c0 k0
  have F1 := fun_mk (st := s_spans) l1 c1 k1
  have F2 := fun_mk (st := s_length_before) l2 c2 k2
  have F3 := fun_mk (st := s__law_cell) l3 c3 k3
  have F4 := fun_mk (st := s__law_digits) l4 c4 k4
  have F5 := fun_mk (st := s__law_draw) l5 c5 k5
  have F6 := fun_mk (st := s__law_same) l6 c6 k6
  have F7 := fun_mk (st := s__law_timeline) l7 c7 k7
  have F8 := fun_mk (st := s__law_is_in) l8 c8 k8
  have F9 := fun_mk (st := s_law) l9 c9 k9
  have b0 := F0.binds (ps := ["start", "end"]) fun _ _ _ _ _ _ us hl => match us, hl with | [_, _], _ => rfl
  have b1 := F1.binds (ps := ["timeline"]) fun _ _ _ _ _ _ us hl => match us, hl with | [_], _ => rfl
  have b2 := F2.binds (ps := ["timeline", "time"]) fun _ _ _ _ _ _ us hl => match us, hl with | [_, _], _ => rfl
  have b3 := F3.binds (ps := ["script", "k"]) fun _ _ _ _ _ _ us hl => match us, hl with | [_, _], _ => rfl
  have b4 := F4.binds (ps := ["script", "first", "last"]) fun _ _ _ _ _ _ us hl => match us, hl with | [_, _, _], _ => rfl
  have b5 := F5.binds (ps := ["box", "many"]) fun _ _ _ _ _ _ us hl => match us, hl with | [_, _], _ => rfl
  have b6 := F6.binds (ps := ["actual", "due"]) fun _ _ _ _ _ _ us hl => match us, hl with | [_, _], _ => rfl
  have b7 := F7.binds (ps := ["box", "most"]) fun _ _ _ _ _ _ us hl => match us, hl with | [_, _], _ => rfl
  have b8 := F8.binds (ps := ["timeline", "time"]) fun _ _ _ _ _ _ us hl => match us, hl with | [_, _], _ => rfl
  have b9 := F9.binds (ps := ["script"]) fun _ _ _ _ _ _ us hl => match us, hl with | [_], _ => rfl
  let AA : Nat → Addr := fun i => match i with | 0 => f0 | 1 => f1 | 2 => f2 | 3 => f3 | 4 => f4 | 5 => f5 | 6 => f6 | 7 => f7 | 8 => f8 | 9 => fa | _ => fa
  let DD : Nat → FuncData := fun i => match i with | 0 => PySem.W.fnOf "of_span" "of_span" (defArgs s_of_span) (defBody s_of_span) (defScope s_of_span) .none kV0 dc0 pm0 an0 cd0 ct0 | 1 => PySem.W.fnOf "spans" "spans" (defArgs s_spans) (defBody s_spans) (defScope s_spans) .none kV1 dc1 pm1 an1 cd1 ct1 | 2 => PySem.W.fnOf "length_before" "length_before" (defArgs s_length_before) (defBody s_length_before) (defScope s_length_before) .none kV2 dc2 pm2 an2 cd2 ct2 | 3 => PySem.W.fnOf "_law_cell" "_law_cell" (defArgs s__law_cell) (defBody s__law_cell) (defScope s__law_cell) .none kV3 dc3 pm3 an3 cd3 ct3 | 4 => PySem.W.fnOf "_law_digits" "_law_digits" (defArgs s__law_digits) (defBody s__law_digits) (defScope s__law_digits) .none kV4 dc4 pm4 an4 cd4 ct4 | 5 => PySem.W.fnOf "_law_draw" "_law_draw" (defArgs s__law_draw) (defBody s__law_draw) (defScope s__law_draw) .none kV5 dc5 pm5 an5 cd5 ct5 | 6 => PySem.W.fnOf "_law_same" "_law_same" (defArgs s__law_same) (defBody s__law_same) (defScope s__law_same) .none kV6 dc6 pm6 an6 cd6 ct6 | 7 => PySem.W.fnOf "_law_timeline" "_law_timeline" (defArgs s__law_timeline) (defBody s__law_timeline) (defScope s__law_timeline) .none kV7 dc7 pm7 an7 cd7 ct7 | 8 => PySem.W.fnOf "_law_is_in" "_law_is_in" (defArgs s__law_is_in) (defBody s__law_is_in) (defScope s__law_is_in) .none kV8 dc8 pm8 an8 cd8 ct8 | 9 => PySem.W.fnOf "law" "law" (defArgs s_law) (defBody s_law) (defScope s_law) .none kV9 dc9 pm9 an9 cd9 ct9 | _ => PySem.W.fnOf "law" "law" (defArgs s_law) (defBody s_law) (defScope s_law) .none kV9 dc9 pm9 an9 cd9 ct9
  have T : Txt K mg AA DD := { F_of_span := F0, b_of_span := b0, m_of_span := PySem.W.mg_of X G a0, F_spans := F1, b_spans := b1, m_spans := PySem.W.mg_of X G a1, F_length_before := F2, b_length_before := b2, m_length_before := PySem.W.mg_of X G a2, F__law_cell := F3, b__law_cell := b3, m__law_cell := PySem.W.mg_of X G a3, F__law_digits := F4, b__law_digits := b4, m__law_digits := PySem.W.mg_of X G a4, F__law_draw := F5, b__law_draw := b5, m__law_draw := PySem.W.mg_of X G a5, F__law_same := F6, b__law_same := b6, m__law_same := PySem.W.mg_of X G a6, F__law_timeline := F7, b__law_timeline := b7, m__law_timeline := PySem.W.mg_of X G a7, F__law_is_in := F8, b__law_is_in := b8, m__law_is_in := PySem.W.mg_of X G a8, F_law := F9, b_law := b9, m_law := PySem.W.mg_of X G a9, z_bool := PySem.W.mg_none_of X G z0, z_int := PySem.W.mg_none_of X G z1, z_isinstance := PySem.W.mg_none_of X G z2, z_len := PySem.W.mg_none_of X G z3, z_list := PySem.W.mg_none_of X G z4, z_min := PySem.W.mg_none_of X G z5, z_range := PySem.W.mg_none_of X G z6, z_str := PySem.W.mg_none_of X G z7, z_tuple := PySem.W.mg_none_of X G z8, z_zip := PySem.W.mg_none_of X G z9 }
  exact ⟨DD 9, fun s v => .of_eq rfl, fun base _ _ => ok_law (A := AA) (D := DD) T⟩
theorem walk {l : PySem.W.OpenLaw} {q : Program} {loose : List Str} {XP : (Str → Option Value) → Heap → Prop} {YP : World → Heap → Prop} {d : DefRec} {K : Params → PySem.W.Frag} (hn : l.most = some 63) (hdf : d.params.defaults = [])
    (hY : ∀ (w : World) (h : Heap), YP w h → (K w.params).In h)
    (F : ∀ (w : World) (mg : Str → Option Value) (fa : Addr) (h : Heap), (K w.params).In h → h.Ns mainGlobals mg → mg d.name = some (.ref fa) →
      ∃ fd : FuncData, (∀ (s : Shared) (u : Value), BindsTo s fd ⟨[u], []⟩ [("script", u)]) ∧ ∀ base : Heap, (K w.params).In base → base.Ns mainGlobals mg → FnOk l.prog w (K w.params) mg base CX0 4 fa fd ["script"] (ySpLaw (K w.params))) :
    PySem.W.WalkO q loose XP YP l.row.toRowW d [] (fun f vs => PySem.call f vs) :=
  L2.walk_of (n := 63) (k := 4) (x := "script") (CX := fun _ => CX0) (sp := fun w => ySpLaw (K w.params)) hn (by decide) hdf ⟨rfl, by decide, by decide⟩ hY F (fun _ _ a ns hl _ hS => ⟨a, ns, rfl, hS, hl, fun _ => rfl⟩) fun _ _ _ _ _ z => z
end Z
open PySem PySem.W PyProof.Rows
set_option maxRecDepth 100000 in
set_option maxHeartbeats 0 in
theorem PySem.Challenge.cw_timeshelf_k02_spans_and_lengths_holds : PySem.Challenge.rw_timeshelf_k02_spans_and_lengths.Holds := by
  w_on; o_law; k_head; (case hw => w_witness2)
  k_fill
  refine Z.walk (l := PySem.Challenge.rw_timeshelf_k02_spans_and_lengths) rfl rfl (fun w h Y => PySem.W.kIn_of Y) ?F
  case F =>
    intro w mg fa h KX G hmg
    refine' Z.all_mk KX G hmg ?a0 ?l0 ?c0 ?k0 ?a1 ?l1 ?c1 ?k1 ?a2 ?l2 ?c2 ?k2 ?a3 ?l3 ?c3 ?k3 ?a4 ?l4 ?c4 ?k4 ?a5 ?l5 ?c5 ?k5 ?a6 ?l6 ?c6 ?k6 ?a7 ?l7 ?c7 ?k7 ?a8 ?l8 ?c8 ?k8 ?a9 ?l9 ?c9 ?k9 ?z0 ?z1 ?z2 ?z3 ?z4 ?z5 ?z6 ?z7 ?z8 ?z9
    (case a0 => first | k_is | rfl | decide +kernel)
    (case l0 => first | k_is | rfl | decide +kernel)
    (case c0 => first | k_is | rfl | decide +kernel)
    (case k0 => first | k_is | rfl | decide +kernel)
    (case a1 => first | k_is | rfl | decide +kernel)
    (case l1 => first | k_is | rfl | decide +kernel)
    (case c1 => first | k_is | rfl | decide +kernel)
    (case k1 => first | k_is | rfl | decide +kernel)
    (case a2 => first | k_is | rfl | decide +kernel)
    (case l2 => first | k_is | rfl | decide +kernel)
    (case c2 => first | k_is | rfl | decide +kernel)
    (case k2 => first | k_is | rfl | decide +kernel)
    (case a3 => first | k_is | rfl | decide +kernel)
    (case l3 => first | k_is | rfl | decide +kernel)
    (case c3 => first | k_is | rfl | decide +kernel)
    (case k3 => first | k_is | rfl | decide +kernel)
    (case a4 => first | k_is | rfl | decide +kernel)
    (case l4 => first | k_is | rfl | decide +kernel)
    (case c4 => first | k_is | rfl | decide +kernel)
    (case k4 => first | k_is | rfl | decide +kernel)
    (case a5 => first | k_is | rfl | decide +kernel)
    (case l5 => first | k_is | rfl | decide +kernel)
    (case c5 => first | k_is | rfl | decide +kernel)
    (case k5 => first | k_is | rfl | decide +kernel)
    (case a6 => first | k_is | rfl | decide +kernel)
    (case l6 => first | k_is | rfl | decide +kernel)
    (case c6 => first | k_is | rfl | decide +kernel)
    (case k6 => first | k_is | rfl | decide +kernel)
    (case a7 => first | k_is | rfl | decide +kernel)
    (case l7 => first | k_is | rfl | decide +kernel)
    (case c7 => first | k_is | rfl | decide +kernel)
    (case k7 => first | k_is | rfl | decide +kernel)
    (case a8 => first | k_is | rfl | decide +kernel)
    (case l8 => first | k_is | rfl | decide +kernel)
    (case c8 => first | k_is | rfl | decide +kernel)
    (case k8 => first | k_is | rfl | decide +kernel)
    (case a9 => first | k_is | rfl | decide +kernel)
    (case l9 => first | k_is | rfl | decide +kernel)
    (case c9 => first | k_is | rfl | decide +kernel)
    (case k9 => first | k_is | rfl | decide +kernel)
    (case z0 => first | k_is | rfl | decide +kernel)
    (case z1 => first | k_is | rfl | decide +kernel)
    (case z2 => first | k_is | rfl | decide +kernel)
    (case z3 => first | k_is | rfl | decide +kernel)
    (case z4 => first | k_is | rfl | decide +kernel)
    (case z5 => first | k_is | rfl | decide +kernel)
    (case z6 => first | k_is | rfl | decide +kernel)
    (case z7 => first | k_is | rfl | decide +kernel)
    (case z8 => first | k_is | rfl | decide +kernel)
    (case z9 => first | k_is | rfl | decide +kernel)
