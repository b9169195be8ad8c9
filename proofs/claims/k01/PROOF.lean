import PyProof.Rows.All
import Wide.All
import OpenK.AllK
import Wide.FinOn
import HandS.Set
import HandS.SetFor
import HandS.TupSets
import HandS.ForMost
import HandS.IsInst
import HandS.TupAny
import HandS.Comp
import HandS.Iter
import HandS.Walk
import PySem.Challenge.RW_timeshelf_k01_sets_of_times
set_option Elab.async false
set_option linter.all false
set_option maxRecDepth 100000
set_option maxHeartbeats 2000000
namespace Z
open PySem L2
def top (i : Nat) : Stmt := PySem.Challenge.pw_timeshelf_k01_sets_of_times.main.body.getD i (.Pass ⟨0, 0, 0, 0⟩)
abbrev s_points_until : Stmt := top 1
abbrev N_points_until : List Str := ["timeline", "time", "low", "high", "middle"]
theorem sc_points_until : FnScope ["timeline", "time", "low", "high", "middle"] ["timeline", "time"] (defScope s_points_until) := ⟨rfl, rfl, rfl, by decide +kernel, rfl, by decide +kernel, by decide +kernel⟩
abbrev s_is_in : Stmt := top 2
abbrev N_is_in : List Str := ["timeline", "time"]
theorem sc_is_in : FnScope ["timeline", "time"] ["timeline", "time"] (defScope s_is_in) := ⟨rfl, rfl, rfl, by decide +kernel, rfl, by decide +kernel, by decide +kernel⟩
abbrev s_join : Stmt := top 3
abbrev N_join : List Str := ["one", "other", "points", "time", "inside"]
theorem sc_join : FnScope ["one", "other", "points", "time", "inside"] ["one", "other"] (defScope s_join) := ⟨rfl, rfl, rfl, by decide +kernel, rfl, by decide +kernel, by decide +kernel⟩
abbrev s_meet : Stmt := top 4
abbrev N_meet : List Str := ["one", "other"]
theorem sc_meet : FnScope ["one", "other"] ["one", "other"] (defScope s_meet) := ⟨rfl, rfl, rfl, by decide +kernel, rfl, by decide +kernel, by decide +kernel⟩
abbrev s_rest : Stmt := top 5
abbrev N_rest : List Str := ["timeline"]
theorem sc_rest : FnScope ["timeline"] ["timeline"] (defScope s_rest) := ⟨rfl, rfl, rfl, by decide +kernel, rfl, by decide +kernel, by decide +kernel⟩
abbrev s__law_cell : Stmt := top 7
abbrev N__law_cell : List Str := ["script", "k"]
theorem sc__law_cell : FnScope ["script", "k"] ["script", "k"] (defScope s__law_cell) := ⟨rfl, rfl, rfl, by decide +kernel, rfl, by decide +kernel, by decide +kernel⟩
abbrev s__law_digits : Stmt := top 8
abbrev N__law_digits : List Str := ["script", "first", "last", "digits", "k", "cell", "turn", "seed"]
theorem sc__law_digits : FnScope ["script", "first", "last", "digits", "k", "cell", "turn", "seed"] ["script", "first", "last"] (defScope s__law_digits) := ⟨rfl, rfl, rfl, by decide +kernel, rfl, by decide +kernel, by decide +kernel⟩
abbrev s__law_draw : Stmt := top 9
abbrev N__law_draw : List Str := ["box", "many", "at"]
theorem sc__law_draw : FnScope ["box", "many", "at"] ["box", "many"] (defScope s__law_draw) := ⟨rfl, rfl, rfl, by decide +kernel, rfl, by decide +kernel, by decide +kernel⟩
abbrev s__law_same : Stmt := top 10
abbrev N__law_same : List Str := ["actual", "due", "k"]
theorem sc__law_same : FnScope ["actual", "due", "k"] ["actual", "due"] (defScope s__law_same) := ⟨rfl, rfl, rfl, by decide +kernel, rfl, by decide +kernel, by decide +kernel⟩
abbrev s__law_timeline : Stmt := top 11
abbrev N__law_timeline : List Str := ["box", "most", "points", "time", "k"]
theorem sc__law_timeline : FnScope ["box", "most", "points", "time", "k"] ["box", "most"] (defScope s__law_timeline) := ⟨rfl, rfl, rfl, by decide +kernel, rfl, by decide +kernel, by decide +kernel⟩
abbrev s__law_is_in : Stmt := top 12
abbrev N__law_is_in : List Str := ["timeline", "time", "inside", "point"]
theorem sc__law_is_in : FnScope ["timeline", "time", "inside", "point"] ["timeline", "time"] (defScope s__law_is_in) := ⟨rfl, rfl, rfl, by decide +kernel, rfl, by decide +kernel, by decide +kernel⟩
abbrev s__law_rises : Stmt := top 13
abbrev N__law_rises : List Str := ["timeline", "last", "point"]
theorem sc__law_rises : FnScope ["timeline", "last", "point"] ["timeline"] (defScope s__law_rises) := ⟨rfl, rfl, rfl, by decide +kernel, rfl, by decide +kernel, by decide +kernel⟩
abbrev s_law : Stmt := top 14
abbrev N_law : List Str := ["script", "point", "box", "one", "other", "joined", "met", "left", "time", "first", "second"]
theorem sc_law : FnScope ["script", "point", "box", "one", "other", "joined", "met", "left", "time", "first", "second"] ["script"] (defScope s_law) := ⟨rfl, rfl, rfl, by decide +kernel, rfl, by decide +kernel, by decide +kernel⟩
structure Txt (K : PySem.W.Frag) (mg : Str → Option Value) (A : Nat → Addr) (D : Nat → FuncData) : Prop where
  F_points_until : Fun K "points_until" "points_until" s_points_until (A 0) (D 0)
  b_points_until : Binds K (D 0) ["timeline", "time"] []
  m_points_until : mg "points_until" = some (.ref (A 0))
  F_is_in : Fun K "is_in" "is_in" s_is_in (A 1) (D 1)
  b_is_in : Binds K (D 1) ["timeline", "time"] []
  m_is_in : mg "is_in" = some (.ref (A 1))
  F_join : Fun K "join" "join" s_join (A 2) (D 2)
  b_join : Binds K (D 2) ["one", "other"] []
  m_join : mg "join" = some (.ref (A 2))
  F_meet : Fun K "meet" "meet" s_meet (A 3) (D 3)
  b_meet : Binds K (D 3) ["one", "other"] []
  m_meet : mg "meet" = some (.ref (A 3))
  F_rest : Fun K "rest" "rest" s_rest (A 4) (D 4)
  b_rest : Binds K (D 4) ["timeline"] []
  m_rest : mg "rest" = some (.ref (A 4))
  F__law_cell : Fun K "_law_cell" "_law_cell" s__law_cell (A 5) (D 5)
  b__law_cell : Binds K (D 5) ["script", "k"] []
  m__law_cell : mg "_law_cell" = some (.ref (A 5))
  F__law_digits : Fun K "_law_digits" "_law_digits" s__law_digits (A 6) (D 6)
  b__law_digits : Binds K (D 6) ["script", "first", "last"] []
  m__law_digits : mg "_law_digits" = some (.ref (A 6))
  F__law_draw : Fun K "_law_draw" "_law_draw" s__law_draw (A 7) (D 7)
  b__law_draw : Binds K (D 7) ["box", "many"] []
  m__law_draw : mg "_law_draw" = some (.ref (A 7))
  F__law_same : Fun K "_law_same" "_law_same" s__law_same (A 8) (D 8)
  b__law_same : Binds K (D 8) ["actual", "due"] []
  m__law_same : mg "_law_same" = some (.ref (A 8))
  F__law_timeline : Fun K "_law_timeline" "_law_timeline" s__law_timeline (A 9) (D 9)
  b__law_timeline : Binds K (D 9) ["box", "most"] []
  m__law_timeline : mg "_law_timeline" = some (.ref (A 9))
  F__law_is_in : Fun K "_law_is_in" "_law_is_in" s__law_is_in (A 10) (D 10)
  b__law_is_in : Binds K (D 10) ["timeline", "time"] []
  m__law_is_in : mg "_law_is_in" = some (.ref (A 10))
  F__law_rises : Fun K "_law_rises" "_law_rises" s__law_rises (A 11) (D 11)
  b__law_rises : Binds K (D 11) ["timeline"] []
  m__law_rises : mg "_law_rises" = some (.ref (A 11))
  F_law : Fun K "law" "law" s_law (A 12) (D 12)
  b_law : Binds K (D 12) ["script"] []
  m_law : mg "law" = some (.ref (A 12))
  z_bool : mg "bool" = none
  z_int : mg "int" = none
  z_isinstance : mg "isinstance" = none
  z_len : mg "len" = none
  z_list : mg "list" = none
  z_range : mg "range" = none
  z_set : mg "set" = none
  z_sorted : mg "sorted" = none
  z_str : mg "str" = none
  z_tuple : mg "tuple" = none
/-! ### what all laws share: cells, digits, draws -/
theorem same_upd {H H' : Hp} {p : Addr} {o : HO} (h : Same H H') (hp : H p = none) : Same H (upd H' p o) := fun b u q => by
  rw [upd_ne (ne_of_none q hp)]; exact h b u q
theorem same_new {H : Hp} {p : Addr} {o : HO} (h : H p = none) : Same H (upd H p o) := same_upd (Same.refl H) h
def yCell (K : PySem.W.Frag) : Sp := fun vs H Q _ => ∃ (l : Addr) (ns : List Int) (k : Nat), vs = [.ref l, .int (k : Int)] ∧ SqL K H l (ns.map V.int) ∧ ∀ z : Int, Q (.int z) H
theorem at_ints {ns : List Int} {k : Nat} (h : k < ns.length) : atI (ns.map V.int) (k : Int) = some (.int (ns.getD k 0)) := by
  apply atI_nat
  rw [List.getElem?_map, List.getElem?_eq_getElem h, List.getD_eq_getElem?_getD, List.getElem?_eq_getElem h]
  rfl
section
variable {P : Program} {w : World} {K : PySem.W.Frag} {mg : Str → Option Value} {base : Heap} {A : Nat → Addr} {D : Nat → FuncData}
theorem ok_cell (T : Txt K mg A D) : FnOk P w K mg base CX0 1 (A 5) (D 5) ["script", "k"] (yCell K) := by
  refine T.F__law_cell.ok sc__law_cell (fun vs H Q E h => ?_) (fun cdv A' outer s H vs Q E hr h => ?_)
  · obtain ⟨l, ns, k, rfl, _⟩ := h; rfl
  obtain ⟨l, ns, k, rfl, hS, q⟩ := h
  refine ⟨_, (pss_cons (ps_if (pt_cmpR op_lt (pv 1) (pe_callB call_len_seq rfl T.z_len PySem.boot_len (pa_cons (pv 0) pa_nil)) (nomark _)) (pss_one (ps_ret (pe_ix (r := rIxL K) ix_list (pv 0) (pv 1) (fun _ _ => rfl)))) pss_nil) (pss_one (ps_ret pe_int))), ?_⟩
  refine ⟨_, rfl, _, rfl, l, _, rfl, .inl hS, _, _, rfl, rfl, _, rfl, ?_⟩
  refine ite2 (fun c => ?_) (fun c => ?_)
  · have c' : (k : Int) < (((ns.map V.int).length : Nat) : Int) := of_decide_eq_true c
    rw [List.length_map] at c'
    exact ⟨_, rfl, _, rfl, l, _, _, _, rfl, rfl, hS, at_ints (by omega), q _⟩
  · exact q 0
def yDigits (K : PySem.W.Frag) : Sp := fun vs H Q _ => ∃ (l : Addr) (ns : List Int), vs = [.ref l, .int 0, .int 63] ∧ SqL K H l (ns.map V.int) ∧
  ∀ (p : Addr) (ds : List Int) (H' : Hp), Same H H' → H p = none → H' p = some (.lst (ds.map V.int)) → ds.length ≤ 3780 → Q (.ref p) H'
theorem len_lt {n : Nat} (h : n ≤ 1000000) : n < sizeLine := Nat.lt_of_le_of_lt h (by decide)
theorem app_map {ds : List Int} {z : Int} : ds.map V.int ++ [V.int z] = (ds ++ [z]).map V.int := by rw [List.map_append]; rfl
theorem ok_digits (T : Txt K mg A D) : FnOk P w K mg base CX0 2 (A 6) (D 6) ["script", "first", "last"] (yDigits K) := by
  refine T.F__law_digits.ok sc__law_digits (fun vs H Q E h => ?_) (fun cdv A' outer s H vs Q E hr h => ?_)
  · obtain ⟨l, ns, rfl, _⟩ := h; rfl
  obtain ⟨l, ns, rfl, hS, q⟩ := h
  have G__law_cell := ok_cell (P := P) (w := w) (base := base) T
  have hnd := sc__law_digits.nd
  refine ⟨_, (pss_cons (ps_set (i := 3) hnd rfl (Or.inl rfl) (pe_lst pa_nil)) (pss_cons (ps_for PassesOwn.never rfl (pi_range2 rfl T.z_range (pa_cons (pv 1) (pa_cons (pv 2) pa_nil))) (pg_name (i := 4) hnd rfl (Or.inl rfl)) (pss_cons (ps_set (i := 5) hnd rfl (Or.inl rfl) (pe_call G__law_cell (hr.mono (by first | decide | omega)) rfl T.m__law_cell T.F__law_cell.kp T.b__law_cell .nil pass0 (pa_cons (pv 0) (pa_cons (pv 4) pa_nil)))) (pss_cons (ps_if (pt_cmpR op_lt (pv 5) pe_int (nomark _)) (pss_one (ps_set (i := 5) hnd rfl (Or.inl rfl) (pe_op op_sub pe_int (pe_op op_mul pe_int (pv 5))))) pss_nil) (pss_one (ps_if (pt_cmpR op_ge (pv 5) (pe_op op_pow pe_int pe_int) (nomark _)) (pss_one (ps_for PassesOwn.never rfl (pi_range1 rfl T.z_range (pa_cons pe_int pa_nil)) (pg_name (i := 6) hnd rfl (Or.inl rfl)) (pss_one (ps_if (pt_cmpR op_gt (pv 5) pe_int (nomark _)) (pss_cons (ps_expr (pe_bm PySem.F.plainAttrs_list PySem.F.slot_list_append PySem.F.type_list_append mt_append (pv 3) (pa_cons (pe_op op_mod (pe_callTy call_int1 rfl T.z_int (by decide +kernel) (pa_cons (pv 5) pa_nil)) pe_int) pa_nil))) (pss_one (ps_set (i := 5) hnd rfl (Or.inl rfl) (pe_op op_fdiv (pv 5) pe_int)))) pss_nil)))) (pss_cons (ps_set (i := 7) hnd rfl (Or.inl rfl) (pe_op op_mod (pe_callTy call_int1 rfl T.z_int (by decide +kernel) (pa_cons (pe_op op_add (pe_op op_add (pe_op op_mul (pv 5) pe_int) (pe_op op_mul (pv 4) pe_int)) pe_int) pa_nil)) pe_int)) (pss_one (ps_for PassesOwn.never rfl (pi_range1 rfl T.z_range (pa_cons pe_int pa_nil)) (pg_name (i := 6) hnd rfl (Or.inl rfl)) (pss_cons (ps_set (i := 7) hnd rfl (Or.inl rfl) (pe_op op_mod (pe_callTy call_int1 rfl T.z_int (by decide +kernel) (pa_cons (pe_op op_add (pe_op op_add (pe_op op_mul (pv 7) pe_int) (pe_op op_mul pe_int (pv 6))) pe_int) pa_nil)) pe_int)) (pss_one (ps_expr (pe_bm PySem.F.plainAttrs_list PySem.F.slot_list_append PySem.F.type_list_append mt_append (pv 3) (pa_cons (pe_op op_mod (pe_callTy call_int1 rfl T.z_int (by decide +kernel) (pa_cons (pe_op op_fdiv (pv 7) pe_int) pa_nil)) pe_int) pa_nil))))))))))))) (pss_one (ps_ret (pv 3))))), ?_⟩
  refine ⟨(by decide), fun p hp => ?_⟩
  have sH := fun o => same_new (o := o) hp
  refine ⟨_, rfl, _, rfl, (0 : Int), (63 : Int), rfl, (by decide), ?_⟩
  refine for_range (lo := 0) (n := 63) (fun i σ H' => ∃ (ds : List Int) (c4 c5 c6 c7 : Option V), σ = [some (.ref l), some (.int 0), some (.int 63), some (.ref p), c4, c5, c6, c7] ∧ Same H H' ∧ H' p = some (.lst (ds.map V.int)) ∧ ds.length ≤ 60 * i)
    ⟨[], none, none, none, none, rfl, sH _, upd_same, Nat.zero_le _⟩ ?_ ?_
  · rintro i σ H1 hi ⟨ds, c4, c5, c6, c7, rfl, s1, hd, hl⟩
    refine ⟨_, rfl, _, rfl, l, ns, i, (by rw [Int.zero_add]; rfl), s1.seq hS, fun z => ?_⟩
    refine ⟨_, rfl, _, _, rfl, rfl, _, rfl, ?_⟩
    refine ite2 (fun c => ?_) (fun c => ?_)
    refine ⟨_, rfl, _, _, rfl, rfl, .inl ⟨by decide, by decide⟩, _, _, rfl, rfl, ?_⟩
    all_goals
      refine ⟨_, rfl, _, _, rfl, rfl, ⟨by decide, by decide, by decide⟩, _, _, rfl, rfl, _, rfl, ?_⟩
      refine ite2 (fun _ => ?_) (fun _ => ?_)
      · refine ⟨_, rfl, by decide, by decide, for_range (n := 60) (fun t σ H' => ∃ (ds : List Int) (c : Int) (c6 : Option V), σ = [some (.ref l), some (.int 0), some (.int 63), some (.ref p), some (.int (0 + (i : Int))), some (.int c), c6, c7] ∧ Same H H' ∧ H' p = some (.lst (ds.map V.int)) ∧ ds.length ≤ 60 * i + t)
          ⟨ds, _, c6, rfl, s1, hd, by omega⟩ ?_ ?_⟩
        · rintro t σ H2 ht ⟨ds2, c, c6, rfl, s2, hd2, hl2⟩
          refine ⟨_, rfl, _, _, rfl, rfl, _, rfl, ?_⟩
          refine ite2 (fun _ => ?_) (fun _ => ?_)
          · refine ⟨_, rfl, .inl ⟨rfl, _, SqL.of hd2⟩, _, rfl, .inl ⟨_, rfl, _, _, rfl, rfl, (by show (0 : Int) < _; decide), _, _, _, rfl, rfl, hd2, (by rw [List.length_map]; exact len_lt (by omega)), ?_⟩⟩
            refine ⟨_, rfl, _, _, rfl, rfl, ⟨by decide, by decide⟩, ?_⟩
            exact ⟨_, _, _, rfl, same_upd s2 hp, by rw [upd_same, app_map], by rw [List.length_append]; simp only [List.length_singleton]; omega⟩
          · exact ⟨_, _, _, rfl, s2, hd2, by omega⟩
        · rintro σ H2 ⟨ds2, c, c6, rfl, s2, hd2, hl2⟩
          exact ⟨_, _, _, _, _, rfl, s2, hd2, by omega⟩
      · refine ⟨_, rfl, _, _, rfl, rfl, .inr ⟨by decide, by decide⟩, _, rfl, _, _, rfl, rfl, .inr ⟨by decide, by decide⟩, _, _, rfl, rfl, _, _, rfl, rfl, .inl ⟨_, rfl, _, _, rfl, rfl, (by show (0 : Int) < _; decide), ?_⟩⟩
        refine ⟨_, rfl, by decide, by decide, for_range (n := 12) (fun t σ H' => ∃ (ds : List Int) (c : Int) (c5 c6 : Option V), σ = [some (.ref l), some (.int 0), some (.int 63), some (.ref p), some (.int (0 + (i : Int))), c5, c6, some (.int c)] ∧ Same H H' ∧ H' p = some (.lst (ds.map V.int)) ∧ ds.length ≤ 60 * i + t)
          ⟨ds, _, _, _, rfl, s1, hd, by omega⟩ ?_ ?_⟩
        · rintro t σ H2 ht ⟨ds2, c, c5, c6, rfl, s2, hd2, hl2⟩
          refine ⟨_, rfl, _, _, rfl, rfl, .inr ⟨by decide, by decide⟩, _, rfl, _, _, rfl, rfl, .inl ⟨by decide, by decide⟩, _, _, rfl, rfl, _, _, rfl, rfl, .inl ⟨_, rfl, _, _, rfl, rfl, (by show (0 : Int) < _; decide), ?_⟩⟩
          refine ⟨_, rfl, .inl ⟨rfl, _, SqL.of hd2⟩, _, rfl, _, _, rfl, rfl, ⟨by decide, by decide⟩, .inl ⟨_, rfl, _, _, rfl, rfl, (by show (0 : Int) < _; decide), _, _, _, rfl, rfl, hd2, (by rw [List.length_map]; exact len_lt (by omega)), ?_⟩⟩
          exact ⟨_, _, _, _, rfl, same_upd s2 hp, by rw [upd_same, app_map], by rw [List.length_append]; simp only [List.length_singleton]; omega⟩
        · rintro σ H2 ⟨ds2, c, c5, c6, rfl, s2, hd2, hl2⟩
          exact ⟨_, _, _, _, _, rfl, s2, hd2, by omega⟩
  · rintro σ H1 ⟨ds, c4, c5, c6, c7, rfl, s1, hd, hl⟩
    exact ⟨_, rfl, q p ds H1 s1 hp hd (by omega)⟩
end

/-- all but the object at b stand as before -/
def Kp (b : Addr) (H H' : Hp) : Prop := ∀ c o, H c = some o → c ≠ b → H' c = some o
theorem Kp.refl (b : Addr) (H : Hp) : Kp b H H := fun _ _ h _ => h
theorem Kp.trans {b : Addr} {H H1 H2 : Hp} (a : Kp b H H1) (c : Kp b H1 H2) : Kp b H H2 := fun x o h n => c x o (a x o h n) n
theorem Kp.upd {b : Addr} {H H' : Hp} {o : HO} (a : Kp b H H') : Kp b H (upd H' b o) := fun x u h n => by rw [upd_ne n]; exact a x u h n
theorem Kp.of {b : Addr} {H H' : Hp} (a : Same H H') : Kp b H H' := fun x o h _ => a x o h
/-- the box of draws: its digits at p, the place -/
def BoxAt (H : Hp) (b p : Addr) : Prop := ∃ (ns : List Int) (n : Nat), H b = some (.lst [.ref p, .int (n : Int)]) ∧ H p = some (.lst (ns.map V.int))
theorem BoxAt.keep {H H' : Hp} {b p : Addr} (h : BoxAt H b p) (k : Same H H') : BoxAt H' b p := by
  obtain ⟨ns, n, h1, h2⟩ := h
  exact ⟨ns, n, k _ _ h1, k _ _ h2⟩
theorem BoxAt.ne {H : Hp} {b p d : Addr} (h : BoxAt H b p) (hd : H d = none) : d ≠ b ∧ d ≠ p := by
  obtain ⟨ns, n, h1, h2⟩ := h
  exact ⟨fun e => (by rw [e, h1] at hd; cases hd), fun e => (by rw [e, h2] at hd; cases hd)⟩
theorem BoxAt.updO {H : Hp} {b p d : Addr} {o : HO} (h : BoxAt H b p) (n1 : d ≠ b) (n2 : d ≠ p) : BoxAt (upd H d o) b p := by
  obtain ⟨ns, n, h1, h2⟩ := h
  exact ⟨ns, n, by rw [upd_ne n1.symm]; exact h1, by rw [upd_ne n2.symm]; exact h2⟩
/-- tuples stand as before -/
def TK (H H' : Hp) : Prop := ∀ c u, (∃ xs, u = .tup xs) → Rd H c u → Rd H' c u
theorem TK.refl (H : Hp) : TK H H := fun _ _ _ h => h
theorem TK.trans {H H1 H2 : Hp} (a : TK H H1) (b : TK H1 H2) : TK H H2 := fun c u h r => b c u h (a c u h r)
theorem TK.same {H H' : Hp} (a : Same H H') : TK H H' := fun c u _ r => by
  rcases r with r | ⟨o, r⟩
  · exact .inl (a _ _ r)
  · exact .inr ⟨o, a _ _ r⟩
theorem TK.kp {b : Addr} {H H' : Hp} {xs : List V} (a : Kp b H H') (h : H b = some (.lst xs)) : TK H H' := fun c u ⟨ys, e⟩ r => by
  subst e
  have hn : c ≠ b := fun z => by subst z; rcases r with r | ⟨o, r⟩ <;> (rw [h] at r; cases r)
  rcases r with r | ⟨o, r⟩
  · exact .inl (a _ _ r hn)
  · exact .inr ⟨o, a _ _ r hn⟩
theorem TK.box {b p : Addr} {H H' : Hp} (h : BoxAt H b p) (a : Kp b H H') : TK H H' := by
  obtain ⟨ns, n, h1, h2⟩ := h
  exact TK.kp a h1
theorem TK.updL {H H' : Hp} {b : Addr} {xs ys : List V} (a : TK H H') (h : H' b = some (.lst xs)) : TK H (upd H' b (.lst ys)) :=
  a.trans (TK.kp (Kp.upd (Kp.refl b H')) h)
theorem TK.new {H H' : Hp} {b : Addr} {o : HO} (a : TK H H') (h : H' b = none) : TK H (upd H' b o) := a.trans (TK.same (same_new h))
theorem TK.seq {K : PySem.W.Frag} {H H' : Hp} (k : TK H H') {a : Addr} {xs : List V} (h : SqT K H a xs) : SqT K H' a xs := by
  rcases h with h | h
  · exact .inl (k _ _ ⟨_, rfl⟩ h)
  · exact .inr h
/-- data without lists -/
inductive Imm : PyData → Prop
  | non : Imm .none
  | bl (b : Bool) : Imm (.bool b)
  | int (i : Int) : Imm (.int i)
  | str (x : Str) : Imm (.str x)
  | tup {ds : List PyData} : (∀ d ∈ ds, Imm d) → Imm (.tuple ds)
mutual
theorem Dp.keep {K : PySem.W.Frag} {H H' : Hp} (k : TK H H') : ∀ {v : V} {d : PyData}, Dp K H v d → Imm d → Dp K H' v d
  | _, _, .non, _ => .non
  | _, _, .bl b, _ => .bl b
  | _, _, .int i, _ => .int i
  | _, _, .str x, _ => .str x
  | _, _, .lst h a, i => nomatch i
  | _, _, .tup h a, i => .tup (k.seq h) (DpAll.keep k a (match i with | .tup j => j))
theorem DpAll.keep {K : PySem.W.Frag} {H H' : Hp} (k : TK H H') : ∀ {vs : List V} {ds : List PyData}, DpAll K H vs ds → (∀ d ∈ ds, Imm d) → DpAll K H' vs ds
  | _, _, .nil, _ => .nil
  | _, _, .cons a b, i => .cons (Dp.keep k a (i _ List.mem_cons_self)) (DpAll.keep k b fun d hd => i d (List.mem_cons_of_mem _ hd))
end
mutual
theorem Dp.same {K : PySem.W.Frag} {H H' : Hp} (k : Same H H') : ∀ {v : V} {d : PyData}, Dp K H v d → Dp K H' v d
  | _, _, .non => .non
  | _, _, .bl b => .bl b
  | _, _, .int i => .int i
  | _, _, .str x => .str x
  | _, _, .lst h a => .lst (k.seq h) (DpAll.same k a)
  | _, _, .tup h a => .tup ((TK.same k).seq h) (DpAll.same k a)
theorem DpAll.same {K : PySem.W.Frag} {H H' : Hp} (k : Same H H') : ∀ {vs : List V} {ds : List PyData}, DpAll K H vs ds → DpAll K H' vs ds
  | _, _, .nil => .nil
  | _, _, .cons a b => .cons (Dp.same k a) (DpAll.same k b)
end
theorem DpAll.len {K : PySem.W.Frag} {H : Hp} : ∀ {vs : List V} {ds : List PyData}, DpAll K H vs ds → vs.length = ds.length
  | _, _, .nil => rfl
  | _, _, .cons a b => by rw [List.length_cons, List.length_cons, DpAll.len b]
theorem DpAll.get {K : PySem.W.Frag} {H : Hp} : ∀ {vs : List V} {ds : List PyData}, DpAll K H vs ds → ∀ {i : Nat} {d : PyData}, ds[i]? = some d → ∃ v, vs[i]? = some v ∧ Dp K H v d
  | _, _, .nil, i, d, h => by simp at h
  | _, _, .cons a b, 0, d, h => by
    have e := Option.some.inj h
    subst e
    exact ⟨_, rfl, a⟩
  | _, _, .cons a b, i + 1, d, h => DpAll.get b (i := i) (by simpa using h)
theorem DpAll.app {K : PySem.W.Frag} {H : Hp} : ∀ {vs ws : List V} {ds es : List PyData}, DpAll K H vs ds → DpAll K H ws es → DpAll K H (vs ++ ws) (ds ++ es)
  | _, _, _, _, .nil, h => h
  | _, _, _, _, .cons a b, h => .cons a (DpAll.app b h)
theorem DpAll.ints {K : PySem.W.Frag} {H : Hp} : ∀ (ns : List Int), DpAll K H (ns.map V.int) (ns.map PyData.int)
  | [] => .nil
  | n :: r => .cons (.int n) (DpAll.ints r)
theorem DpAll.strs {K : PySem.W.Frag} {H : Hp} : ∀ (ns : List Str), DpAll K H (ns.map V.str) (ns.map PyData.str)
  | [] => .nil
  | n :: r => .cons (.str n) (DpAll.strs r)
/-- depth below n, lists not too long -/
def Fits : Nat → PyData → Prop
  | 0, _ => False
  | n + 1, .list xs => xs.length < 2 ^ 60 ∧ ∀ x ∈ xs, Fits n x
  | n + 1, .tuple xs => xs.length < 2 ^ 60 ∧ ∀ x ∈ xs, Fits n x
  | _ + 1, .dict _ => False
  | _ + 1, _ => True
theorem ty_l {K : PySem.W.Frag} {H : Hp} {a : Addr} {xs : List V} (h : SqL K H a xs) : TyX K H (.ref a) (.type "list") := by
  rcases h with (h | ⟨o, h⟩) | ⟨o, its, n, h1, h2, _⟩
  · exact .base (.lst h)
  · exact .base (.frz h)
  · exact .kList h1 h2
theorem ty_t {K : PySem.W.Frag} {H : Hp} {a : Addr} {xs : List V} (h : SqT K H a xs) : TyX K H (.ref a) (.type "tuple") := by
  rcases h with (h | ⟨o, h⟩) | ⟨o, its, n, h1, h2, _⟩
  · exact .base (.tup h)
  · exact .fTuple h
  · exact .kTuple h1 h2
/-- the two are the same data: True -/
def ySame (K : PySem.W.Frag) (n : Nat) : Sp := fun vs H Q _ => ∃ (x y : V) (d : PyData), vs = [x, y] ∧ Dp K H x d ∧ Dp K H y d ∧ Fits n d ∧ Q (.bl true) H
def yDraw (K : PySem.W.Frag) : Sp := fun vs H Q _ => ∃ (b p : Addr) (m : Int), vs = [.ref b, .int m] ∧ BoxAt H b p ∧ 0 < m ∧
  ∀ (r : Int) (H' : Hp), 0 ≤ r → r < m → BoxAt H' b p → Kp b H H' → Q (.int r) H'
section
variable {P : Program} {w : World} {K : PySem.W.Frag} {mg : Str → Option Value} {base : Heap} {A : Nat → Addr} {D : Nat → FuncData}
theorem ok_draw (T : Txt K mg A D) : FnOk P w K mg base CX0 1 (A 7) (D 7) ["box", "many"] (yDraw K) := by
  refine T.F__law_draw.ok sc__law_draw (fun vs H Q E h => ?_) (fun cdv A' outer s H vs Q E hr h => ?_)
  · obtain ⟨b, d, m, rfl, _⟩ := h; rfl
  obtain ⟨b, d, m, rfl, ⟨ns, n, h1, h2⟩, hm, q⟩ := h
  have hnd := sc__law_draw.nd
  have ndb : d ≠ b := fun e => by
    rw [e, h1] at h2
    cases ns with
    | nil => simp at h2
    | cons a r => simp at h2
  refine ⟨_, (pss_cons (ps_set (i := 2) hnd rfl (Or.inl rfl) (pe_ix (r := rIxL K) ix_list (pv 0) pe_int (fun _ _ => rfl))) (pss_cons (ps_asg (pe_op op_add (pv 2) pe_int) (pg_sub (pv 0) pe_int set_list)) (pss_cons (ps_if (pt_cmpR op_lt (pv 2) (pe_callB call_len_seq rfl T.z_len PySem.boot_len (pa_cons (pe_ix (r := rIxL K) ix_list (pv 0) pe_int (fun _ _ => rfl)) pa_nil)) (nomark _)) (pss_one (ps_ret (pe_op op_modN (pe_callTy call_int1 rfl T.z_int (by decide +kernel) (pa_cons (pe_ix (r := rIxL K) ix_list (pe_ix (r := rIxL K) ix_list (pv 0) pe_int (fun _ _ => rfl)) (pv 2) (fun _ _ => rfl)) pa_nil)) (pv 1)))) pss_nil) (pss_one (ps_ret pe_int))))), ?_⟩
  refine ⟨_, rfl, b, _, _, _, rfl, rfl, SqL.of h1, rfl, ?_⟩
  refine ⟨_, rfl, _, _, rfl, rfl, _, rfl, b, _, _, 1, rfl, rfl, h1, rfl, ?_⟩
  have k1 : Kp b H (upd H b (.lst [.ref d, .int ((n : Int) + 1)])) := Kp.upd (Kp.refl b H)
  have e1 : upd H b (.lst [.ref d, .int ((n : Int) + 1)]) b = some (.lst [.ref d, .int ((n : Int) + 1)]) := upd_same
  have e2 : upd H b (.lst [.ref d, .int ((n : Int) + 1)]) d = some (.lst (ns.map V.int)) := k1 _ _ h2 ndb
  have B : BoxAt (upd H b (.lst [.ref d, .int ((n : Int) + 1)])) b d := ⟨ns, n + 1, upd_same, e2⟩
  refine ⟨_, rfl, _, rfl, b, _, _, _, rfl, rfl, SqL.of e1, rfl, d, _, rfl, .inl (SqL.of e2), _, _, rfl, rfl, _, rfl, ?_⟩
  refine ite2 (fun c => ?_) (fun c => ?_)
  · have c' : (n : Int) < (((ns.map V.int).length : Nat) : Int) := of_decide_eq_true c
    rw [List.length_map] at c'
    refine ⟨_, rfl, b, _, _, _, rfl, rfl, SqL.of e1, rfl, _, rfl, d, _, _, _, rfl, rfl, SqL.of e2, at_ints (by omega), .inl ⟨_, rfl, _, rfl, _, _, rfl, rfl, (by show m ≠ 0; omega), ?_⟩⟩
    have z1 := Int.fmod_nonneg_of_pos (ns.getD n 0) hm
    have z2 := Int.fmod_lt_of_pos (ns.getD n 0) hm
    exact q _ _ z1 z2 B k1
  · exact q 0 _ (Int.le_refl 0) hm B k1
theorem ok_same (T : Txt K mg A D) : ∀ n, FnOk P w K mg base CX0 n (A 8) (D 8) ["actual", "due"] (ySame K n)
  | 0 => by
    have no : ∀ vs H Q E, ¬ ySame K 0 vs H Q E := fun vs H Q E h => by
      obtain ⟨x, y, d, _, _, _, f, _⟩ := h
      cases d <;> exact f
    exact ⟨fun vs H Q E h => absurd h (no vs H Q E), fun A outer s H args us vs Q E _ _ _ _ h => absurd h (no vs H Q E)⟩
  | n + 1 => by
    have G__law_same := ok_same T n
    refine T.F__law_same.ok sc__law_same (fun vs H Q E h => ?_) (fun cdv A' outer s H vs Q E hr h => ?_)
    · obtain ⟨x, y, d, rfl, _⟩ := h; rfl
    obtain ⟨x, y, d, rfl, dx, dy, hf, q⟩ := h
    have hnd := sc__law_same.nd
    refine ⟨_, (pss_cons (ps_if (PW.pt (pw_or (pt_val (pe_callB call_isi rfl T.z_isinstance (by decide +kernel) (pa_cons (pv 1) (pa_cons (pe_bltn (v := .ty "list") rfl T.z_list (by decide +kernel) rfl) pa_nil)))) (pw_or1 (pt_val (pe_callB call_isi rfl T.z_isinstance (by decide +kernel) (pa_cons (pv 1) (pa_cons (pe_bltn (v := .ty "tuple") rfl T.z_tuple (by decide +kernel) rfl) pa_nil))))))) (pss_cons (ps_if (PW.pt (pw_or (pt_cmpR op_ne (pe_callB call_isi rfl T.z_isinstance (by decide +kernel) (pa_cons (pv 1) (pa_cons (pe_bltn (v := .ty "list") rfl T.z_list (by decide +kernel) rfl) pa_nil))) (pe_callB call_isi rfl T.z_isinstance (by decide +kernel) (pa_cons (pv 0) (pa_cons (pe_bltn (v := .ty "list") rfl T.z_list (by decide +kernel) rfl) pa_nil))) (nomark _)) (pw_or1 (pt_cmpR op_ne (pe_callB call_isi rfl T.z_isinstance (by decide +kernel) (pa_cons (pv 1) (pa_cons (pe_bltn (v := .ty "tuple") rfl T.z_tuple (by decide +kernel) rfl) pa_nil))) (pe_callB call_isi rfl T.z_isinstance (by decide +kernel) (pa_cons (pv 0) (pa_cons (pe_bltn (v := .ty "tuple") rfl T.z_tuple (by decide +kernel) rfl) pa_nil))) (nomark _))))) (pss_one (ps_ret pe_bl)) pss_nil) (pss_cons (ps_if (pt_cmpR op_ne (pe_callB call_len_seq rfl T.z_len PySem.boot_len (pa_cons (pv 0) pa_nil)) (pe_callB call_len_seq rfl T.z_len PySem.boot_len (pa_cons (pv 1) pa_nil)) (nomark _)) (pss_one (ps_ret pe_bl)) pss_nil) (pss_cons (ps_for PassesOwn.never rfl (pi_range1 rfl T.z_range (pa_cons (pe_callB call_len_seq rfl T.z_len PySem.boot_len (pa_cons (pv 1) pa_nil)) pa_nil)) (pg_name (i := 2) hnd rfl (Or.inl rfl)) (pss_one (ps_if (pt_not (pt_val (pe_call G__law_same (hr.mono (by first | decide | omega)) rfl T.m__law_same T.F__law_same.kp T.b__law_same .nil pass0 (pa_cons (pe_ix (r := rIx K) ix_seq (pv 0) (pv 2) (fun _ _ => rfl)) (pa_cons (pe_ix (r := rIx K) ix_seq (pv 1) (pv 2) (fun _ _ => rfl)) pa_nil))))) (pss_one (ps_ret pe_bl)) pss_nil))) (pss_one (ps_ret pe_bl))))) pss_nil) (pss_cons (ps_if (pt_cmpR op_isN (pv 1) pe_non (nomark _)) (pss_one (ps_ret (pe_cmpR op_isN (pv 0) pe_non (nomark _)))) pss_nil) (pss_cons (ps_if (pt_val (pe_callB call_isi rfl T.z_isinstance (by decide +kernel) (pa_cons (pv 1) (pa_cons (pe_bltn (v := .ty "bool") rfl T.z_bool (by decide +kernel) rfl) pa_nil)))) (pss_one (ps_ret (pe_and (pe_callB call_isi rfl T.z_isinstance (by decide +kernel) (pa_cons (pv 0) (pa_cons (pe_bltn (v := .ty "bool") rfl T.z_bool (by decide +kernel) rfl) pa_nil))) (pe_one (pe_cmpR op_eq (pv 0) (pv 1) (nomark _)))))) pss_nil) (pss_cons (ps_if (pt_val (pe_callB call_isi rfl T.z_isinstance (by decide +kernel) (pa_cons (pv 1) (pa_cons (pe_bltn (v := .ty "str") rfl T.z_str (by decide +kernel) rfl) pa_nil)))) (pss_one (ps_ret (pe_and (pe_callB call_isi rfl T.z_isinstance (by decide +kernel) (pa_cons (pv 0) (pa_cons (pe_bltn (v := .ty "str") rfl T.z_str (by decide +kernel) rfl) pa_nil))) (pe_one (pe_cmpR op_eq (pv 0) (pv 1) (nomark _)))))) pss_nil) (pss_one (ps_ret (pe_and (pe_callB call_isi rfl T.z_isinstance (by decide +kernel) (pa_cons (pv 0) (pa_cons (pe_bltn (v := .ty "int") rfl T.z_int (by decide +kernel) rfl) pa_nil))) (pe_and (pe_not (pe_callB call_isi rfl T.z_isinstance (by decide +kernel) (pa_cons (pv 0) (pa_cons (pe_bltn (v := .ty "bool") rfl T.z_bool (by decide +kernel) rfl) pa_nil)))) (pe_one (pe_cmpR op_eq (pv 0) (pv 1) (nomark _))))))))))), ?_⟩
    cases d with
    | dict _ => exact hf.elim
    | list ds =>
      obtain ⟨hf1, hf2⟩ := hf
      cases dx with | lst hx ax =>
      cases dy with | lst hy ay =>
      rename_i a vs a' vs'
      have l1 := DpAll.len ax
      have l2 := DpAll.len ay
      refine ⟨_, rfl, _, _, _, _, _, rfl, .ty _, ty_l hy, kit_ty (by decide +kernel), _, rfl, iteT (iteT ?_)⟩
      refine ⟨_, rfl, _, _, _, _, true, rfl, .ty _, ty_l hy, kit_ty (by decide +kernel), _, rfl, _, _, _, _, true, rfl, .ty _, ty_l hx, kit_ty (by decide +kernel), rfl, _, rfl, iteNS rfl ?_⟩
      refine ⟨_, rfl, _, _, _, _, false, rfl, .ty _, ty_l hy, kit_ty (by decide +kernel), _, rfl, _, _, _, _, false, rfl, .ty _, ty_l hx, kit_ty (by decide +kernel), rfl, _, rfl, iteNS rfl ?_⟩
      refine ⟨_, rfl, _, _, rfl, .inl hx, _, rfl, _, _, rfl, .inl hy, rfl, _, rfl, iteNS (by rw [l1, l2]) ?_⟩
      refine ⟨_, rfl, _, _, rfl, .inl hy, _, rfl, (by omega), (by omega), ?_⟩
      rw [show ((vs'.length : Nat) : Int).toNat = ds.length by omega]
      refine for_range (n := ds.length) (fun i σ H' => ∃ kv : Option V, σ = [some (.ref a), some (.ref a'), kv] ∧ H' = H) ⟨none, rfl, rfl⟩ ?_ ?_
      · rintro i σ H' hi ⟨kv, rfl, rfl⟩
        obtain ⟨v, ev, dv⟩ := DpAll.get ax (List.getElem?_eq_getElem hi)
        obtain ⟨v', ev', dv'⟩ := DpAll.get ay (List.getElem?_eq_getElem hi)
        have ev1 : atI vs (0 + (i : Int)) = some v := by rw [Int.zero_add]; exact atI_nat ev
        have ev2 : atI vs' (0 + (i : Int)) = some v' := by rw [Int.zero_add]; exact atI_nat ev'
        refine ⟨_, rfl, _, rfl, .inl ⟨_, _, _, _, rfl, rfl, hx, ev1, _, rfl, _, rfl, .inl ⟨_, _, _, _, rfl, rfl, hy, ev2, ?_⟩⟩⟩
        exact ⟨v, v', ds[i], rfl, dv, dv', hf2 _ (List.getElem_mem hi), _, rfl, iteF ⟨_, rfl, rfl⟩⟩
      · rintro σ H' ⟨kv, rfl, rfl⟩
        exact q
    | tuple ds =>
      obtain ⟨hf1, hf2⟩ := hf
      cases dx with | tup hx ax =>
      cases dy with | tup hy ay =>
      rename_i a vs a' vs'
      have l1 := DpAll.len ax
      have l2 := DpAll.len ay
      refine ⟨_, rfl, _, _, _, _, _, rfl, .ty _, ty_t hy, kit_ty (by decide +kernel), _, rfl, iteF ⟨_, rfl, _, _, _, _, _, rfl, .ty _, ty_t hy, kit_ty (by decide +kernel), _, rfl, iteT ?_⟩⟩
      refine ⟨_, rfl, _, _, _, _, false, rfl, .ty _, ty_t hy, kit_ty (by decide +kernel), _, rfl, _, _, _, _, false, rfl, .ty _, ty_t hx, kit_ty (by decide +kernel), rfl, _, rfl, iteNS rfl ?_⟩
      refine ⟨_, rfl, _, _, _, _, true, rfl, .ty _, ty_t hy, kit_ty (by decide +kernel), _, rfl, _, _, _, _, true, rfl, .ty _, ty_t hx, kit_ty (by decide +kernel), rfl, _, rfl, iteNS rfl ?_⟩
      refine ⟨_, rfl, _, _, rfl, .inr hx, _, rfl, _, _, rfl, .inr hy, rfl, _, rfl, iteNS (by rw [l1, l2]) ?_⟩
      refine ⟨_, rfl, _, _, rfl, .inr hy, _, rfl, (by omega), (by omega), ?_⟩
      rw [show ((vs'.length : Nat) : Int).toNat = ds.length by omega]
      refine for_range (n := ds.length) (fun i σ H' => ∃ kv : Option V, σ = [some (.ref a), some (.ref a'), kv] ∧ H' = H) ⟨none, rfl, rfl⟩ ?_ ?_
      · rintro i σ H' hi ⟨kv, rfl, rfl⟩
        obtain ⟨v, ev, dv⟩ := DpAll.get ax (List.getElem?_eq_getElem hi)
        obtain ⟨v', ev', dv'⟩ := DpAll.get ay (List.getElem?_eq_getElem hi)
        have ev1 : atI vs (0 + (i : Int)) = some v := by rw [Int.zero_add]; exact atI_nat ev
        have ev2 : atI vs' (0 + (i : Int)) = some v' := by rw [Int.zero_add]; exact atI_nat ev'
        refine ⟨_, rfl, _, rfl, .inr (.inl ⟨_, _, _, _, rfl, rfl, hx, ev1, _, rfl, _, rfl, .inr (.inl ⟨_, _, _, _, rfl, rfl, hy, ev2, ?_⟩)⟩)⟩
        exact ⟨v, v', ds[i], rfl, dv, dv', hf2 _ (List.getElem_mem hi), _, rfl, iteF ⟨_, rfl, rfl⟩⟩
      · rintro σ H' ⟨kv, rfl, rfl⟩
        exact q
    | none =>
      cases dx with | non =>
      cases dy with | non =>
      refine ⟨_, rfl, _, _, _, _, _, rfl, .ty _, .base (.non), kit_ty (by decide +kernel), _, rfl, iteF ⟨_, rfl, _, _, _, _, _, rfl, .ty _, .base (.non), kit_ty (by decide +kernel), _, rfl, iteF ?_⟩⟩
      refine ⟨_, rfl, rfl, _, rfl, iteT ?_⟩
      exact ⟨_, rfl, rfl, q⟩
    | bool b =>
      cases dx with | bl =>
      cases dy with | bl =>
      refine ⟨_, rfl, _, _, _, _, _, rfl, .ty _, .base (.bl _), kit_ty (by decide +kernel), _, rfl, iteF ⟨_, rfl, _, _, _, _, _, rfl, .ty _, .base (.bl _), kit_ty (by decide +kernel), _, rfl, iteF ?_⟩⟩
      refine ⟨_, rfl, rfl, _, rfl, iteF ?_⟩
      refine ⟨_, rfl, _, _, _, _, _, rfl, .ty _, .base (.bl _), kit_ty (by decide +kernel), _, rfl, iteT ?_⟩
      refine ⟨_, rfl, _, _, _, _, _, rfl, .ty _, .base (.bl _), kit_ty (by decide +kernel), _, rfl, iteT ⟨_, rfl, _, rfl, rfl, ?_⟩⟩
      rw [decide_eq_true rfl]
      exact q
    | str z =>
      cases dx with | str =>
      cases dy with | str =>
      refine ⟨_, rfl, _, _, _, _, _, rfl, .ty _, .base (.str _), kit_ty (by decide +kernel), _, rfl, iteF ⟨_, rfl, _, _, _, _, _, rfl, .ty _, .base (.str _), kit_ty (by decide +kernel), _, rfl, iteF ?_⟩⟩
      refine ⟨_, rfl, rfl, _, rfl, iteF ?_⟩
      refine ⟨_, rfl, _, _, _, _, _, rfl, .ty _, .base (.str _), kit_ty (by decide +kernel), _, rfl, iteF ⟨_, rfl, _, _, _, _, _, rfl, .ty _, .base (.str _), kit_ty (by decide +kernel), _, rfl, iteT ?_⟩⟩
      refine ⟨_, rfl, _, _, _, _, _, rfl, .ty _, .base (.str _), kit_ty (by decide +kernel), _, rfl, iteT ⟨_, rfl, _, rfl, rfl, ?_⟩⟩
      rw [decide_eq_true rfl]
      exact q
    | int i =>
      cases dx with | int =>
      cases dy with | int =>
      refine ⟨_, rfl, _, _, _, _, _, rfl, .ty _, .base (.int _), kit_ty (by decide +kernel), _, rfl, iteF ⟨_, rfl, _, _, _, _, _, rfl, .ty _, .base (.int _), kit_ty (by decide +kernel), _, rfl, iteF ?_⟩⟩
      refine ⟨_, rfl, rfl, _, rfl, iteF ?_⟩
      refine ⟨_, rfl, _, _, _, _, _, rfl, .ty _, .base (.int _), kit_ty (by decide +kernel), _, rfl, iteF ⟨_, rfl, _, _, _, _, _, rfl, .ty _, .base (.int _), kit_ty (by decide +kernel), _, rfl, iteF ?_⟩⟩
      refine ⟨_, rfl, _, _, _, _, _, rfl, .ty _, .base (.int _), kit_ty (by decide +kernel), _, rfl, iteT ⟨_, rfl, _, _, _, _, false, rfl, .ty _, .base (.int _), kit_ty (by decide +kernel), _, rfl, _, rfl, iteT ⟨_, rfl, _, rfl, rfl, ?_⟩⟩⟩
      rw [decide_eq_true rfl]
      exact q
end

theorem take_succ_map {α β : Type} {f : α → β} {l : List α} {i : Nat} {x : α} (h : l[i]? = some x) : (l.take i).map f ++ [f x] = (l.take (i + 1)).map f := by
  rw [List.take_add_one, h, List.map_append]; rfl
theorem take_all {α : Type} {l : List α} {n : Nat} (h : l.length ≤ n) : l.take n = l := List.take_of_length_le h

/-! ### a list of immutable data that grows -/
def LAt (K : PySem.W.Frag) (H : Hp) (d : Addr) (ds : List PyData) : Prop := ∃ vs, H d = some (.lst vs) ∧ DpAll K H vs ds ∧ ∀ x ∈ ds, Imm x
theorem LAt.tk {K : PySem.W.Frag} {H H' : Hp} {d : Addr} {ds : List PyData} (h : LAt K H d ds) (k : TK H H') (e : ∀ o, H d = some o → H' d = some o) : LAt K H' d ds := by
  obtain ⟨vs, h1, h2, h3⟩ := h
  exact ⟨vs, e _ h1, DpAll.keep k h2 h3, h3⟩
theorem LAt.same {K : PySem.W.Frag} {H H' : Hp} {d : Addr} {ds : List PyData} (h : LAt K H d ds) (k : Same H H') : LAt K H' d ds := h.tk (TK.same k) fun o => k _ o
theorem LAt.kp {K : PySem.W.Frag} {H H' : Hp} {b p d : Addr} {ds : List PyData} (h : LAt K H d ds) (B : BoxAt H b p) (k : Kp b H H') (n : d ≠ b) : LAt K H' d ds := h.tk (TK.box B k) fun o e => k _ o e n
theorem LAt.push {K : PySem.W.Frag} {H : Hp} {d : Addr} {ds : List PyData} {vs : List V} {v : V} {x : PyData} (h1 : H d = some (.lst vs)) (h2 : DpAll K H vs ds) (h3 : ∀ x ∈ ds, Imm x) (hv : Dp K H v x) (hx : Imm x) : LAt K (upd H d (.lst (vs ++ [v]))) d (ds ++ [x]) := by
  have k : TK H (upd H d (.lst (vs ++ [v]))) := TK.updL (TK.refl H) h1
  have h4 : ∀ y ∈ ds ++ [x], Imm y := fun y hy => by
    rcases List.mem_append.mp hy with hy | hy
    · exact h3 y hy
    · rw [List.mem_singleton.mp hy]; exact hx
  exact ⟨_, upd_same, DpAll.keep k (DpAll.app h2 (.cons hv .nil)) h4, h4⟩
theorem LAt.nil {K : PySem.W.Frag} {H : Hp} {d : Addr} (h : H d = some (.lst [])) : LAt K H d [] := ⟨[], h, .nil, fun x hx => nomatch hx⟩

theorem catA_use {K : PySem.W.Frag} {H : Hp} {Q : VK} {a b : Addr} {xs ys : List V} (ha : SqT K H a xs) (hb : SqT K H b ys) (hz : xs.length + ys.length ≤ sizeLine) (h : ∀ p H', Same H H' → SqT K H' p (xs ++ ys) → Q (.ref p) H') : rCatA K (.ref a) (.ref b) H Q := by
  refine ⟨a, b, xs, ys, rfl, rfl, ha, hb, hz, fun e => h b H (Same.refl H) (by rw [e]; exact hb), fun _ e => h a H (Same.refl H) (by rw [e, List.append_nil]; exact ha), fun _ _ p hp => h p _ (same_new hp) (SqT.of upd_same)⟩

theorem slA_use {K : PySem.W.Frag} {H : Hp} {Q : VK} {a : Addr} {xs : List V} {lo hi : Option Int} (hx : SqT K H a xs) (h : ∀ p H', Same H H' → SqT K H' p (cutV xs lo hi) → Q (.ref p) H') : rSlA K (.ref a) lo hi H Q := by
  refine ⟨a, xs, rfl, hx, fun hw => ?_, fun _ p hp => h p _ (same_new hp) (SqT.of upd_same)⟩
  have e : cutV xs lo hi = xs := by
    unfold cutV
    rw [hw.1, hw.2, List.drop_zero, Nat.sub_zero, List.take_length]
  exact h a H (Same.refl H) (by rw [e]; exact hx)
theorem sIx_n (n d k : Nat) : HT.sIx n d (some (k : Int)) = min k n := HT.sIx_nat n d k
theorem cutV_from (xs : List V) (k : Nat) : cutV xs (some (k : Int)) none = xs.drop k := by
  unfold cutV
  rw [sIx_n, HT.sIx_none]
  by_cases h : k ≤ xs.length
  · rw [Nat.min_eq_left h]
    exact List.take_of_length_le (by rw [List.length_drop]; omega)
  · rw [List.drop_eq_nil_of_le (by omega), List.drop_eq_nil_of_le (by omega), List.take_nil]
theorem cutV_mid (xs : List V) (a b : Nat) : cutV xs (some (a : Int)) (some (b : Int)) = (xs.drop a).take (b - a) := by
  unfold cutV
  rw [sIx_n, sIx_n]
  by_cases h : a ≤ xs.length
  · rw [Nat.min_eq_left h]
    exact List.take_eq_take_iff.mpr (by rw [List.length_drop]; omega)
  · rw [List.drop_eq_nil_of_le (by omega), List.drop_eq_nil_of_le (by omega), List.take_nil, List.take_nil]
abbrev Pat := Str × Str
theorem cutV_take (vs : List V) (a : Nat) : cutV vs none (some (a : Int)) = vs.take a := by
  show (vs.drop 0).take ((if (a : Int) < 0 then ((a : Int) + (vs.length : Int)).toNat else min (a : Int).toNat vs.length) - 0) = _
  rw [if_neg (by omega), List.drop_zero, Int.toNat_natCast, Nat.sub_zero]
  by_cases h : a ≤ vs.length
  · rw [Nat.min_eq_left h]
  · rw [Nat.min_eq_right (by omega), List.take_of_length_le (Nat.le_refl _), List.take_of_length_le (by omega)]

/-! ### a statement, what holds behind it, then the rest -/
def tCut (t u : TS) : TS := fun D σ H => ∃ Mid : St → Hp → Prop, t { D with nx := Mid } σ H ∧ ∀ σ' H', Mid σ' H' → u D σ' H'
theorem pss_cut {X : Cx} {st : Stmt} {rest : List Stmt} {t u : TS} (h1 : PS X st t) (h2 : PSs X rest u) : PSs X (st :: rest) (tCut t u) := by
  refine ⟨fun pins s σ H D I h => ?_⟩
  obtain ⟨Mid, hm, hu⟩ := h
  refine PySem.wpAny_execs_cons (thn (h1.run pins s σ H { D with nx := Mid } I hm) fun f s1 q => ?_)
  cases f with
  | next =>
    obtain ⟨σ', H', I', q⟩ := q
    exact h2.run pins s1 σ' H' D I' (hu σ' H' q)
  | ret v => exact q
  | brk => exact q
  | cont => exact q

/-! ### timelines -/
def encI (ts : List Int) : PyData := .tuple (ts.map .int)
theorem imm_encI (ts : List Int) : Imm (encI ts) := .tup fun d hd => by
  obtain ⟨n, _, rfl⟩ := List.mem_map.mp hd; exact .int _
def Rise (ts : List Int) : Prop := ts.Pairwise (· < ·)
def inL (ts : List Int) (k : Int) : Bool := ts.foldl (fun b t => if t ≤ k then !b else b) false
theorem fold_none {k : Int} : ∀ (ts : List Int) (b : Bool), (∀ t ∈ ts, k < t) → ts.foldl (fun b t => if t ≤ k then !b else b) b = b
  | [], _, _ => rfl
  | t :: r, b, h => by
    have h1 := h t List.mem_cons_self
    rw [List.foldl_cons, if_neg (by omega)]
    exact fold_none r b fun x hx => h x (List.mem_cons_of_mem _ hx)
theorem inL_two {a b : Int} {r : List Int} (h : Rise (a :: b :: r)) (k : Int) : inL (a :: b :: r) k = (decide (a ≤ k ∧ k < b) || inL r k) := by
  have hab : a < b := (List.pairwise_cons.mp h).1 b List.mem_cons_self
  have hbr := (List.pairwise_cons.mp (List.pairwise_cons.mp h).2).1
  unfold inL
  rw [List.foldl_cons, List.foldl_cons]
  by_cases h1 : a ≤ k
  · by_cases h2 : b ≤ k
    · rw [if_pos h1, if_pos h2, decide_eq_false (by omega)]; rfl
    · have hr : ∀ t ∈ r, k < t := fun t ht => by have := hbr t ht; omega
      rw [if_pos h1, if_neg h2, decide_eq_true (by omega), fold_none r _ hr, fold_none r _ hr]; rfl
  · have h2 : ¬ b ≤ k := by omega
    rw [if_neg h1, if_neg h2, decide_eq_false (by omega)]; rfl
theorem inL_one (a k : Int) : inL [a] k = decide (a ≤ k) := by
  unfold inL
  rw [List.foldl_cons, List.foldl_nil]
  by_cases h1 : a ≤ k
  · rw [if_pos h1, decide_eq_true h1]; rfl
  · rw [if_neg h1, decide_eq_false h1]
theorem inL_far {M : Int} : ∀ (ts : List Int) (b : Bool), (∀ t ∈ ts, t ≤ M) → ∀ k, M ≤ k → ts.foldl (fun b t => if t ≤ k then !b else b) b = ts.foldl (fun b t => if t ≤ M then !b else b) b
  | [], _, _, _, _ => rfl
  | t :: r, b, h, k, hk => by
    have h1 := h t List.mem_cons_self
    rw [List.foldl_cons, List.foldl_cons, if_pos (by omega), if_pos h1]
    exact inL_far r _ (fun x hx => h x (List.mem_cons_of_mem _ hx)) k hk

open TL
theorem atI_mem {α : Type} {l : List α} {r : Int} (h0 : 0 ≤ r) (h1 : r < (l.length : Int)) : ∃ c, atI l r = some c ∧ c ∈ l := by
  obtain ⟨n, rfl⟩ := Int.eq_ofNat_of_zero_le h0
  have hn : n < l.length := by omega
  exact ⟨l[n], atI_nat (List.getElem?_eq_getElem hn), List.getElem_mem hn⟩
theorem tl_sgn (c : Nat) : tl (⟨#[c]⟩ : Str) = [c] := rfl

def ySpLaw (K : PySem.W.Frag) : Sp := fun vs H Q _ => ∃ (a : Addr) (ns : List Int), vs = [.ref a] ∧ SqL K H a (ns.map V.int) ∧ ns.length ≤ 63 ∧ ∀ H', Q (.bl true) H'
theorem box_new {H1 : Hp} {p bx : Addr} {ds : List Int} (hp : H1 p = some (.lst (ds.map V.int))) (hb : H1 bx = none) : BoxAt (upd H1 bx (.lst [.ref p, .int 0])) bx p :=
  ⟨ds, 0, upd_same, by rw [upd_ne (ne_of_none hp hb)]; exact hp⟩
theorem pick2 {a b : V} {r : Int} (h0 : 0 ≤ r) (h1 : r < 2) : atI [a, b] r = some (if r = 0 then a else b) := by
  by_cases e : r = 0
  · subst e; rfl
  · have e1 : r = 1 := by omega
    subst e1; rfl
theorem pick2i {x y r : Int} (h0 : 0 ≤ r) (h1 : r < 2) : atI [V.int x, V.int y] r = some (V.int (if r = 0 then x else y)) := by
  rw [pick2 h0 h1]; split <;> rfl
theorem pick2s {x y : Str} {r : Int} (h0 : 0 ≤ r) (h1 : r < 2) : atI [V.str x, V.str y] r = some (V.str (if r = 0 then x else y)) := by
  rw [pick2 h0 h1]; split <;> rfl
theorem atI_map {α β : Type} {f : α → β} {l : List α} {r : Int} {x : α} (h0 : 0 ≤ r) (h : atI l r = some x) : atI (l.map f) r = some (f x) := by
  obtain ⟨n, rfl⟩ := Int.eq_ofNat_of_zero_le h0
  by_cases hn : n < l.length
  · have e : atI l (n : Int) = some l[n] := atI_nat (List.getElem?_eq_getElem hn)
    have e2 : l[n] = x := Option.some.inj (e.symm.trans h)
    exact atI_nat (by rw [List.getElem?_map, List.getElem?_eq_getElem hn, e2]; rfl)
  · unfold atI ixN at h
    rw [if_pos h0, if_neg (by omega)] at h
    cases h

theorem dp_encI {K : PySem.W.Frag} {H : Hp} {v : V} {ts : List Int} (h : Dp K H v (encI ts)) : ∃ q, v = .ref q ∧ SqT K H q (ts.map V.int) := by
  cases h with
  | tup h1 h2 =>
    have : ∀ {vs : List V} {ts : List Int}, DpAll K H vs (ts.map PyData.int) → vs = ts.map V.int := fun {vs ts} => by
      induction ts generalizing vs with
      | nil => intro h; cases h; rfl
      | cons t r ih =>
        intro h
        cases h with
        | cons a b => cases a; rw [ih b]; rfl
    rw [this h2] at h1
    exact ⟨_, rfl, h1⟩
def yTl (K : PySem.W.Frag) : Sp := fun vs H Q _ => ∃ (b p : Addr) (m : Nat), vs = [.ref b, .int (m : Int)] ∧ BoxAt H b p ∧ m ≤ 12 ∧
  ∀ (q : Addr) (ts : List Int) (H' : Hp), Rise ts → (∀ t ∈ ts, 0 ≤ t) → (∀ t ∈ ts, t ≤ 2 + 7 * (m : Int)) → ts.length ≤ m → SqT K H' q (ts.map V.int) → BoxAt H' b p → Kp b H H' → Q (.ref q) H'
def yIn (K : PySem.W.Frag) : Sp := fun vs H Q _ => ∃ (v : V) (ts : List Int) (k : Int), vs = [v, .int k] ∧ Dp K H v (encI ts) ∧ Q (.bl (inL ts k)) H
section
variable {P : Program} {w : World} {K : PySem.W.Frag} {mg : Str → Option Value} {base : Heap} {A : Nat → Addr} {D : Nat → FuncData}
theorem ok_ltimeline (T : Txt K mg A D) : FnOk P w K mg base CX0 2 (A 9) (D 9) ["box", "most"] (yTl K) := by
  refine T.F__law_timeline.ok sc__law_timeline (fun vs H Q E h => ?_) (fun cdv A' outer s H vs Q E hr h => ?_)
  · obtain ⟨b, p, m, rfl, _⟩ := h; rfl
  obtain ⟨b, p, m, rfl, B, hm, q⟩ := h
  have hnd := sc__law_timeline.nd
  have G__law_draw := ok_draw (P := P) (w := w) (base := base) T
  refine ⟨_, (pss_cons (ps_set (i := 2) hnd rfl (Or.inl rfl) (pe_lst pa_nil)) (pss_cons (ps_set (i := 3) hnd rfl (Or.inl rfl) (pe_op op_sub (pe_call G__law_draw (hr.mono (by first | decide | omega)) rfl T.m__law_draw T.F__law_draw.kp T.b__law_draw .nil pass0 (pa_cons (pv 0) (pa_cons pe_int pa_nil))) pe_int)) (pss_cons (ps_for PassesOwn.never rfl (pi_range1 rfl T.z_range (pa_cons (pe_call G__law_draw (hr.mono (by first | decide | omega)) rfl T.m__law_draw T.F__law_draw.kp T.b__law_draw .nil pass0 (pa_cons (pv 0) (pa_cons (pe_op op_add (pv 1) pe_int) pa_nil))) pa_nil)) (pg_name (i := 4) hnd rfl (Or.inl rfl)) (pss_cons (ps_set (i := 3) hnd rfl (Or.inl rfl) (pe_op op_add (pe_op op_add (pv 3) pe_int) (pe_op op_mul (pe_call G__law_draw (hr.mono (by first | decide | omega)) rfl T.m__law_draw T.F__law_draw.kp T.b__law_draw .nil pass0 (pa_cons (pv 0) (pa_cons pe_int pa_nil))) (pe_call G__law_draw (hr.mono (by first | decide | omega)) rfl T.m__law_draw T.F__law_draw.kp T.b__law_draw .nil pass0 (pa_cons (pv 0) (pa_cons pe_int pa_nil)))))) (pss_one (ps_if (pt_cmpR op_ge (pv 3) pe_int (nomark _)) (pss_one (ps_expr (pe_bm PySem.F.plainAttrs_list PySem.F.slot_list_append PySem.F.type_list_append mt_append (pv 2) (pa_cons (pv 3) pa_nil)))) pss_nil)))) (pss_one (ps_ret (pe_callTy call_tuple_of rfl T.z_tuple (by decide +kernel) (pa_cons (pv 2) pa_nil))))))), ?_⟩
  refine ⟨(by decide), fun d hd => ?_⟩
  have ndb := B.ne hd
  refine ⟨_, rfl, b, p, _, rfl, B.keep (same_new hd), (by decide), fun r1 H1 h10 h11 B1 k1 => ⟨_, _, rfl, rfl, ?_⟩⟩
  refine ⟨_, rfl, _, rfl, _, _, rfl, rfl, b, p, _, rfl, B1, (by omega), fun r2 H2 h20 h21 B2 k2 => ?_⟩
  refine ⟨_, rfl, (by omega), (by omega), ?_⟩
  refine for_range (n := r2.toNat) (fun i σ H' => ∃ (ts : List Int) (t : Int) (kv : Option V), σ = [some (.ref b), some (.int (m : Int)), some (.ref d), some (.int t), kv] ∧ BoxAt H' b p ∧ Kp b H H' ∧ H' d = some (.lst (ts.map V.int)) ∧ Rise ts ∧ (∀ x ∈ ts, 0 ≤ x) ∧ (∀ x ∈ ts, x ≤ t) ∧ -1 ≤ t ∧ t ≤ 2 + 7 * (i : Int) ∧ ts.length ≤ i)
    ⟨[], _, none, rfl, B2, ((Kp.of (same_new hd)).trans k1).trans k2, k2 _ _ (k1 _ _ upd_same ndb.1) ndb.1, List.Pairwise.nil, (fun x hx => nomatch hx), (fun x hx => nomatch hx), by omega, by omega, Nat.le_refl _⟩ ?_ ?_
  · rintro i σ H5 hi ⟨ts, t, kv, rfl, B5, k5, h5, hr5, h05, ht5, t0, t1, hl⟩
    refine ⟨_, rfl, _, _, rfl, rfl, _, rfl, b, p, _, rfl, B5, (by decide), fun r6 H6 h60 h61 B6 k6 => ?_⟩
    refine ⟨_, rfl, b, p, _, rfl, B6, (by decide), fun r7 H7 h70 h71 B7 k7 => ⟨_, _, rfl, rfl, ?_, ?_⟩⟩
    · exact .inl ⟨by omega, by omega⟩
    have hm67 : 0 ≤ r6 * r7 ∧ r6 * r7 ≤ 6 := by
      have e6 : r6 = 0 ∨ r6 = 1 ∨ r6 = 2 ∨ r6 = 3 := by omega
      rcases e6 with e | e | e | e <;> subst e <;> omega
    have h7 : H7 d = some (.lst (ts.map V.int)) := k7 _ _ (k6 _ _ h5 ndb.1) ndb.1
    have kk := (k5.trans k6).trans k7
    refine ⟨_, _, rfl, rfl, ?_⟩
    refine ⟨_, rfl, _, _, rfl, rfl, _, rfl, ?_⟩
    refine ite2 (fun c => ?_) (fun c => ?_)
    · have c' : (0 : Int) ≤ t + 1 + r6 * r7 := of_decide_eq_true c
      refine ⟨_, rfl, .inl ⟨rfl, _, SqL.of h7⟩, _, rfl, d, _, _, rfl, rfl, h7, (by rw [List.length_map]; exact len_lt (by omega)), ?_⟩
      have kd : Kp b H (upd H7 d (.lst (ts.map V.int ++ [V.int (t + 1 + r6 * r7)]))) := fun c o hc n => by
        rw [upd_ne (ne_of_none hc hd)]; exact kk c o hc n
      refine ⟨ts ++ [t + 1 + r6 * r7], _, _, rfl, B7.updO ndb.1 ndb.2, kd, by rw [upd_same, app_map], ?_, fun x hx => ?_, fun x hx => ?_, by omega, by omega, by rw [List.length_append, List.length_singleton]; omega⟩
      · refine List.pairwise_append.mpr ⟨hr5, List.pairwise_singleton _ _, fun x hx y hy => ?_⟩
        have := ht5 x hx
        rw [List.mem_singleton.mp hy]; omega
      · rcases List.mem_append.mp hx with hx | hx
        · exact h05 x hx
        · rw [List.mem_singleton.mp hx]; exact c'
      · rcases List.mem_append.mp hx with hx | hx
        · have := ht5 x hx; omega
        · rw [List.mem_singleton.mp hx]; omega
    · exact ⟨ts, _, _, rfl, B7, kk, h7, hr5, h05, fun x hx => (by have := ht5 x hx; omega), by omega, by omega, by omega⟩
  · rintro σ H5 ⟨ts, t, kv, rfl, B5, k5, h5, hr5, h05, ht5, t0, t1, hl⟩
    refine ⟨_, rfl, d, _, rfl, .inl ⟨SqL.of h5, fun p2 hp2 => ?_⟩⟩
    have s2 := same_new (o := .tup (ts.map V.int)) hp2
    exact q p2 ts _ hr5 h05 (fun x hx => by have := ht5 x hx; omega) (by omega) (SqT.of upd_same) (B5.keep s2) (k5.trans (Kp.of s2))
theorem ok_lisin (T : Txt K mg A D) : FnOk P w K mg base CX0 1 (A 10) (D 10) ["timeline", "time"] (yIn K) := by
  refine T.F__law_is_in.ok sc__law_is_in (fun vs H Q E h => ?_) (fun cdv A' outer s H vs Q E hr h => ?_)
  · obtain ⟨v, ts, k, rfl, _⟩ := h; rfl
  obtain ⟨v, ts, k, rfl, hd, q⟩ := h
  have hnd := sc__law_is_in.nd
  obtain ⟨a, rfl, ha⟩ := dp_encI hd
  refine ⟨_, (pss_cons (ps_set (i := 2) hnd rfl (Or.inl rfl) pe_bl) (pss_cons (ps_for PassesOwn.never rfl (pi_tup (pv 0)) (pg_name (i := 3) hnd rfl (Or.inl rfl)) (pss_one (ps_if (pt_cmpR op_le (pv 3) (pv 1) (nomark _)) (pss_one (ps_set (i := 2) hnd rfl (Or.inl rfl) (pe_not (pv 2)))) pss_nil))) (pss_one (ps_ret (pv 2))))), ?_⟩
  refine ⟨_, rfl, a, rfl, ⟨_, ha⟩, ?_⟩
  refine for_tup (xs := ts.map V.int) (fun i σ H' => ∃ (kv : Option V), σ = [some (.ref a), some (.int k), some (.bl (inL (ts.take i) k)), kv] ∧ H' = H) ⟨none, rfl, rfl⟩ (fun i σ H' _ h => by obtain ⟨_, _, h2⟩ := h; rw [h2]; exact ha) ?_ ?_
  · rintro i x σ H1 hi ⟨kv, rfl, rfl⟩
    rw [List.getElem?_map] at hi
    obtain ⟨t, ht, rfl⟩ := Option.map_eq_some_iff.mp hi
    have stp : inL (ts.take (i + 1)) k = if t ≤ k then !(inL (ts.take i) k) else inL (ts.take i) k := by
      unfold inL
      rw [List.take_add_one, ht, List.foldl_append]; rfl
    refine ⟨_, rfl, _, rfl, _, _, rfl, rfl, _, rfl, ?_⟩
    refine ite2 (fun c => ?_) (fun c => ?_)
    · have c' : t ≤ k := of_decide_eq_true c
      rw [if_pos c'] at stp
      exact ⟨_, rfl, _, rfl, _, by rw [stp]; rfl, rfl⟩
    · have c' : ¬ t ≤ k := fun h => c (decide_eq_true h)
      rw [if_neg c'] at stp
      exact ⟨_, by rw [stp]; rfl, rfl⟩
  · rintro σ H1 ⟨kv, rfl, rfl⟩
    rw [List.length_map, List.take_length]
    exact ⟨_, rfl, q⟩
end

/-! ### tables of sets of ints, laid anew at the masks 7, 15, 31, 63 -/
def Msk (m : Nat) : Prop := m = 7 ∨ m = 15 ∨ m = 31 ∨ m = 63
def mskTab (m : Nat) : Bool := ((List.range (m + 1)).all fun j => (List.range (m + 1)).any fun b => lcgN m b == j) && lcgN m (m + 1) == 0
theorem msk_tab {m : Nat} (h : Msk m) : mskTab m = true := by
  rcases h with rfl | rfl | rfl | rfl <;> decide +kernel
theorem msk_from0 {m : Nat} (h : Msk m) {j : Nat} (hj : j ≤ m) : ∃ b, b ≤ m ∧ lcgN m b = j := by
  have t := msk_tab h
  unfold mskTab at t
  have t1 := List.all_eq_true.mp (Bool.and_eq_true_iff.mp t).1 j (List.mem_range.mpr (by omega))
  obtain ⟨b, hb, e⟩ := List.any_eq_true.mp t1
  exact ⟨b, by have := List.mem_range.mp hb; omega, beq_iff_eq.mp e⟩
theorem msk_round {m : Nat} (h : Msk m) : ∀ k, lcgN m (m + 1 + k) = lcgN m k
  | 0 => by
    have t := msk_tab h
    unfold mskTab at t
    exact beq_iff_eq.mp (Bool.and_eq_true_iff.mp t).2
  | k + 1 => by
    show (lcgN m (m + 1 + k) * 5 + 1) % (m + 1) = (lcgN m k * 5 + 1) % (m + 1)
    rw [msk_round h k]
theorem msk_all {m : Nat} (h : Msk m) {i j : Nat} (hi : i ≤ m) (hj : j ≤ m) : ∃ k, k ≤ m ∧ lcgI m i k = j := by
  obtain ⟨a, ha, rfl⟩ := msk_from0 h hi
  obtain ⟨b, hb, rfl⟩ := msk_from0 h hj
  by_cases c : a ≤ b
  · exact ⟨b - a, by omega, by rw [lcgN_add, show a + (b - a) = b by omega]⟩
  · exact ⟨b + (m + 1) - a, by omega, by rw [lcgN_add, show a + (b + (m + 1) - a) = m + 1 + b by omega, msk_round h]⟩
theorem msk_meets {m : Nat} (hm : Msk m) (h : Int) {j : Nat} (hj : j ≤ m) : ∃ n, n ≤ m + 12 ∧ runI m (SetTable.bits h) n = j := by
  obtain ⟨k, hk, e⟩ := msk_all hm (runI_le m (SetTable.bits h) 12) hj
  exact ⟨12 + k, by omega, by rw [runI_tail (bits_lt h)]; exact e⟩
theorem way_m {m : Nat} (h : Int) (k : Nat) : way m h k ≤ m := by
  have hi : SetTable.bits h % (m + 1) ≤ m := Nat.le_of_lt_succ (Nat.mod_lt _ (Nat.succ_pos _))
  have r := runEnd_bd hi
  have q := nth_in (m := m) k (runAt m (SetTable.bits h % (m + 1)) (SetTable.bits h)) (by show SetTable.bits h % (m + 1) + (SetTable.runEnd m (SetTable.bits h % (m + 1)) - SetTable.bits h % (m + 1)) ≤ m; omega)
  exact Nat.le_trans (Nat.le_add_right _ _) q
theorem free_msk {m : Nat} (hm : Msk m) (owner : Array (Option Nat)) (h : Int) {j : Nat} (hj : j ≤ m) (hf : oAt owner j = none) :
    ∃ j', j' ≤ m ∧ SetTable.layClean.free m owner (SetTable.turns m) (SetTable.bits h % (m + 1)) (SetTable.bits h) = some j' ∧ oAt owner j' = none := by
  obtain ⟨n, hn, e⟩ := msk_meets hm h hj
  have at_n : way m h (off m (SetTable.bits h % (m + 1)) (SetTable.bits h) n) = j := by
    show (nth m (runAt m (SetTable.bits h % (m + 1)) (SetTable.bits h)) (off m (SetTable.bits h % (m + 1)) (SetTable.bits h) n)).j = j
    rw [nth_off, itL_run]
    exact e
  obtain ⟨K, k1, k2, k3⟩ := st_least (p := fun k => oAt owner (way m h k) = none) (off m (SetTable.bits h % (m + 1)) (SetTable.bits h) n) (by
    show oAt owner (way m h _) = none
    rw [at_n]; exact hf)
  refine ⟨way m h K, way_m h K, free_spec m owner (SetTable.turns m) n _ _ K (by unfold SetTable.turns; omega) k1 (fun k hk => ?_) ?_, k2⟩
  · have q := k3 k hk
    show (oAt owner (way m h k)).isNone = false
    cases z : oAt owner (way m h k) with
    | none => exact absurd z q
    | some _ => rfl
  · show (oAt owner (way m h K)).isNone = true
    rw [k2]; rfl
/-- n of the slots are taken, by the numbers below n -/
structure Occ (m n : Nat) (owner : Array (Option Nat)) : Prop where
  sz : owner.size = m + 1
  all : ∀ k, k < n → ∃ j, j ≤ m ∧ oAt owner j = some k
  ps : ∃ ps : List Nat, ps.length = n ∧ ∀ j, j ≤ m → oAt owner j ≠ none → j ∈ ps
theorem Occ.init (m : Nat) : Occ m 0 (Array.replicate (m + 1) none) := ⟨by simp, fun k hk => absurd hk (Nat.not_lt_zero _), [], rfl, fun j hj e => absurd (oAt_init hj) e⟩
theorem Occ.step {m n : Nat} {owner : Array (Option Nat)} (hm : Msk m) (W : Occ m n owner) (hl : n ≤ m) (h : Int) : ∃ owner', stepF m (some (owner, n)) h = some (owner', n + 1) ∧ Occ m (n + 1) owner' := by
  obtain ⟨ps, hps, hin⟩ := W.ps
  obtain ⟨j0, h0, hn0⟩ := st_missing ps (m + 1) (by omega)
  have hj0 : oAt owner j0 = none := Classical.byContradiction fun z => hn0 (hin j0 (by omega) z)
  obtain ⟨j, hjm, e1, e2⟩ := free_msk hm owner h (show j0 ≤ m by omega) hj0
  have hjs : j < owner.size := by rw [W.sz]; omega
  refine ⟨_, stepF_some e1, by rw [Array.size_setIfInBounds]; exact W.sz, fun k hk => ?_, j :: ps, by rw [List.length_cons, hps], fun i hi e => ?_⟩
  · by_cases c : k = n
    · exact ⟨j, hjm, by rw [c]; exact oAt_set_self _ hjs⟩
    · obtain ⟨i, hi, e⟩ := W.all k (by omega)
      refine ⟨i, hi, ?_⟩
      rw [oAt_set_ne _ (fun z => by rw [z, e2] at e; cases e)]
      exact e
  · by_cases c : i = j
    · rw [c]; exact List.mem_cons_self
    · rw [oAt_set_ne _ c] at e
      exact List.mem_cons_of_mem _ (hin i hi e)
theorem occ_fold {m : Nat} (hm : Msk m) : ∀ (rest : List Int) (n : Nat) (owner : Array (Option Nat)), Occ m n owner → n + rest.length ≤ m → ∃ owner', rest.foldl (stepF m) (some (owner, n)) = some (owner', n + rest.length) ∧ Occ m (n + rest.length) owner'
  | [], n, owner, W, _ => ⟨owner, rfl, W⟩
  | h :: rest, n, owner, W, hl => by
    rw [List.length_cons] at hl
    obtain ⟨o1, e1, W1⟩ := W.step hm (by omega) h
    obtain ⟨o2, e2, W2⟩ := occ_fold hm rest (n + 1) o1 W1 (by omega)
    rw [show n + 1 + rest.length = n + (h :: rest).length by rw [List.length_cons]; omega] at e2 W2
    exact ⟨o2, by rw [List.foldl_cons, e1]; exact e2, W2⟩
theorem layClean_msk {m : Nat} (hm : Msk m) {hs : Array Int} (hn : hs.size ≤ m) : ∃ owner, SetTable.layClean m hs = some owner ∧ Occ m hs.size owner := by
  obtain ⟨owner, e, W⟩ := occ_fold hm hs.toList 0 _ (Occ.init m) (by rw [Array.length_toList]; omega)
  rw [Nat.zero_add, Array.length_toList] at e W
  exact ⟨owner, by rw [layClean_eq, e]; rfl, W⟩
theorem laid_msk {m : Nat} (hm : Msk m) {hs : Array Int} (hn : hs.size ≤ m) (finger moves : Nat) (led plain : Bool) :
    ∃ place order, SetTable.laid m finger moves led plain hs = some ({ mask := m, place := place, dummies := #[], finger := finger, led := led, moves := moves, plain := plain }, order) ∧
      order.toList.Perm (List.range hs.size) ∧ Ris place.toList ∧ place.size = hs.size := by
  obtain ⟨owner, e, W⟩ := layClean_msk hm hn
  have ris := ris_live (fun j => owner.getD j none) (List.range (m + 1)) (by
    unfold Ris
    first | exact List.pairwise_lt_range | exact List.pairwise_lt_range _)
  have r1 : Ris ((liveOf m owner).map (·.1)) := ris.1
  have r2 : ∀ x ∈ (liveOf m owner).map (·.1), x ∈ List.range (m + 1) := ris.2
  have nd : ((liveOf m owner).map (·.1)).Nodup := List.Pairwise.imp (fun h => Nat.ne_of_lt h) r1
  have hlen : (liveOf m owner).length = hs.size := by
    obtain ⟨ps, p1, p2⟩ := W.ps
    have a := nat_nodup_len ((liveOf m owner).map (·.1)) ps nd fun x hx => by
      obtain ⟨⟨y, k⟩, hq, rfl⟩ := List.mem_map.mp hx
      obtain ⟨b1, b2⟩ := (mem_live W.sz).1 hq
      exact p2 _ b1 (by rw [b2]; exact fun z => nomatch z)
    have b := nat_nodup_len (List.range hs.size) ((liveOf m owner).map (·.2)) List.nodup_range fun k hk => by
      obtain ⟨j, b1, b2⟩ := W.all k (List.mem_range.mp hk)
      exact List.mem_map.mpr ⟨(j, k), (mem_live W.sz).2 ⟨b1, b2⟩, rfl⟩
    rw [List.length_map] at a b
    rw [List.length_range] at b
    omega
  refine ⟨((liveOf m owner).map (·.1)).toArray, ((liveOf m owner).map (·.2)).toArray, ?_, ?_, r1, by rw [List.size_toArray, List.length_map, hlen]⟩
  · show (SetTable.layClean m hs).bind _ = _
    rw [e]; rfl
  · refine perm_range hs.size _ (by show ((liveOf m owner).map (·.2)).length = _; rw [List.length_map, hlen]) fun k hk => ?_
    obtain ⟨j, b1, b2⟩ := W.all k hk
    exact List.mem_map.mpr ⟨(j, k), (mem_live W.sz).2 ⟨b1, b2⟩, rfl⟩

/-! ### a set of ints whose table is known to be laid clean -/
section
open PySem.Spec PyProof.Rows
def SetM (w : World) (h : Heap) (a : Addr) (S : Int → Bool) (n M : Nat) : Prop :=
  ∃ o es ep t, h.get? a = some o ∧ o.ExactSet ∧ o.data = .set es ep t ∧ (∀ e ∈ es.toList, GoodE e) ∧ (es.toList.map keyOf).Nodup ∧ (∀ k, S k = true ↔ k ∈ es.toList.map keyOf) ∧
    es.size < scanBound ∧ t.fits es.size = true ∧ es.size = n ∧ Ris t.place.toList ∧ (w.params.followText "set-order" = true ∨ t.led = true) ∧ t.mask = M ∧ t.dummies = #[]
theorem SetM.r {w : World} {h : Heap} {a : Addr} {S : Int → Bool} {n M : Nat} (R : SetM w h a S n M) : SetR w h a S n := by
  obtain ⟨o, es, ep, t, h1, h2, h3, h4, h5, h6, h7, h8, h9, h10, h11, _⟩ := R
  exact ⟨o, es, ep, t, h1, h2, h3, h4, h5, h6, h7, h8, h9, h10, h11⟩
theorem filter_all {α : Type} (l : List α) : (List.range l.length).filterMap (fun i => l[i]?) = l := by
  have key : ∀ n, n ≤ l.length → (List.range n).filterMap (fun i => l[i]?) = l.take n := by
    intro n
    induction n with
    | zero => intro _; rfl
    | succ n ih =>
      intro hn
      rw [List.range_succ, List.filterMap_append, ih (by omega), List.take_add_one, List.getElem?_eq_getElem (show n < l.length by omega), List.filterMap_cons_some (List.getElem?_eq_getElem (show n < l.length by omega))]
      rfl
  rw [key _ (Nat.le_refl _), List.take_length]
theorem order_perm {α : Type} {es : Array α} {order : Array Nat} (hp : order.toList.Perm (List.range es.size)) : (order.filterMap (es[·]?)).toList.Perm es.toList := by
  have h1 := hp.filterMap fun i => es.toList[i]?
  rw [show List.range es.size = List.range es.toList.length by rw [Array.length_toList], filter_all] at h1
  have e : (order.filterMap (es[·]?)).toList = order.toList.filterMap fun i => es.toList[i]? := by
    rw [Array.toList_filterMap]
    congr 1
    funext i
    exact Array.getElem?_toList.symm
  rw [e]; exact h1
variable {P : Program} {w : World} {A : Around} {E : Value → Shared → Prop} {s : Shared} {a b : Addr} {S : Int → Bool} {n M : Nat}
theorem sizes16 : ∀ x : Nat, x < 17 → ((SetTable.sizeAbove (x * 2) - 1 = 7 ∨ SetTable.sizeAbove (x * 2) - 1 = 15 ∨ SetTable.sizeAbove (x * 2) - 1 = 31 ∨ SetTable.sizeAbove (x * 2) - 1 = 63) ∧ SetTable.sizeAbove (x * 2) ≤ 64 ∧ x ≤ SetTable.sizeAbove (x * 2) - 1) := by decide +kernel
/-- laid anew -/
theorem relay_m (R : SetM w s.heap a S n M) {wanted M' : Nat} (hw : SetTable.sizeAbove wanted - 1 = M') (hM : Msk M') (hz : SetTable.sizeAbove wanted ≤ 64) (hn : n ≤ M') {Q : Unit → Shared → Prop}
    (hQ : ∀ h', Heap.SameBut a s.heap h' → SetM w h' a S n M' → Q () { s with heap := h' }) : wpAny (model P w) A (setRelay a wanted) Q E s := by
  obtain ⟨o, es, ep, t, ho, hex, hd, g, nd, hm, hb, hf, hsz, hr, hl, _, _⟩ := R
  obtain ⟨place, order, e, hp, ris, psz⟩ := laid_msk hM (hs := es.map (·.1)) (by rw [Array.size_map]; omega) t.finger (t.movedTo M') t.led t.plain
  rw [Array.size_map] at hp psz
  have e' := (show t.relaid (es.map (·.1)) wanted = SetTable.laid M' t.finger (t.movedTo M') t.led t.plain (es.map (·.1)) by rw [← hw]; rfl).trans e
  have pm := order_perm hp
  have hs2 : (order.filterMap (es[·]?)).size = es.size := by rw [← Array.length_toList, pm.length_eq, Array.length_toList]
  rw [setRelay_eq]
  refine wpAny_bind (wpAny_setState_of ho hd hf ?_)
  dsimp only
  refine wp_if_neg (by rw [sizeLine_eq]; omega) ?_
  try refine wpAny_bind (wpAny_pure ?_)
  rw [e']
  dsimp only
  refine wpAny_bind ?_
  refine wp_if_neg (by rw [hs2]; simp) ?_
  try refine wpAny_bind (wpAny_pure ?_)
  refine wpAny_pure ?_
  dsimp only
  refine wpAny_storeSet_of ho hd ?_ (by rw [hs2]; exact fits_of_scanBound hb)
  refine hQ _ (Heap.SameBut.update ..) ⟨_, _, _, _, store_at ho hd, ⟨hex.1, hex.2.1, hex.2.2⟩, rfl, fun x hx => g x (pm.mem_iff.mp hx), (pm.map keyOf).nodup_iff.mpr nd, fun k => (hm k).trans (pm.map keyOf).mem_iff.symm, by rw [hs2]; exact hb, ?_, hs2.trans hsz, ris, hl, rfl, rfl⟩
  unfold SetTable.fits SetTable.fill
  rw [Bool.and_eq_true, beq_iff_eq, decide_eq_true_eq]
  show place.size = _ ∧ place.size + 0 ≤ M'
  omega
/-- room for more -/
theorem room_m (R : SetM w s.heap a S n M) (hM : Msk M) {more : Nat} (hmore : n + more ≤ 16) {Q : Unit → Shared → Prop}
    (hQ : ∀ h' M', Heap.SameBut a s.heap h' → SetM w h' a S n M' → Msk M' → n + more ≤ M' → Q () { s with heap := h' }) : wpAny (model P w) A (setRoomFor a more) Q E s := by
  have R0 := R
  obtain ⟨o, es, ep, t, ho, hex, hd, g, nd, hm, hb, hf, hsz, hr, hl, em, ed⟩ := R
  have hps : t.place.size = n := by
    have := hf
    unfold SetTable.fits at this
    rw [Bool.and_eq_true, beq_iff_eq] at this
    exact this.1.trans hsz
  have hfill : t.fill = n := by unfold SetTable.fill; rw [ed, hps]; rfl
  unfold setRoomFor
  refine wpAny_bind (wpAny_setState_of ho hd hf ?_)
  dsimp only
  unfold SetTable.roomFor
  rw [hfill, em, hps]
  by_cases c : (n + more) * 5 ≥ M * 3
  · rw [if_pos c]
    obtain ⟨z1, z2, z3⟩ := sizes16 (n + more) (by omega)
    exact relay_m R0 rfl z1 z2 (by omega) fun h' sb R' => hQ h' _ sb R' z1 z3
  · rw [if_neg c]
    exact wpAny_pure (hQ s.heap M (Heap.SameBut.refl a s.heap) R0 hM (by omega))
end

/-! ### one set merged into another -/
section
open PySem.Spec PyProof.Rows
variable {P : Program} {w : World} {A : Around} {E : Value → Shared → Prop} {s : Shared} {a b : Addr} {S S2 : Int → Bool} {n m M : Nat}
theorem good_int {e : Int × Value} (g : GoodE e) : ∃ k tk, e.2 = Value.int k tk ∧ e.1 = hashInt k := g
/-- the members, in some order -/
theorem walk_at {o : Obj} {es : Array (Int × Value)} {ep : Nat} {t : SetTable} (ho : s.heap.get? b = some o) (hd : o.data = .set es ep t) (hf : t.fits es.size = true) (hl : w.params.followText "set-order" = true ∨ t.led = true) {Q : Array (Int × Value) → Shared → Prop}
    (hQ : ∀ (arr : Array (Int × Value)) d, arr.toList.Perm es.toList → Q arr { s with drawn := d }) : wpAny (model P w) A (setWalk b) Q E s := by
  unfold setWalk
  refine wpAny_bind (wpAny_setState_of ho hd hf ?_)
  dsimp only
  refine wpAny_bind (wpAny_byText ?_)
  by_cases hbt : w.params.followText "set-order" = true
  · refine wp_if_pos hbt ?_
    exact wpAny_bind (wpAny_askSetting (wpAny_pure (hQ _ s.drawn (pick_perm _ _))))
  · refine wp_if_neg hbt ?_
    split
    · refine wpAny_bind (drawOrder_at _ _ _ _ (by rw [Array.length_toList]; exact Nat.le_refl _) fun ys d pm => wpAny_pure (hQ _ d ?_))
      exact pm
    · have hled : t.led = true := hl.resolve_left hbt
      refine wpAny_bind (wp_if_neg (c := (!t.led && decide (es.size > 1)) = true) (by rw [hled]; exact Bool.false_ne_true) (wpAny_pure (wpAny_pure (hQ _ s.drawn (List.Perm.refl _)))))
/-- no element of the sets can see -/
theorem quiet_at {l : List Addr} (hl : ∀ c ∈ l, ∃ S n, SetR w s.heap c S n) {Q : Bool → Shared → Prop} (h : Q true s) : wpAny (model P w) A (setsQuiet l) Q E s := by
  unfold setsQuiet
  refine wpAny_bind (wpAny_forIn_list _ (fun rest bb s' => bb = (none, ()) ∧ s' = s ∧ ∀ c ∈ rest, ∃ S n, SetR w s.heap c S n) _ ?_ ?_ l _ ⟨rfl, rfl, hl⟩)
  · rintro x rest bb s' ⟨rfl, rfl, hx⟩
    obtain ⟨S, n, o, es, ep, t, ho, hex, hd, g, nd, hm, hb, hf, _⟩ := hx x List.mem_cons_self
    refine wpAny_bind ?_
    unfold setEntries
    refine wpAny_bind (wpAny_setState_of ho hd hf (wpAny_pure ?_))
    dsimp only
    refine wpAny_bind (wpAny_forIn_array' _ (fun r2 bb s2 => bb = (none, ()) ∧ s2 = s' ∧ ∀ e ∈ r2, GoodE e) _ ?_ ?_ es _ ⟨rfl, rfl, g⟩)
    · rintro ⟨h0, v⟩ r2 bb s2 ⟨rfl, rfl, hg⟩
      obtain ⟨k, tk, e1, _⟩ := hg _ List.mem_cons_self
      have e1 : v = Value.int k tk := e1
      subst e1
      exact wpAny_pure ⟨rfl, rfl, fun e he => hg e (List.mem_cons_of_mem _ he)⟩
    · rintro bb s2 ⟨rfl, rfl, _⟩
      exact wpAny_pure ⟨rfl, rfl, fun c hc => hx c (List.mem_cons_of_mem _ hc)⟩
  · rintro bb s' ⟨rfl, rfl, _⟩
    exact wpAny_pure h
/-- the members of b, to be put into a -/
theorem unseen_at (R : SetR w s.heap a S n) (R2 : SetR w s.heap b S2 m) (hab : a ≠ b) {o : Obj} {es : Array (Int × Value)} {ep : Nat} {t : SetTable} (ho : s.heap.get? b = some o) (hd : o.data = .set es ep t) (hf : t.fits es.size = true) (hl : w.params.followText "set-order" = true ∨ t.led = true) {Q : Array (Int × Value) → Shared → Prop}
    (hQ : ∀ (arr : Array (Int × Value)) d h', arr.toList.Perm es.toList → Heap.SameBut a s.heap h' → SetR w h' a S n → Q arr { s with heap := h', drawn := d }) : wpAny (model P w) A (setWalkUnseen b [a] (some a)) Q E s := by
  have walk : wpAny (model P w) A (setWalk b) Q E s := walk_at ho hd hf hl fun arr d pm => hQ arr d s.heap pm (Heap.SameBut.refl a s.heap) R
  unfold setWalkUnseen
  refine wpAny_bind (wpAny_setState_of ho hd hf ?_)
  dsimp only
  refine wpAny_bind (wpAny_byText ?_)
  split
  · exact walk
  · refine wpAny_bind (quiet_at (fun c hc => ?_) ?_)
    · rcases List.mem_cons.mp hc with rfl | hc
      · exact ⟨_, _, R2⟩
      · rw [List.mem_singleton.mp hc]; exact ⟨_, _, R⟩
    · refine wp_if_neg (by simp) ?_
      refine wpAny_bind (wpAny_rule ?_)
      obtain ⟨o1, es1, ep1, t1, ho1, hex1, hd1, g1, nd1, hm1, hb1, hf1, hn1, hr1, hl1⟩ := id R
      refine wpAny_bind (wpAny_setState_of ho1 hd1 hf1 ?_)
      dsimp only
      split
      · refine wpAny_bind (wpAny_storeSet_of ho1 hd1 (wpAny_pure ?_) (fits_of_scanBound hb1))
        refine hQ es s.drawn _ (List.Perm.refl _) (Heap.SameBut.update ..) ⟨_, es1, _, _, store_at ho1 hd1, ⟨hex1.1, hex1.2.1, hex1.2.2⟩, rfl, g1, nd1, hm1, hb1, ?_, hn1, hr1, ?_⟩
        · exact hf1
        · rcases hl1 with z | z
          · exact .inl z
          · rcases hl with y | y
            · exact .inl y
            · exact .inr (by show (t1.led && t.led) = true; rw [z, y]; rfl)
      · exact wpAny_pure (hQ es s.drawn s.heap (List.Perm.refl _) (Heap.SameBut.refl a s.heap) R)
theorem merge_m (R : SetM w s.heap a S n M) (hM : Msk M) (R2 : SetR w s.heap b S2 m) (hab : a ≠ b) (hnm : n + m ≤ 16) {each : Sem Unit}
    (heach : ∀ (s' : Shared) (Q' : Unit → Shared → Prop), s'.heap.get? b = s.heap.get? b → Q' () s' → wpAny (model P w) A each Q' E s') {Q : Unit → Shared → Prop}
    (hQ : ∀ h' d n', Heap.SameBut a s.heap h' → SetR w h' a (fun k => S k || S2 k) n' → n' ≤ n + m → (n = 0 → ∃ M', Msk M' ∧ SetM w h' a (fun k => S k || S2 k) n' M') → Q () { s with heap := h', drawn := d }) : wpAny (model P w) A (setMerge a b each) Q E s := by
  obtain ⟨ob, eb, epb, tb, hob, hexb, hdb, gb, ndb, hmb, hbb, hfb, hnb, hrb, hlb⟩ := id R2
  unfold setMerge
  refine wp_if_neg (by simpa using hab) ?_
  refine wpAny_bind (wpAny_setState_of hob hdb hfb ?_)
  dsimp only
  by_cases hem : eb.isEmpty = true
  · refine wp_if_pos hem (wpAny_pure ?_)
    have e0 : eb = #[] := Array.isEmpty_iff.mp hem
    have hS2 : ∀ k, S2 k = false := fun k => by
      cases z : S2 k with
      | false => rfl
      | true => have := (hmb k).mp z; rw [e0] at this; cases this
    have ec : ∀ k, (S k || S2 k) = S k := fun k => by rw [hS2 k, Bool.or_false]
    have ef : (fun k => S k || S2 k) = S := funext ec
    exact hQ s.heap s.drawn n (Heap.SameBut.refl a s.heap) (by rw [ef]; exact R.r) (by omega) fun _ => ⟨M, hM, by rw [ef]; exact R⟩
  refine wp_if_neg hem ?_
  refine wpAny_bind (room_m R hM (more := eb.size) (by omega) fun h1 M1 sb1 R1 hM1 hle => ?_)
  have hob1 : h1.get? b = some ob := (sb1.2 b (Ne.symm hab)).trans hob
  have R21 : SetR w h1 b S2 m := ⟨ob, eb, epb, tb, hob1, hexb, hdb, gb, ndb, hmb, hbb, hfb, hnb, hrb, hlb⟩
  obtain ⟨o1, e1, ep1, t1, ho1, hex1, hd1, g1, nd1, hm1, hb1, hf1, hn1, hr1, hl1, rfl, hdm1⟩ := id R1
  refine wpAny_bind (wpAny_setState_of ho1 hd1 hf1 ?_)
  dsimp only
  have hfill : t1.fill = n := by
    have := hf1
    unfold SetTable.fits at this
    rw [Bool.and_eq_true, beq_iff_eq] at this
    unfold SetTable.fill
    rw [hdm1, this.1, hn1]; rfl
  unfold SetTable.road
  rw [hfill]
  have hled : w.params.followText "set-order" = true ∨ (t1.led && tb.led) = true := by
    rcases hl1 with z | z
    · exact .inl z
    · exact hlb.imp id fun y => by rw [z, y]; rfl
  by_cases hn0 : n = 0
  · have hS0 : ∀ k, S k = false := fun k => by
      have e0 : e1 = #[] := Array.size_eq_zero_iff.mp (hn1.trans hn0)
      cases z : S k with
      | false => rfl
      | true => have := (hm1 k).mp z; rw [e0] at this; cases this
    have ef : (fun k => S k || S2 k) = S2 := funext fun k => by rw [hS0 k, Bool.false_or]
    rw [ef] at hQ
    rw [if_neg (by simp [hn0])]
    by_cases hs : (t1.mask == tb.mask && tb.dummies.isEmpty) = true
    · rw [if_pos hs]
      obtain ⟨q1, q2⟩ := Bool.and_eq_true_iff.mp hs
      refine wpAny_storeSet_of ho1 hd1 ?_ (fits_of_scanBound hbb)
      have R3 : SetM w (h1.update a (Obj.putSet eb { mask := tb.mask, place := tb.place, dummies := tb.dummies, finger := t1.finger, led := t1.led && tb.led, moves := t1.moves, plain := t1.plain && tb.plain })) a S2 m t1.mask :=
        ⟨_, eb, _, _, store_at ho1 hd1, ⟨hex1.1, hex1.2.1, hex1.2.2⟩, rfl, gb, ndb, hmb, hbb, hfb, hnb, hrb, hled, (beq_iff_eq.mp q1).symm, Array.isEmpty_iff.mp q2⟩
      exact hQ _ s.drawn m (sb1.trans (Heap.SameBut.update ..)) R3.r (by omega) fun _ => ⟨_, hM1, R3⟩
    · rw [if_neg hs]
      obtain ⟨place, order, e, hp, ris, psz⟩ := laid_msk hM1 (hs := eb.map (·.1)) (by rw [Array.size_map]; omega) t1.finger t1.moves (t1.led && tb.led) (t1.plain && tb.plain)
      rw [Array.size_map] at hp psz
      have pm := order_perm hp
      have hs2 : (order.filterMap (eb[·]?)).size = eb.size := by rw [← Array.length_toList, pm.length_eq, Array.length_toList]
      dsimp only
      rw [e]
      refine wpAny_bind (wp_if_neg (c := ((order.filterMap (eb[·]?)).size != eb.size) = true) (by rw [hs2]; simp) ?_)
      try refine wpAny_bind (wpAny_pure ?_)
      refine wpAny_pure ?_
      dsimp only
      refine wpAny_storeSet_of ho1 hd1 ?_ (by rw [hs2]; exact fits_of_scanBound hbb)
      have R3 : SetM w (h1.update a (Obj.putSet (order.filterMap (eb[·]?)) { mask := t1.mask, place := place, dummies := #[], finger := t1.finger, led := t1.led && tb.led, moves := t1.moves, plain := t1.plain && tb.plain })) a S2 m t1.mask := by
        refine ⟨_, _, _, _, store_at ho1 hd1, ⟨hex1.1, hex1.2.1, hex1.2.2⟩, rfl, fun x hx => gb x (pm.mem_iff.mp hx), (pm.map keyOf).nodup_iff.mpr ndb, fun k => (hmb k).trans (pm.map keyOf).mem_iff.symm, by rw [hs2]; exact hbb, ?_, hs2.trans hnb, ris, hled, rfl, rfl⟩
        unfold SetTable.fits SetTable.fill
        rw [Bool.and_eq_true, beq_iff_eq, decide_eq_true_eq]
        show place.size = _ ∧ place.size + 0 ≤ t1.mask
        omega
      exact hQ _ s.drawn m (sb1.trans (Heap.SameBut.update ..)) R3.r (by omega) fun _ => ⟨_, hM1, R3⟩
  · rw [if_pos (by simp [hn0])]
    dsimp only
    refine wpAny_bind (unseen_at (s := { s with heap := h1 }) R1.r R21 hab hob1 hdb hfb hlb fun arr d h2 pm sb2 R2' => ?_)
    refine wpAny_bind (wpAny_forIn_array' _ (fun rest _ s' => ∃ h' S' n' done, s' = { s with heap := h', drawn := d } ∧ Heap.SameBut a s.heap h' ∧ SetR w h' a S' n' ∧ n' + rest.length ≤ n + m ∧ (∀ k, S' k = true ↔ (S k = true ∨ k ∈ done.map keyOf)) ∧ arr.toList = done ++ rest) _ ?_ ?_ arr _
      ⟨h2, S, n, [], rfl, sb1.trans sb2, R2', by rw [pm.length_eq, Array.length_toList, hnb]; exact Nat.le_refl _, fun k => ⟨.inl, fun z => z.elim id (fun y => nomatch y)⟩, rfl⟩)
    · rintro ⟨h0, v⟩ rest bb s' ⟨h', S', n', done, rfl, sb', R', hle', hS', ed⟩
      have hg : GoodE (h0, v) := gb _ (pm.mem_iff.mp (by rw [ed]; exact List.mem_append_right _ List.mem_cons_self))
      obtain ⟨k, tk, e1, e2⟩ := hg
      have e1 : v = Value.int k tk := e1
      have e2 : h0 = hashInt k := e2
      subst e1 e2
      rw [List.length_cons] at hle'
      refine wpAny_bind (wpAny_holding (setR_add_hashed (P := P) (s := { s with heap := h', drawn := d }) R' (show n' + 1 < 4096 by omega) fun h3 sb3 R3 => ?_))
      have hob3 : h3.get? b = some ob := (sb3.2 b (Ne.symm hab)).trans ((sb'.2 b (Ne.symm hab)).trans hob)
      refine wpAny_bind (heach _ _ (hob3.trans hob.symm) ?_)
      refine wpAny_bind (wpAny_setState_of hob3 hdb hfb ?_)
      dsimp only
      refine wp_if_neg (by simp) (wpAny_pure ?_)
      refine ⟨h3, _, _, done ++ [(hashInt k, Value.int k tk)], rfl, sb'.trans sb3, R3, by split <;> omega, fun j => ?_, by rw [ed, List.append_assoc]; rfl⟩
      rw [Bool.or_eq_true, decide_eq_true_eq, hS' j, List.map_append, List.mem_append, or_assoc]
      have : j = k ↔ j ∈ [((hashInt k, Value.int k tk) : Int × Value)].map keyOf := by
        rw [List.map_singleton, List.mem_singleton]; exact Iff.rfl
      rw [this]
    · rintro bb s' ⟨h', S', n', done, rfl, sb', R', hle', hS', ed⟩
      rw [List.append_nil] at ed
      refine wpAny_pure (hQ h' d n' sb' (R'.congr fun k => ?_) hle' fun z => absurd z hn0)
      have e := (pm.map keyOf).mem_iff (a := k)
      rw [Bool.eq_iff_iff, Bool.or_eq_true, hS' k, hmb k, ← e, ed]
end

/-! ### set | set -/
section
open PySem.Spec PyProof.Rows
theorem entry_set_or : entryFor table "set.__or__" = some Builtin.«frozenset.__or__» :=
  entryFor_alias (id' := "frozenset.__or__") (by kernel_rfl) rfl (by decide +kernel) (by kernel_rfl)
theorem slot1_or (a b : Addr) : Builtin.Frozenset.slot1 "__or__" ⟨[.ref a, .ref b], []⟩ = pure (.ref a, .ref b) := by
  unfold Builtin.Frozenset.slot1
  simp only [slotArgs]
  rfl
variable {P : Program} {w : World} {A : Around} {E : Value → Shared → Prop} {s : Shared} {a b : Addr} {S S2 : Int → Bool} {n m M : Nat}
theorem any_at {v : Value} (hT : s.TypeIs v "set") {Q : Bool → Shared → Prop} (h : Q true s) : wpAny (model P w) A (Builtin.Frozenset.isAnySet v) Q E s := by
  unfold Builtin.Frozenset.isAnySet
  exact wpAny_bind (wpAny_isInstance hT sub_set_self (wpAny_pure h))
theorem base_at {c : Addr} (hT : s.TypeIs (.ref c) "set") {Q : Value → Shared → Prop} (h : Q (.type "set") s) : wpAny (model P w) A (Builtin.Frozenset.baseOf c) Q E s := by
  unfold Builtin.Frozenset.baseOf
  exact wpAny_bind (wpAny_isInstance hT sub_set_self (wpAny_pure h))
theorem newSet_at {Q : Value → Shared → Prop} (h : Q (.ref s.heap.objs.size) { s with heap := s.heap.push { cls := .type "set", dict := none, data := .set #[] 0 (.fresh 0 0 (!w.params.followText "set-order")) } }) : wpAny (model P w) A (newSet (.type "set")) Q E s := by
  unfold newSet
  refine wpAny_bind (wpAny_byText ?_)
  simp only [newObj]
  exact wpAny_bind (wpAny_alloc (wpAny_pure h))
theorem freshM {h : Heap} : SetM w (h.push { cls := .type "set", dict := none, data := .set #[] 0 (.fresh 0 0 (!w.params.followText "set-order")) }) h.objs.size (fun _ => false) 0 7 := by
  refine ⟨_, #[], 0, _, Heap.get?_push_size _ rfl, ⟨rfl, rfl, rfl⟩, rfl, (fun e he => (nomatch he)), List.nodup_nil, (fun k => ⟨(fun z => (nomatch z)), (fun z => (nomatch z))⟩), (by decide), rfl, rfl, List.Pairwise.nil, ?_, rfl, rfl⟩
  cases z : w.params.followText "set-order" with
  | true => exact .inl rfl
  | false => exact .inr rfl
/-- the copy of a set -/
theorem copy_at (R : SetR w s.heap a S n) (hn : n ≤ 16) {Q : Value → Shared → Prop}
    (hQ : ∀ h' d n' M', (∀ c o, s.heap.get? c = some o → h'.get? c = some o) → s.heap.objs.size < h'.objs.size → SetM w h' s.heap.objs.size S n' M' → Msk M' → n' ≤ n → Q (.ref s.heap.objs.size) { s with heap := h', drawn := d }) :
    wpAny (model P w) A (Builtin.Frozenset.copyOf a) Q E s := by
  have hS : s.heap.SetOf (intKind P w) a S n := R.setOf
  unfold Builtin.Frozenset.copyOf
  refine wpAny_bind (base_at hS.typeIs ?_)
  refine wpAny_bind (newSet_at ?_)
  unfold Builtin.Frozenset.addrOf
  refine wpAny_bind (wpAny_pure ?_)
  have hlt := R.lt
  have hne : s.heap.objs.size ≠ a := Nat.ne_of_gt hlt
  have R1 : SetR w (s.heap.push { cls := .type "set", dict := none, data := .set #[] 0 (.fresh 0 0 (!w.params.followText "set-order")) }) a S n := R.at fun o e => Heap.get?_push_of_some _ e
  refine wpAny_bind (merge_m (s := { s with heap := s.heap.push { cls := .type "set", dict := none, data := .set #[] 0 (.fresh 0 0 (!w.params.followText "set-order")) } }) freshM (.inl rfl) R1 hne (by omega) (fun s' Q' _ q => wpAny_pure q) fun h' d n' sb R2 hle hM => wpAny_pure ?_)
  obtain ⟨M', hM', R3⟩ := hM rfl
  have ef : (fun k => false || S k) = S := funext fun k => Bool.false_or _
  rw [ef] at R3
  refine hQ h' d n' M' (fun c o e => ?_) ?_ R3 hM' (by omega)
  · have hc : c ≠ s.heap.objs.size := Nat.ne_of_lt (Heap.lt_size e)
    exact (sb.2 c hc).trans (Heap.get?_push_of_some _ e)
  · rw [sb.1]
    show s.heap.objs.size < (s.heap.push _).objs.size
    rw [size_push']; exact Nat.lt_succ_self _
theorem or_at (R : SetR w s.heap a S n) (R2 : SetR w s.heap b S2 m) (hab : a ≠ b) (hnm : n + m ≤ 16) {Q : Value → Shared → Prop}
    (hQ : ∀ s' n', (∀ c o, s.heap.get? c = some o → s'.heap.get? c = some o) → s.heap.objs.size < s'.heap.objs.size → s'.gens = s.gens → s'.os = s.os → SetR w s'.heap s.heap.objs.size (fun k => S k || S2 k) n' → n' ≤ n + m → Q (.ref s.heap.objs.size) s') :
    wpAny (model P w) A (binaryOp .BitOr (.ref a) (.ref b)) Q E s := by
  have hS : s.heap.SetOf (intKind P w) a S n := R.setOf
  have hS2 : s.heap.SetOf (intKind P w) b S2 m := R2.setOf
  refine wpAny_binaryOp_same (T := "set") hS.typeIs hS2.typeIs F.fills_set_or F.slot_set_or ?_
  refine wpAny_call_entry F.slot_set_or hS.typeIs entry_set_or ?_ (F.args_set_or_2 _ _)
  unfold Builtin.«frozenset.__or__»
  refine wpAny_bind (wpAny_of_eq (slot1_or a b) ?_)
  dsimp only
  refine wpAny_bind (wpAny_bind (any_at hS.typeIs ?_))
  show wpAny _ _ (Builtin.Frozenset.isAnySet (.ref b)) _ _ _
  refine any_at hS2.typeIs ?_
  refine wp_if_neg (by simp) ?_
  unfold Builtin.Frozenset.addrOf
  refine wpAny_bind (wpAny_pure ?_)
  refine wpAny_bind (wpAny_bind (copy_at R (by omega) fun h1 d n1 M1 k1 z1 R1 hM1 hn1 => ?_))
  dsimp only
  have hba : (Value.ref b != Value.ref a) = true := by simp [bne, Ne.symm hab]
  refine wp_if_pos (c := (Value.ref b != Value.ref a) = true) hba ?_
  refine wpAny_bind (wpAny_pure ?_)
  refine wpAny_bind (wpAny_holding ?_)
  unfold Builtin.Frozenset.updateFrom
  have R21 : SetR w h1 b S2 m := R2.at fun o e => k1 b o e
  have hS21 : h1.SetOf (intKind P w) b S2 m := R21.setOf
  refine wpAny_bind (any_at (v := .ref b) (s := { s with heap := h1, drawn := d }) hS21.typeIs ?_)
  dsimp only
  unfold Builtin.Frozenset.addrOf Builtin.Frozenset.merge
  refine wp_if_pos rfl ?_
  refine wpAny_bind (wpAny_pure ?_)
  obtain ⟨ob, eb, epb, tb, hob, hexb, hdb, gb, ndb, hmb, hbb, hfb, hnb, hrb, hlb⟩ := id R21
  refine wpAny_bind ?_
  unfold setEpoch
  refine wpAny_bind (wpAny_setState_of hob hdb hfb (wpAny_pure ?_))
  dsimp only
  have hne : s.heap.objs.size ≠ b := Nat.ne_of_gt R2.lt
  refine merge_m (s := { s with heap := h1, drawn := d }) R1 hM1 R21 hne (by omega) (fun s' Q' e q => ?_) fun h2 d2 n2 sb R3 hle _ => ?_
  · unfold Builtin.Frozenset.unchanged setEpoch
    refine wpAny_bind (wpAny_bind (wpAny_setState_of (e.trans hob) hdb hfb (wpAny_pure ?_)))
    exact wp_if_neg (by simp) (wpAny_pure q)
  · refine wpAny_pure ?_
    show wpAny _ _ (ret (.ref s.heap.objs.size)) _ _ _
    refine wpAny_pure ⟨_, rfl, (fun z => (nomatch z)), ?_⟩
    refine hQ { s with heap := h2, drawn := d2 } n2 (fun c o e => ?_) ?_ rfl rfl R3 (by omega)
    · have hc : c ≠ s.heap.objs.size := Nat.ne_of_lt (Heap.lt_size e)
      exact (sb.2 c hc).trans (k1 c o e)
    · show s.heap.objs.size < h2.objs.size
      rw [sb.1]; exact z1
end

/-! ### sets of ints as tracked objects -/
section
open PySem.Spec PyProof.Rows
def SI (w : World) (a : Addr) (S : Int → Bool) (n : Nat) : HO := .ext fun h => SetR w h a S n
theorem si_new {P : Program} {w : World} {H : Hp} {h : Heap} {a : Addr} {S : Int → Bool} {n : Nat} (R : SetR w h a S n) : ObjOk P w H h a (SI w a S n) := by
  refine ⟨R, ?_, fun h1 h2 p k => SetR.at p k⟩
  obtain ⟨o, es, ep, t, ho, r⟩ := R
  exact ⟨o, ho⟩
variable {X : Cx}
/-- set(t), t a tuple of ints -/
def rSetTI (K : PySem.W.Frag) (w : World) : List V → Hp → VK → Prop := fun xs H Q => ∃ (l : Addr) (ns : List Int), xs = [V.ref l] ∧ SqT K H l (ns.map V.int) ∧ ns.length ≤ 1000 ∧
  ∀ a n, H a = none → n ≤ ns.length → Q (.ref a) (upd H a (SI w a (fun k => decide (k ∈ ns)) n))
theorem cr_setTI (hc : X.calm = true) : CallR X (.type "set") (rSetTI X.K X.w) := by
  intro pins s σ H xs us Q I r h
  obtain ⟨l, ns, rfl, hl, hf, q⟩ := h
  rw [Vals.ref1 r]
  obtain ⟨its, rv, pl, hz⟩ := I.tuple hl
  have hn : H s.heap.objs.size = none := I.hok.fresh (Nat.le_refl _)
  refine call_set_tupI (P := X.prog) (w := X.w) ns (I.ok.hd hc) pl (by simpa using intsAre_of rv) (show ns.length + 1 < 4096 by omega) fun h' tk c R hcl k => ?_
  exact ⟨.ref s.heap.objs.size, upd H s.heap.objs.size (SI X.w s.heap.objs.size (fun j => decide (j ∈ ns)) c), I.laid (t' := tk) k (Nat.le_refl _) (si_new R), rfl, q _ c hn hcl⟩
/-- set | set -/
def rOrS (w : World) : R2 := fun x y H Q => ∃ (a b : Addr) (S S2 : Int → Bool) (n m : Nat), x = .ref a ∧ y = .ref b ∧ H a = some (SI w a S n) ∧ H b = some (SI w b S2 m) ∧ a ≠ b ∧ n + m ≤ 16 ∧
  ∀ p k, H p = none → k ≤ n + m → Q (.ref p) (upd H p (SI w p (fun j => S j || S2 j) k))
theorem op_orS : OpR X (binaryOp .BitOr) (rOrS X.w) := by
  intro pins s σ H x y v u Q I rx ry h
  obtain ⟨a, b, S, S2, n, m, rfl, rfl, ha, hb, hab, hnm, q⟩ := h
  cases rx
  cases ry
  have R : SetR X.w s.heap a S n := (I.hok a _ ha).1
  have R2 : SetR X.w s.heap b S2 m := (I.hok b _ hb).1
  have hn : H s.heap.objs.size = none := I.hok.fresh (Nat.le_refl _)
  refine or_at (P := X.prog) R R2 hab hnm fun s' n' k z g o R3 hle => ?_
  have J : Inv X pins σ (upd H s.heap.objs.size (SI X.w s.heap.objs.size (fun j => S j || S2 j) n')) { s with heap := s'.heap, gens := s'.gens, drawn := s'.drawn, toks := s'.toks } :=
    I.call (ch := []) (Un.laid k (Nat.le_refl _) hn) (I.hok.laid k (Nat.le_refl _) (si_new R3)) (by rw [g]; exact I.bare) (fun _ z => nomatch z)
  have e : s' = { s with heap := s'.heap, gens := s'.gens, drawn := s'.drawn, toks := s'.toks } := by
    cases s'
    cases s
    cases o
    rfl
  rw [e]
  exact ⟨.ref _, _, J, rfl, q _ n' hn hle⟩
/-- sorted(set) -/
def rSortS (w : World) : List V → Hp → VK → Prop := fun xs H Q => ∃ (a : Addr) (S : Int → Bool) (n : Nat), xs = [V.ref a] ∧ H a = some (SI w a S n) ∧ n < 64 ∧
  ∀ (ns : List Int) (p : Addr), H p = none → ns.Pairwise (· < ·) → (∀ k, k ∈ ns ↔ S k = true) → ns.length = n → Q (.ref p) (upd H p (.lst (ns.map V.int)))
theorem cr_sortS (hc : X.calm = true) : CallR X (.builtin "sorted") (rSortS X.w) := by
  intro pins s σ H xs us Q I r h
  obtain ⟨a, S, n, rfl, ha, h64, q⟩ := h
  rw [Vals.ref1 r]
  have R : SetR X.w s.heap a S n := (I.hok a _ ha).1
  refine sorted_set (P := X.prog) R (I.ok.hd hc) h64 fun s' p out c ns k g o hp hg hi pw hm hl => ?_
  have hn : H p = none := I.hok.fresh hp
  have hlen : (ns.map V.int).length ≤ sizeLine := by rw [List.length_map, sizeLine_eq]; omega
  have hv : Vals (ns.map V.int) out.toList := vals_of_ints hi
  have J : Inv X pins σ (upd H p (.lst (ns.map V.int))) { s with heap := s'.heap, gens := s'.gens, drawn := s'.drawn, toks := s'.toks } :=
    I.call (ch := []) (Un.laid k hp hn) (I.hok.laid k hp ⟨hlen, out.toList, c, hv, hg⟩) (by rw [g]; exact I.bare) (fun _ z => nomatch z)
  have e : s' = { s with heap := s'.heap, gens := s'.gens, drawn := s'.drawn, toks := s'.toks } := by
    cases s'
    cases s
    cases o
    rfl
  rw [e]
  exact ⟨.ref p, _, J, rfl, q ns p hn pw hm hl⟩
end

/-! ### timelines: parity, join, rest -/
theorem inL_snoc (ts : List Int) (u t : Int) : inL (ts ++ [u]) t = if u ≤ t then !inL ts t else inL ts t := by
  unfold inL
  rw [List.foldl_append]; rfl
theorem fold_not (t : Int) : ∀ (ts : List Int) (b : Bool), ts.foldl (fun b x => if x ≤ t then !b else b) (!b) = !(ts.foldl (fun b x => if x ≤ t then !b else b) b)
  | [], _ => rfl
  | x :: r, b => by
    rw [List.foldl_cons, List.foldl_cons]
    by_cases h : x ≤ t
    · rw [if_pos h, if_pos h]; exact fold_not t r (!b)
    · rw [if_neg h, if_neg h]; exact fold_not t r b
theorem inL_cons (x : Int) (ts : List Int) (t : Int) : inL (x :: ts) t = if x ≤ t then !inL ts t else inL ts t := by
  unfold inL
  rw [List.foldl_cons]
  by_cases h : x ≤ t
  · rw [if_pos h, if_pos h]; exact fold_not t ts false
  · rw [if_neg h, if_neg h]
theorem inL_all : ∀ {ts : List Int} {t : Int}, (∀ x ∈ ts, x ≤ t) → inL ts t = decide (ts.length % 2 = 1)
  | [], _, _ => rfl
  | x :: r, t, h => by
    rw [inL_cons, if_pos (h x List.mem_cons_self), inL_all fun y hy => h y (List.mem_cons_of_mem _ hy), List.length_cons]
    rcases (show r.length % 2 = 0 ∨ r.length % 2 = 1 by omega) with e | e
    · rw [decide_eq_false (by omega), decide_eq_true (by omega)]; rfl
    · rw [decide_eq_true e, decide_eq_false (by omega)]; rfl
theorem inL_congr {t u : Int} : ∀ {ts : List Int}, (∀ x ∈ ts, x ≤ t ↔ x ≤ u) → inL ts t = inL ts u
  | [], _ => rfl
  | x :: r, h => by
    rw [inL_cons, inL_cons, inL_congr (ts := r) fun y hy => h y (List.mem_cons_of_mem _ hy)]
    have e := h x List.mem_cons_self
    by_cases c : x ≤ t
    · rw [if_pos c, if_pos (e.mp c)]
    · rw [if_neg c, if_neg fun z => c (e.mpr z)]
/-- the number of points that are at most t -/
def cntP (ts : List Int) (t : Int) : Nat := (ts.filter fun x => decide (x ≤ t)).length
theorem inL_cnt : ∀ (ts : List Int) (t : Int), inL ts t = decide (cntP ts t % 2 = 1)
  | [], _ => rfl
  | x :: r, t => by
    rw [inL_cons, inL_cnt r t]
    unfold cntP
    by_cases c : x ≤ t
    · rw [if_pos c, List.filter_cons_of_pos (by simpa using c), List.length_cons]
      rcases (show (r.filter fun x => decide (x ≤ t)).length % 2 = 0 ∨ (r.filter fun x => decide (x ≤ t)).length % 2 = 1 by omega) with e | e
      · rw [decide_eq_false (by omega), decide_eq_true (by omega)]; rfl
      · rw [decide_eq_true e, decide_eq_false (by omega)]; rfl
    · rw [if_neg c, List.filter_cons_of_neg (by simpa using c)]
theorem cntP_cut {ts : List Int} {t : Int} (hr : Rise ts) {n : Nat} (h1 : ∀ i (h : i < ts.length), i < n → ts[i] ≤ t) (h2 : ∀ i (h : i < ts.length), n ≤ i → t < ts[i]) (hn : n ≤ ts.length) : cntP ts t = n := by
  unfold cntP
  have e : ts.filter (fun x => decide (x ≤ t)) = ts.take n := by
    conv => lhs; rw [← List.take_append_drop n ts]
    rw [List.filter_append]
    have a : (ts.take n).filter (fun x => decide (x ≤ t)) = ts.take n := List.filter_eq_self.mpr fun x hx => by
      obtain ⟨i, hi, rfl⟩ := List.getElem_of_mem hx
      rw [List.length_take] at hi
      rw [List.getElem_take]
      exact decide_eq_true (h1 i (by omega) (by omega))
    have b : (ts.drop n).filter (fun x => decide (x ≤ t)) = [] := List.filter_eq_nil_iff.mpr fun x hx => by
      obtain ⟨i, hi, rfl⟩ := List.getElem_of_mem hx
      rw [List.length_drop] at hi
      rw [List.getElem_drop, decide_eq_true_eq]
      have := h2 (n + i) (by omega) (by omega)
      omega
    rw [a, b, List.append_nil]
  rw [e, List.length_take]; omega
/-! join -/
def stepJ (f : Int → Bool) (ps : List Int) (u : Int) : List Int := if f u = decide (ps.length % 2 = 1) then ps else ps ++ [u]
def joinJ (f : Int → Bool) (us : List Int) : List Int := us.foldl (stepJ f) []
def valJ (f : Int → Bool) (us : List Int) (t : Int) : Bool := us.foldl (fun b u => if u ≤ t then f u else b) false
theorem joinJ_snoc (f : Int → Bool) (us : List Int) (u : Int) : joinJ f (us ++ [u]) = stepJ f (joinJ f us) u := by
  unfold joinJ
  rw [List.foldl_append]; rfl
theorem valJ_snoc (f : Int → Bool) (us : List Int) (u t : Int) : valJ f (us ++ [u]) t = if u ≤ t then f u else valJ f us t := by
  unfold valJ
  rw [List.foldl_append]; rfl
theorem rise_snoc {us : List Int} {u : Int} : Rise (us ++ [u]) ↔ Rise us ∧ ∀ x ∈ us, x < u := by
  unfold Rise
  rw [List.pairwise_append]
  exact ⟨fun h => ⟨h.1, fun x hx => h.2.2 x hx u (List.mem_singleton.mpr rfl)⟩, fun h => ⟨h.1, List.pairwise_singleton _ _, fun x hx y hy => by rw [List.mem_singleton.mp hy]; exact h.2 x hx⟩⟩
theorem snoc_ind {α : Type} {M : List α → Prop} (h0 : M []) (h1 : ∀ l x, M l → M (l ++ [x])) (l : List α) : M l := by
  have : ∀ l : List α, M l.reverse := fun l => by
    induction l with
    | nil => exact h0
    | cons a r ih => rw [List.reverse_cons]; exact h1 _ _ ih
  have h := this l.reverse
  rwa [List.reverse_reverse] at h
theorem joinJ_spec (f : Int → Bool) (us : List Int) : Rise us → Rise (joinJ f us) ∧ (∀ x ∈ joinJ f us, x ∈ us) ∧ ∀ t, inL (joinJ f us) t = valJ f us t := by
  induction us using snoc_ind with
  | h0 => exact fun _ => ⟨List.Pairwise.nil, fun x h => h, fun t => rfl⟩
  | h1 us u ih =>
    intro hr
    obtain ⟨hr1, hlt⟩ := rise_snoc.mp hr
    obtain ⟨i1, i2, i3⟩ := ih hr1
    rw [joinJ_snoc]
    have hps : ∀ x ∈ joinJ f us, x < u := fun x hx => hlt x (i2 x hx)
    have par : ∀ t, u ≤ t → inL (joinJ f us) t = decide ((joinJ f us).length % 2 = 1) := fun t ht => inL_all fun x hx => by have := hps x hx; omega
    unfold stepJ
    by_cases c : f u = decide ((joinJ f us).length % 2 = 1)
    · rw [if_pos c]
      refine ⟨i1, fun x hx => List.mem_append_left _ (i2 x hx), fun t => ?_⟩
      rw [valJ_snoc]
      by_cases ht : u ≤ t
      · rw [if_pos ht, par t ht, c]
      · rw [if_neg ht]; exact i3 t
    · rw [if_neg c]
      refine ⟨rise_snoc.mpr ⟨i1, hps⟩, fun x hx => ?_, fun t => ?_⟩
      · rcases List.mem_append.mp hx with hx | hx
        · exact List.mem_append_left _ (i2 x hx)
        · exact List.mem_append_right _ hx
      · rw [valJ_snoc, inL_snoc]
        by_cases ht : u ≤ t
        · rw [if_pos ht, if_pos ht, par t ht]
          cases h1 : f u <;> cases h2 : decide ((joinJ f us).length % 2 = 1) <;> first | rfl | exact absurd (h1.trans h2.symm) c
        · rw [if_neg ht, if_neg ht]; exact i3 t
theorem valJ_last (f : Int → Bool) (t : Int) (us : List Int) : Rise us → ((∀ u ∈ us, t < u) ∧ valJ f us t = false) ∨ ∃ u ∈ us, u ≤ t ∧ (∀ x ∈ us, x ≤ t → x ≤ u) ∧ valJ f us t = f u := by
  induction us using snoc_ind with
  | h0 => exact fun _ => .inl ⟨(fun u h => (nomatch h)), rfl⟩
  | h1 us u ih =>
    intro hr
    obtain ⟨hr1, hlt⟩ := rise_snoc.mp hr
    rw [valJ_snoc]
    by_cases ht : u ≤ t
    · rw [if_pos ht]
      refine .inr ⟨u, List.mem_append_right _ (List.mem_singleton.mpr rfl), ht, fun x hx _ => ?_, rfl⟩
      rcases List.mem_append.mp hx with hx | hx
      · have := hlt x hx; omega
      · rw [List.mem_singleton.mp hx]; exact Int.le_refl _
    · rw [if_neg ht]
      rcases ih hr1 with ⟨a, b⟩ | ⟨v, a, b, c, d⟩
      · refine .inl ⟨fun x hx => ?_, b⟩
        rcases List.mem_append.mp hx with hx | hx
        · exact a x hx
        · rw [List.mem_singleton.mp hx]; omega
      · refine .inr ⟨v, List.mem_append_left _ a, b, fun x hx hxt => ?_, d⟩
        rcases List.mem_append.mp hx with hx | hx
        · exact c x hx hxt
        · rw [List.mem_singleton.mp hx] at hxt ⊢; omega
def orF (a b : List Int) (t : Int) : Bool := inL a t || inL b t
theorem join_in {a b us : List Int} (hr : Rise us) (hu : ∀ k, k ∈ us ↔ (k ∈ a ∨ k ∈ b)) (t : Int) : inL (joinJ (orF a b) us) t = (inL a t || inL b t) := by
  rw [(joinJ_spec _ us hr).2.2 t]
  rcases valJ_last (orF a b) t us hr with ⟨h, e⟩ | ⟨u, hm, h1, h2, e⟩
  · rw [e]
    have z : ∀ l : List Int, (∀ x ∈ l, t < x) → inL l t = false := fun l hl => fold_none l false hl
    rw [z a fun x hx => h x ((hu x).mpr (.inl hx)), z b fun x hx => h x ((hu x).mpr (.inr hx))]; rfl
  · rw [e]
    unfold orF
    rw [inL_congr (ts := a) (t := u) (u := t), inL_congr (ts := b) (t := u) (u := t)]
    · intro x hx
      exact ⟨fun z => by omega, fun z => h2 x ((hu x).mpr (.inr hx)) z⟩
    · intro x hx
      exact ⟨fun z => by omega, fun z => h2 x ((hu x).mpr (.inl hx)) z⟩
/-! rest -/
def restL : List Int → List Int
  | [] => [0]
  | x :: r => if x = 0 then r else 0 :: x :: r
theorem restL_spec {ts : List Int} (hr : Rise ts) (h0 : ∀ x ∈ ts, 0 ≤ x) : Rise (restL ts) ∧ (∀ x ∈ restL ts, 0 ≤ x) ∧ (restL ts).length ≤ ts.length + 1 ∧ ∀ t, 0 ≤ t → inL (restL ts) t = !inL ts t := by
  cases ts with
  | nil => exact ⟨List.pairwise_singleton _ _, fun x hx => by rw [List.mem_singleton.mp hx]; exact Int.le_refl _, Nat.le_refl _, fun t ht => by rw [show restL [] = [0] from rfl, inL_cons, if_pos ht]⟩
  | cons x r =>
    rw [show restL (x :: r) = if x = 0 then r else 0 :: x :: r from rfl]
    obtain ⟨hx, hr2⟩ := List.pairwise_cons.mp hr
    by_cases c : x = 0
    · rw [if_pos c]
      exact ⟨hr2, fun y hy => h0 y (List.mem_cons_of_mem _ hy), by rw [List.length_cons]; omega, fun t ht => by rw [inL_cons, c, if_pos ht, Bool.not_not]⟩
    · rw [if_neg c]
      have hx0 := h0 x List.mem_cons_self
      refine ⟨List.pairwise_cons.mpr ⟨fun y hy => ?_, hr⟩, fun y hy => ?_, Nat.le_refl _, fun t ht => by rw [inL_cons 0, if_pos ht]⟩
      · rcases List.mem_cons.mp hy with rfl | hy
        · omega
        · have := hx y hy; omega
      · rcases List.mem_cons.mp hy with rfl | hy
        · exact Int.le_refl _
        · exact h0 y hy

/-! ### times -/
def yUntil (K : PySem.W.Frag) : Sp := fun vs H Q _ => ∃ (v : V) (ts : List Int) (t : Int), vs = [v, .int t] ∧ Dp K H v (encI ts) ∧ Rise ts ∧ ts.length ≤ 1000 ∧ Q (.int (cntP ts t : Int)) H
def yIsIn (K : PySem.W.Frag) : Sp := fun vs H Q _ => ∃ (v : V) (ts : List Int) (t : Int), vs = [v, .int t] ∧ Dp K H v (encI ts) ∧ Rise ts ∧ ts.length ≤ 1000 ∧ Q (.bl (inL ts t)) H
def yRest (K : PySem.W.Frag) : Sp := fun vs H Q _ => ∃ (v : V) (ts : List Int), vs = [v] ∧ Dp K H v (encI ts) ∧ ts.length ≤ 1000 ∧ ∀ p H', Same H H' → SqT K H' p ((restL ts).map V.int) → Q (.ref p) H'
def yJoin (K : PySem.W.Frag) : Sp := fun vs H Q _ => ∃ (v u : V) (a b : List Int), vs = [v, u] ∧ Dp K H v (encI a) ∧ Dp K H u (encI b) ∧ Rise a ∧ Rise b ∧ a.length ≤ 8 ∧ b.length ≤ 8 ∧
  ∀ p H' us, Same H H' → Rise us → (∀ k, k ∈ us ↔ (k ∈ a ∨ k ∈ b)) → us.length ≤ 16 → SqT K H' p ((joinJ (orF a b) us).map V.int) → Q (.ref p) H'
theorem dp_ints {K : PySem.W.Frag} {H : Hp} (ts : List Int) : DpAll K H (ts.map V.int) (ts.map PyData.int) := by
  induction ts with
  | nil => exact .nil
  | cons a r ih => exact .cons (.int _) ih
theorem dp_tupI {K : PySem.W.Frag} {H : Hp} {p : Addr} {ts : List Int} (h : SqT K H p (ts.map V.int)) : Dp K H (.ref p) (encI ts) := .tup h (dp_ints ts)
section
variable {P : Program} {w : World} {K : PySem.W.Frag} {mg : Str → Option Value} {base : Heap} {A : Nat → Addr} {D : Nat → FuncData}
theorem ok_until (T : Txt K mg A D) : FnOk P w K mg base CX0 1 (A 0) (D 0) ["timeline", "time"] (yUntil K) := by
  refine T.F_points_until.ok sc_points_until (fun vs H Q E h => ?_) (fun cdv A' outer s H vs Q E hr h => ?_)
  · obtain ⟨v, ts, t, rfl, _⟩ := h; rfl
  obtain ⟨v, ts, t, rfl, hd, hrs, hl, q⟩ := h
  have hnd := sc_points_until.nd
  obtain ⟨a, rfl, ha⟩ := dp_encI hd
  refine ⟨_, (pss_cons (ps_set (i := 2) hnd rfl (Or.inl rfl) pe_int) (pss_cons (ps_set (i := 3) hnd rfl (Or.inl rfl) (pe_callB call_len_seq rfl T.z_len PySem.boot_len (pa_cons (pv 0) pa_nil))) (pss_cons (ps_while PassesOwn.never (pt_cmpR op_lt (pv 2) (pv 3) (nomark _)) (pss_cons (ps_set (i := 4) hnd rfl (Or.inl rfl) (pe_op op_fdiv (pe_op op_add (pv 2) (pv 3)) pe_int)) (pss_one (ps_if (pt_cmpR op_le (pe_ix (r := rIxT K) ix_tup (pv 0) (pv 4) (fun _ _ => rfl)) (pv 1) (nomark _)) (pss_one (ps_set (i := 2) hnd rfl (Or.inl rfl) (pe_op op_add (pv 4) pe_int))) (pss_one (ps_set (i := 3) hnd rfl (Or.inl rfl) (pv 4))))))) (pss_one (ps_ret (pv 2)))))), ?_⟩
  refine ⟨_, rfl, a, _, rfl, .inr ha, ?_⟩
  have mono : ∀ i j (hi : i < ts.length) (hj : j < ts.length), i ≤ j → ts[i] ≤ ts[j] := fun i j hi hj hij => by
    rcases Nat.lt_or_eq_of_le hij with h | h
    · exact Int.le_of_lt (List.pairwise_iff_getElem.mp hrs i j hi hj h)
    · subst h; exact Int.le_refl _
  refine ⟨fun m σ H' => ∃ (lo hi : Nat) (c4 : Option V), σ = [some (.ref a), some (.int t), some (.int (lo : Int)), some (.int (hi : Int)), c4] ∧ H' = H ∧ lo ≤ hi ∧ hi ≤ ts.length ∧ (∀ i (h : i < ts.length), i < lo → ts[i] ≤ t) ∧ (∀ i (h : i < ts.length), hi ≤ i → t < ts[i]) ∧ m = hi - lo,
    ⟨_, 0, ts.length, none, by rw [List.length_map]; rfl, rfl, Nat.zero_le _, Nat.le_refl _, fun i _ h => absurd h (Nat.not_lt_zero _), fun i h z => absurd h (by omega), rfl⟩, ?_⟩
  rintro m σ H1 ⟨lo, hi, c4, rfl, rfl, h1, h2, h3, h4, rfl⟩
  refine ⟨_, rfl, _, rfl, _, _, rfl, rfl, _, rfl, ?_⟩
  by_cases c : lo < hi
  · rw [decide_eq_true (show (lo : Int) < (hi : Int) by omega)]
    have hmid : (lo + hi) / 2 < ts.length := by omega
    have em : ((lo : Int) + (hi : Int)) / 2 = (((lo + hi) / 2 : Nat) : Int) := by omega
    refine iteT ⟨fun σ' H' => ∃ m', m' < hi - lo ∧ ∃ (lo hi : Nat) (c4 : Option V), σ' = [some (.ref a), some (.int t), some (.int (lo : Int)), some (.int (hi : Int)), c4] ∧ H' = H1 ∧ lo ≤ hi ∧ hi ≤ ts.length ∧ (∀ i (h : i < ts.length), i < lo → ts[i] ≤ t) ∧ (∀ i (h : i < ts.length), hi ≤ i → t < ts[i]) ∧ m' = hi - lo, fun _ _ h => h, ?_⟩
    refine ⟨_, rfl, _, rfl, _, _, rfl, rfl, _, _, rfl, rfl, ⟨by decide, by decide⟩, ?_⟩
    have eat : atI (ts.map V.int) (((lo : Int) + (hi : Int)) / 2) = some (.int ts[(lo + hi) / 2]) := by
      rw [em]; exact atI_nat (by rw [List.getElem?_map, List.getElem?_eq_getElem hmid]; rfl)
    refine ⟨_, rfl, _, rfl, a, _, _, _, rfl, rfl, ha, eat, _, rfl, _, _, rfl, rfl, _, rfl, ?_⟩
    refine ite2 (fun c2 => ?_) (fun c2 => ?_)
    · have c2' : ts[(lo + hi) / 2] ≤ t := of_decide_eq_true c2
      refine ⟨_, rfl, _, _, rfl, rfl, hi - ((lo + hi) / 2 + 1), by omega, (lo + hi) / 2 + 1, hi, some (.int (((lo : Int) + (hi : Int)) / 2)), ?_, rfl, by omega, h2, fun i hi' hlt => ?_, h4, rfl⟩
      · rw [show (((lo + hi) / 2 + 1 : Nat) : Int) = ((lo : Int) + (hi : Int)) / 2 + 1 by omega]; rfl
      · have := mono i ((lo + hi) / 2) hi' hmid (by omega); omega
    · have c2' : ¬ ts[(lo + hi) / 2] ≤ t := fun z => c2 (decide_eq_true z)
      refine ⟨_, rfl, (lo + hi) / 2 - lo, by omega, lo, (lo + hi) / 2, some (.int (((lo : Int) + (hi : Int)) / 2)), ?_, rfl, by omega, by omega, h3, fun i hi' hge => ?_, rfl⟩
      · rw [← em]; rfl
      · have := mono ((lo + hi) / 2) i hmid hi' (by omega); omega
  · rw [decide_eq_false (show ¬ (lo : Int) < (hi : Int) by omega)]
    have e : hi = lo := by omega
    subst e
    rw [cntP_cut hrs h3 h4 h2] at q
    exact iteF ⟨_, rfl, q⟩
theorem ok_isin (T : Txt K mg A D) : FnOk P w K mg base CX0 2 (A 1) (D 1) ["timeline", "time"] (yIsIn K) := by
  refine T.F_is_in.ok sc_is_in (fun vs H Q E h => ?_) (fun cdv A' outer s H vs Q E hr h => ?_)
  · obtain ⟨v, ts, t, rfl, _⟩ := h; rfl
  obtain ⟨v, ts, t, rfl, hd, hrs, hl, q⟩ := h
  have G_points_until := ok_until (P := P) (w := w) (base := base) T
  refine ⟨_, (pss_one (ps_ret (pe_cmpR op_eq (pe_op op_mod (pe_call G_points_until (hr.mono (by first | decide | omega)) rfl T.m_points_until T.F_points_until.kp T.b_points_until .nil pass0 (pa_cons (pv 0) (pa_cons (pv 1) pa_nil))) pe_int) pe_int (nomark _)))), ?_⟩
  refine ⟨_, rfl, _, rfl, v, ts, t, rfl, hd, hrs, hl, _, _, rfl, rfl, (by show (0 : Int) < 2; decide), rfl, ?_⟩
  show Q (.bl (decide (V.int ((cntP ts t : Int) % 2) = V.int 1))) H
  have e : decide (V.int ((cntP ts t : Int) % 2) = V.int 1) = inL ts t := by
    rw [inL_cnt, Bool.eq_iff_iff, decide_eq_true_eq, decide_eq_true_eq]
    exact ⟨fun h => by have := V.int.inj h; omega, fun h => congrArg V.int (by omega)⟩
  rw [e]
  exact q
theorem ok_rest (T : Txt K mg A D) : FnOk P w K mg base CX0 1 (A 4) (D 4) ["timeline"] (yRest K) := by
  refine T.F_rest.ok sc_rest (fun vs H Q E h => ?_) (fun cdv A' outer s H vs Q E hr h => ?_)
  · obtain ⟨v, ts, rfl, _⟩ := h; rfl
  obtain ⟨v, ts, rfl, hd, hl, q⟩ := h
  have hnd := sc_rest.nd
  obtain ⟨a, rfl, ha⟩ := dp_encI hd
  refine ⟨_, (pss_cons (ps_if (pt_cmpR (op_eqD hr.units) (pe_slice (r := rSlA K) sl_tupA (pv 0) po_none (po_some pe_int)) (pe_tup (pa_cons pe_int pa_nil)) (nomark _)) (pss_one (ps_ret (pe_slice (r := rSlA K) sl_tupA (pv 0) (po_some pe_int) po_none))) pss_nil) (pss_one (ps_ret (pe_op (r := rCatA K) op_catA (pe_tup (pa_cons pe_int pa_nil)) (pv 0))))), ?_⟩
  refine ⟨_, rfl, _, rfl, slA_use ha fun p H1 s1 h1 => ⟨(by show 1 ≤ sizeLine; decide), fun t ht => ?_⟩⟩
  have st := same_new (o := .tup [.int 0]) ht
  rw [show cutV (ts.map V.int) none (some 1) = (ts.take 1).map V.int by rw [show (1 : Int) = ((1 : Nat) : Int) from rfl, cutV_take, List.map_take]] at h1
  have ha2 := (TK.same (s1.trans st)).seq ha
  have hs : SeqAt.shaped (encI (ts.take 1)) = true := by cases ts <;> rfl
  refine ⟨encI (ts.take 1), encI [0], dp_tupI ((TK.same st).seq h1), dp_tupI (SqT.of upd_same), hs, rfl, _, rfl, ?_⟩
  have e : PyData.eqv (encI (ts.take 1)) (encI [0]) = decide (ts.head? = some 0) := by
    cases ts with
    | nil => rfl
    | cons x r =>
      show ((x == 0) && true) = decide (some x = some 0)
      rw [Bool.and_true, Bool.eq_iff_iff, beq_iff_eq, decide_eq_true_eq]
      exact ⟨fun h => by rw [h], fun h => Option.some.inj h⟩
  rw [e]
  by_cases c : ts.head? = some 0
  · rw [decide_eq_true c]
    refine iteT ⟨_, rfl, _, rfl, slA_use ha2 fun p2 H2 s2 h2 => ?_⟩
    refine q p2 H2 ((s1.trans st).trans s2) ?_
    have er : restL ts = ts.drop 1 := by
      cases ts with
      | nil => cases c
      | cons x r => rw [show restL (x :: r) = if x = 0 then r else 0 :: x :: r from rfl, if_pos (Option.some.inj c)]; rfl
    rw [er, List.map_drop]
    rw [show cutV (ts.map V.int) (some 1) none = (ts.map V.int).drop 1 from cutV_from _ 1] at h2
    exact h2
  · rw [decide_eq_false c]
    refine iteF ⟨(by show 1 ≤ sizeLine; decide), fun t2 ht2 => ⟨_, rfl, ?_⟩⟩
    have st2 := same_new (o := .tup [.int 0]) ht2
    refine catA_use (SqT.of upd_same) ((TK.same st2).seq ha2) (by rw [List.length_map]; show 1 + _ ≤ 16777216; omega) fun p3 H3 s3 h3 => ?_
    have er : restL ts = 0 :: ts := by
      cases ts with
      | nil => rfl
      | cons x r => rw [show restL (x :: r) = if x = 0 then r else 0 :: x :: r from rfl, if_neg fun z => c (by rw [z]; rfl)]
    refine q p3 H3 (((s1.trans st).trans st2).trans s3) ?_
    rw [er]
    exact h3
end

theorem par_dec (n : Nat) : decide (V.int ((n : Int) % 2) = V.int 1) = decide (n % 2 = 1) := by
  rw [Bool.eq_iff_iff, decide_eq_true_eq, decide_eq_true_eq]
  exact ⟨fun h => by have := V.int.inj h; omega, fun h => congrArg V.int (by omega)⟩
theorem bl_dec (x y : Bool) : decide (V.bl x = V.bl y) = decide (x = y) := by
  rw [Bool.eq_iff_iff, decide_eq_true_eq, decide_eq_true_eq]
  exact ⟨V.bl.inj, congrArg V.bl⟩
theorem joinJ_len (f : Int → Bool) (us : List Int) : (joinJ f us).length ≤ us.length := by
  induction us using snoc_ind with
  | h0 => exact Nat.le_refl _
  | h1 us u ih =>
    rw [joinJ_snoc, List.length_append, List.length_singleton]
    unfold stepJ
    split
    · omega
    · rw [List.length_append, List.length_singleton]; omega
section
variable {P : Program} {w : World} {K : PySem.W.Frag} {mg : Str → Option Value} {base : Heap} {A : Nat → Addr} {D : Nat → FuncData}
theorem ok_join (T : Txt K mg A D) : FnOk P w K mg base CX0 3 (A 2) (D 2) ["one", "other"] (yJoin K) := by
  refine T.F_join.ok sc_join (fun vs H Q E h => ?_) (fun cdv A' outer s H vs Q E hr h => ?_)
  · obtain ⟨v, u, a, b, rfl, _⟩ := h; rfl
  obtain ⟨v, u, a, b, rfl, hd1, hd2, hra, hrb, hla, hlb, fin⟩ := h
  have hnd := sc_join.nd
  have G_is_in := ok_isin (P := P) (w := w) (base := base) T
  obtain ⟨q1, rfl, hq1⟩ := dp_encI hd1
  obtain ⟨q2, rfl, hq2⟩ := dp_encI hd2
  refine ⟨_, (pss_cons (ps_set (i := 2) hnd rfl (Or.inl rfl) (pe_lst pa_nil)) (pss_cons (ps_for PassesOwn.never rfl (pi_list (pe_callB (cr_sortS rfl) rfl T.z_sorted (by decide +kernel) (pa_cons (pe_op op_orS (pe_callTy (cr_setTI rfl) rfl T.z_set (by decide +kernel) (pa_cons (pv 0) pa_nil)) (pe_callTy (cr_setTI rfl) rfl T.z_set (by decide +kernel) (pa_cons (pv 1) pa_nil))) pa_nil))) (pg_name (i := 3) hnd rfl (Or.inl rfl)) (pss_cons (ps_set (i := 4) hnd rfl (Or.inl rfl) (pe_or (pe_call G_is_in (hr.mono (by first | decide | omega)) rfl T.m_is_in T.F_is_in.kp T.b_is_in .nil pass0 (pa_cons (pv 0) (pa_cons (pv 3) pa_nil))) (pe_one (pe_call G_is_in (hr.mono (by first | decide | omega)) rfl T.m_is_in T.F_is_in.kp T.b_is_in .nil pass0 (pa_cons (pv 1) (pa_cons (pv 3) pa_nil)))))) (pss_one (ps_if (pt_cmpR op_ne (pv 4) (pe_cmpR op_eq (pe_op op_mod (pe_callB call_len_seq rfl T.z_len PySem.boot_len (pa_cons (pv 2) pa_nil)) pe_int) pe_int (nomark _)) (nomark _)) (pss_one (ps_expr (pe_bm PySem.F.plainAttrs_list PySem.F.slot_list_append PySem.F.type_list_append mt_append (pv 2) (pa_cons (pv 3) pa_nil)))) pss_nil)))) (pss_one (ps_ret (pe_callTy call_tuple_of rfl T.z_tuple (by decide +kernel) (pa_cons (pv 2) pa_nil)))))), ?_⟩
  refine ⟨(by decide), fun d hd => ?_⟩
  have s0 := same_new (o := .lst []) hd
  refine ⟨_, rfl, q1, a, rfl, (TK.same s0).seq hq1, by omega, fun p1 n1 hp1 hn1 => ?_⟩
  have s1 := s0.trans (same_new (o := SI w p1 (fun k => decide (k ∈ a)) n1) hp1)
  refine ⟨_, rfl, q2, b, rfl, (TK.same s1).seq hq2, by omega, fun p2 n2 hp2 hn2 => ?_⟩
  have hs2 := same_new (o := SI w p2 (fun k => decide (k ∈ b)) n2) hp2
  have ne12 : p1 ≠ p2 := fun e => by rw [← e, upd_same] at hp2; cases hp2
  refine ⟨p1, p2, _, _, n1, n2, rfl, rfl, hs2 _ _ upd_same, upd_same, ne12, by omega, fun p3 k3 hp3 hk3 => ?_⟩
  have s3 := (s1.trans hs2).trans (same_new (o := SI w p3 (fun j => decide (j ∈ a) || decide (j ∈ b)) k3) hp3)
  refine ⟨p3, _, k3, rfl, upd_same, by omega, fun us p4 hp4 hus hmem hlen => ?_⟩
  have s4 := s3.trans (same_new (o := .lst (us.map V.int)) hp4)
  have hmu : ∀ k, k ∈ us ↔ (k ∈ a ∨ k ∈ b) := fun k => by rw [hmem k, Bool.or_eq_true, decide_eq_true_eq, decide_eq_true_eq]
  have hul : us.length ≤ 16 := by omega
  have hd4 : upd (upd (upd (upd (upd H d (.lst [])) p1 (SI w p1 (fun k => decide (k ∈ a)) n1)) p2 (SI w p2 (fun k => decide (k ∈ b)) n2)) p3 (SI w p3 (fun j => decide (j ∈ a) || decide (j ∈ b)) k3)) p4 (.lst (us.map V.int)) d = some (.lst []) :=
    same_new hp4 _ _ (same_new hp3 _ _ (hs2 _ _ (same_new hp1 _ _ upd_same)))
  have ne4 : p4 ≠ d := fun e => by
    rw [e, same_new hp3 _ _ (hs2 _ _ (same_new hp1 _ _ upd_same))] at hp4; cases hp4
  refine ⟨p4, rfl, ⟨_, SqL.of upd_same⟩, ?_⟩
  refine for_list (xs := us.map V.int) (fun i σ H' => ∃ (c3 c4 : Option V), σ = [some (.ref q1), some (.ref q2), some (.ref d), c3, c4] ∧ Same H H' ∧ H' d = some (.lst ((joinJ (orF a b) (us.take i)).map V.int)) ∧ H' p4 = some (.lst (us.map V.int)))
    ⟨_, _, rfl, s4, hd4, upd_same⟩ (fun i σ H' _ h => by obtain ⟨_, _, _, _, _, h4⟩ := h; exact SqL.of h4) ?_ ?_
  · rintro i x σ H5 hi ⟨c3, c4, rfl, s5, h5d, h5p⟩
    rw [List.getElem?_map] at hi
    obtain ⟨t, ht, rfl⟩ := Option.map_eq_some_iff.mp hi
    have hil : i < us.length := (List.getElem?_eq_some_iff.mp ht).1
    have e1 : us.take (i + 1) = us.take i ++ [t] := by rw [List.take_add_one, ht]; rfl
    have ej : joinJ (orF a b) (us.take (i + 1)) = stepJ (orF a b) (joinJ (orF a b) (us.take i)) t := by rw [e1, joinJ_snoc]
    obtain ⟨ps, hps⟩ : ∃ ps, ps = joinJ (orF a b) (us.take i) := ⟨_, rfl⟩
    rw [← hps] at h5d ej
    have hpl : ps.length ≤ 16 := by
      have := joinJ_len (orF a b) (us.take i)
      rw [← hps, List.length_take] at this
      omega
    refine ⟨_, rfl, _, rfl, .ref q1, a, t, rfl, dp_tupI ((TK.same s5).seq hq1), hra, by omega, _, rfl, ?_⟩
    have fF : ∀ z, inL a t = z → orF a b t = (z || inL b t) := fun z h => by unfold orF; rw [h]
    cases hz : inL a t with
    | true =>
      have eF : orF a b t = true := fF true hz
      refine iteT ?_
      refine ⟨_, rfl, _, rfl, d, _, rfl, .inl (SqL.of h5d), _, _, rfl, rfl, (by show (0 : Int) < 2; decide), rfl, rfl, _, rfl, ?_⟩
      rw [List.length_map, bl_dec, par_dec]
      unfold stepJ at ej
      rw [eF] at ej
      by_cases c : true = decide (ps.length % 2 = 1)
      · rw [if_pos c] at ej
        rw [decide_eq_true c]
        refine iteF ⟨_, _, rfl, s5, ?_, h5p⟩
        rw [ej]; exact h5d
      · rw [if_neg c] at ej
        rw [decide_eq_false c]
        refine iteT ⟨_, rfl, .inl ⟨rfl, _, SqL.of h5d⟩, _, rfl, d, _, _, rfl, rfl, h5d, (by rw [List.length_map]; exact len_lt (by omega)), ?_⟩
        refine ⟨_, _, rfl, same_upd s5 hd, ?_, ?_⟩
        · rw [upd_same, ej, List.map_append]; rfl
        · rw [upd_ne ne4]; exact h5p
    | false =>
      have eF : orF a b t = inL b t := fF false hz
      refine iteF ⟨_, rfl, _, rfl, .ref q2, b, t, rfl, dp_tupI ((TK.same s5).seq hq2), hrb, by omega, ?_⟩
      refine ⟨_, rfl, _, rfl, d, _, rfl, .inl (SqL.of h5d), _, _, rfl, rfl, (by show (0 : Int) < 2; decide), rfl, rfl, _, rfl, ?_⟩
      rw [List.length_map, bl_dec, par_dec]
      unfold stepJ at ej
      rw [eF] at ej
      by_cases c : inL b t = decide (ps.length % 2 = 1)
      · rw [if_pos c] at ej
        rw [decide_eq_true c]
        refine iteF ⟨_, _, rfl, s5, ?_, h5p⟩
        rw [ej]; exact h5d
      · rw [if_neg c] at ej
        rw [decide_eq_false c]
        refine iteT ⟨_, rfl, .inl ⟨rfl, _, SqL.of h5d⟩, _, rfl, d, _, _, rfl, rfl, h5d, (by rw [List.length_map]; exact len_lt (by omega)), ?_⟩
        refine ⟨_, _, rfl, same_upd s5 hd, ?_, ?_⟩
        · rw [upd_same, ej, List.map_append]; rfl
        · rw [upd_ne ne4]; exact h5p
  · rintro σ H5 ⟨c3, c4, rfl, s5, h5d, h5p⟩
    rw [List.length_map, take_all (Nat.le_refl _)] at h5d
    refine ⟨_, rfl, d, _, rfl, .inl ⟨SqL.of h5d, fun p6 hp6 => ?_⟩⟩
    exact fin p6 _ us (s5.trans (same_new hp6)) hus hmu hul (SqT.of upd_same)
end

def yMeet (K : PySem.W.Frag) : Sp := fun vs H Q _ => ∃ (v u : V) (a b : List Int), vs = [v, u] ∧ Dp K H v (encI a) ∧ Dp K H u (encI b) ∧ Rise a ∧ Rise b ∧ (∀ x ∈ a, 0 ≤ x) ∧ (∀ x ∈ b, 0 ≤ x) ∧ a.length ≤ 7 ∧ b.length ≤ 7 ∧
  ∀ p H' ms, Same H H' → Rise ms → (∀ x ∈ ms, 0 ≤ x) → ms.length ≤ 17 → (∀ t, 0 ≤ t → inL ms t = (inL a t && inL b t)) → SqT K H' p (ms.map V.int) → Q (.ref p) H'
section
variable {P : Program} {w : World} {K : PySem.W.Frag} {mg : Str → Option Value} {base : Heap} {A : Nat → Addr} {D : Nat → FuncData}
theorem ok_meet (T : Txt K mg A D) : FnOk P w K mg base CX0 4 (A 3) (D 3) ["one", "other"] (yMeet K) := by
  refine T.F_meet.ok sc_meet (fun vs H Q E h => ?_) (fun cdv A' outer s H vs Q E hr h => ?_)
  · obtain ⟨v, u, a, b, rfl, _⟩ := h; rfl
  obtain ⟨v, u, a, b, rfl, hd1, hd2, hra, hrb, ha0, hb0, hla, hlb, fin⟩ := h
  have hnd := sc_meet.nd
  have G_rest := ok_rest (P := P) (w := w) (base := base) T
  have G_join := ok_join (P := P) (w := w) (base := base) T
  refine ⟨_, (pss_one (ps_ret (pe_call G_rest (hr.mono (by first | decide | omega)) rfl T.m_rest T.F_rest.kp T.b_rest .nil pass0 (pa_cons (pe_call G_join (hr.mono (by first | decide | omega)) rfl T.m_join T.F_join.kp T.b_join .nil pass0 (pa_cons (pe_call G_rest (hr.mono (by first | decide | omega)) rfl T.m_rest T.F_rest.kp T.b_rest .nil pass0 (pa_cons (pv 0) pa_nil)) (pa_cons (pe_call G_rest (hr.mono (by first | decide | omega)) rfl T.m_rest T.F_rest.kp T.b_rest .nil pass0 (pa_cons (pv 1) pa_nil)) pa_nil))) pa_nil)))), ?_⟩
  obtain ⟨a1, a2, a3, a4⟩ := restL_spec hra ha0
  obtain ⟨b1, b2, b3, b4⟩ := restL_spec hrb hb0
  refine ⟨_, rfl, v, a, rfl, hd1, by omega, fun p1 H1 s1 h1 => ?_⟩
  refine ⟨_, rfl, u, b, rfl, Dp.same s1 hd2, by omega, fun p2 H2 s2 h2 => ?_⟩
  refine ⟨.ref p1, .ref p2, restL a, restL b, rfl, dp_tupI ((TK.same s2).seq h1), dp_tupI h2, a1, b1, by omega, by omega, fun p3 H3 us s3 hus hmem hlen h3 => ?_⟩
  have jl := joinJ_len (orF (restL a) (restL b)) us
  obtain ⟨j1, j2, _⟩ := joinJ_spec (orF (restL a) (restL b)) us hus
  have j0 : ∀ x ∈ joinJ (orF (restL a) (restL b)) us, 0 ≤ x := fun x hx => by
    rcases (hmem x).mp (j2 x hx) with h | h
    · exact a2 x h
    · exact b2 x h
  obtain ⟨m1, m2, m3, m4⟩ := restL_spec j1 j0
  refine ⟨.ref p3, _, rfl, dp_tupI h3, by omega, fun p4 H4 s4 h4 => fin p4 H4 _ (((s1.trans s2).trans s3).trans s4) m1 m2 (by omega) (fun t ht => ?_) h4⟩
  rw [m4 t ht, join_in hus hmem, a4 t ht, b4 t ht]
  cases inL a t <;> cases inL b t <;> rfl
theorem ok_rises (T : Txt K mg A D) : FnOk P w K mg base CX0 1 (A 11) (D 11) ["timeline"] (fun vs H Q _ => ∃ (v : V) (ts : List Int), vs = [v] ∧ Dp K H v (encI ts) ∧ Rise ts ∧ (∀ x ∈ ts, 0 ≤ x) ∧ Q (.bl true) H) := by
  refine T.F__law_rises.ok sc__law_rises (fun vs H Q E h => ?_) (fun cdv A' outer s H vs Q E hr h => ?_)
  · obtain ⟨v, ts, rfl, _⟩ := h; rfl
  obtain ⟨v, ts, rfl, hd, hrs, h0, fin⟩ := h
  have hnd := sc__law_rises.nd
  obtain ⟨a, rfl, ha⟩ := dp_encI hd
  refine ⟨_, (pss_cons (ps_set (i := 1) hnd rfl (Or.inl rfl) (pe_un un_neg pe_int)) (pss_cons (ps_for PassesOwn.never rfl (pi_tup (pv 0)) (pg_name (i := 2) hnd rfl (Or.inl rfl)) (pss_cons (ps_if (PW.pt (pw_or (pt_not (pt_val (pe_callB call_isi rfl T.z_isinstance (by decide +kernel) (pa_cons (pv 2) (pa_cons (pe_bltn (v := .ty "int") rfl T.z_int (by decide +kernel) rfl) pa_nil))))) (pw_or (pt_val (pe_callB call_isi rfl T.z_isinstance (by decide +kernel) (pa_cons (pv 2) (pa_cons (pe_bltn (v := .ty "bool") rfl T.z_bool (by decide +kernel) rfl) pa_nil)))) (pw_or1 (pt_cmpR op_le (pv 2) (pv 1) (nomark _)))))) (pss_one (ps_ret pe_bl)) pss_nil) (pss_one (ps_set (i := 1) hnd rfl (Or.inl rfl) (pv 2))))) (pss_one (ps_ret (pe_callB call_isi rfl T.z_isinstance (by decide +kernel) (pa_cons (pv 0) (pa_cons (pe_bltn (v := .ty "tuple") rfl T.z_tuple (by decide +kernel) rfl) pa_nil))))))), ?_⟩
  refine ⟨_, rfl, _, rfl, a, rfl, ⟨_, ha⟩, ?_⟩
  refine for_tup (xs := ts.map V.int) (fun i σ H' => ∃ (last : Int) (c2 : Option V), σ = [some (.ref a), some (.int last), c2] ∧ H' = H ∧ ∀ x ∈ ts.drop i, last < x) ⟨-1, none, rfl, rfl, fun x hx => by have := h0 x hx; omega⟩ (fun i σ H' _ h => by obtain ⟨_, _, _, rfl, _⟩ := h; exact ha) ?_ ?_
  · rintro i x σ H1 hi ⟨last, c2, rfl, rfl, hlast⟩
    rw [List.getElem?_map] at hi
    obtain ⟨t, ht, rfl⟩ := Option.map_eq_some_iff.mp hi
    obtain ⟨hil, et⟩ := List.getElem?_eq_some_iff.mp ht
    have hdr : ts.drop i = t :: ts.drop (i + 1) := by rw [List.drop_eq_getElem_cons hil, et]
    have hlt : last < t := hlast t (by rw [hdr]; exact List.mem_cons_self)
    refine ⟨_, rfl, _, _, _, _, true, rfl, .ty _, .base (.int _), kit_ty (by decide +kernel), _, rfl, iteF ?_⟩
    refine ⟨_, rfl, _, _, _, _, false, rfl, .ty _, .base (.int _), kit_ty (by decide +kernel), _, rfl, iteF ?_⟩
    refine ⟨_, rfl, _, rfl, _, _, rfl, rfl, _, rfl, ?_⟩
    rw [decide_eq_false (show ¬ t ≤ last by omega)]
    refine iteF ⟨_, rfl, t, _, rfl, rfl, fun x hx => ?_⟩
    have hp : (t :: ts.drop (i + 1)).Pairwise (· < ·) := by rw [← hdr]; exact List.Pairwise.sublist (List.drop_sublist _ _) hrs
    exact (List.pairwise_cons.mp hp).1 x hx
  · rintro σ H1 ⟨last, c2, rfl, rfl, _⟩
    exact ⟨_, rfl, _, _, _, _, true, rfl, .ty _, ty_t ha, kit_ty (by decide +kernel), fin⟩
end

section
variable {P : Program} {w : World} {K : PySem.W.Frag} {mg : Str → Option Value} {base : Heap} {A : Nat → Addr} {D : Nat → FuncData}
theorem ok_law (T : Txt K mg A D) : FnOk P w K mg base CX0 5 (A 12) (D 12) ["script"] (ySpLaw K) := by
  refine T.F_law.ok sc_law (fun vs H Q E h => ?_) (fun cdv A' outer s H vs Q E hr h => ?_)
  · obtain ⟨a, ns, rfl, _⟩ := h; rfl
  obtain ⟨a, ns, rfl, hS, hn, fin⟩ := h
  have hnd := sc_law.nd
  have G__law_draw := ok_draw (P := P) (w := w) (base := base) T
  have G__law_digits := ok_digits (P := P) (w := w) (base := base) T
  have G__law_same := ok_same (P := P) (w := w) (base := base) T 2
  have G__law_timeline := ok_ltimeline (P := P) (w := w) (base := base) T
  have G__law_is_in := ok_lisin (P := P) (w := w) (base := base) T
  have G__law_rises := ok_rises (P := P) (w := w) (base := base) T
  have G_is_in := ok_isin (P := P) (w := w) (base := base) T
  have G_join := ok_join (P := P) (w := w) (base := base) T
  have G_meet := ok_meet (P := P) (w := w) (base := base) T
  have G_rest := ok_rest (P := P) (w := w) (base := base) T
  refine ⟨_, (pss_cons (ps_set (i := 2) hnd rfl (Or.inl rfl) (pe_lst (pa_cons (pe_call G__law_digits (hr.mono (by first | decide | omega)) rfl T.m__law_digits T.F__law_digits.kp T.b__law_digits .nil pass0 (pa_cons (pv 0) (pa_cons pe_int (pa_cons pe_int pa_nil)))) (pa_cons pe_int pa_nil)))) (pss_cons (ps_set (i := 3) hnd rfl (Or.inl rfl) (pe_call G__law_timeline (hr.mono (by first | decide | omega)) rfl T.m__law_timeline T.F__law_timeline.kp T.b__law_timeline .nil pass0 (pa_cons (pv 2) (pa_cons pe_int pa_nil)))) (pss_cons (ps_set (i := 4) hnd rfl (Or.inl rfl) (pe_call G__law_timeline (hr.mono (by first | decide | omega)) rfl T.m__law_timeline T.F__law_timeline.kp T.b__law_timeline .nil pass0 (pa_cons (pv 2) (pa_cons pe_int pa_nil)))) (pss_cut (ps_if (pt_cmpR op_eq (pe_call G__law_draw (hr.mono (by first | decide | omega)) rfl T.m__law_draw T.F__law_draw.kp T.b__law_draw .nil pass0 (pa_cons (pv 2) (pa_cons pe_int pa_nil))) pe_int (nomark _)) (pss_one (ps_set (i := 4) hnd rfl (Or.inl rfl) (pe_callTy call_tuple_of rfl T.z_tuple (by decide +kernel) (pa_cons (pe_lc (own := [("point", 1)]) rfl hnd (pi_tup (pe_slice (r := rSlA K) sl_tupA (pv 3) (po_some pe_int) po_none)) (blkOk_by (own := [("point", 1)]) (N := N_law) (sc := defScope s_law) (by decide +kernel)) (fun _ _ _ _ _ => (pg_name (i := 1) hnd rfl (Or.inl rfl))) (fun _ _ _ _ _ => pts_nil) (fun _ _ _ _ _ => (pe_op op_add (pv 1) pe_int))) pa_nil)))) pss_nil) (pss_cons (ps_set (i := 5) hnd rfl (Or.inl rfl) (pe_call G_join (hr.mono (by first | decide | omega)) rfl T.m_join T.F_join.kp T.b_join .nil pass0 (pa_cons (pv 3) (pa_cons (pv 4) pa_nil)))) (pss_cons (ps_set (i := 6) hnd rfl (Or.inl rfl) (pe_call G_meet (hr.mono (by first | decide | omega)) rfl T.m_meet T.F_meet.kp T.b_meet .nil pass0 (pa_cons (pv 3) (pa_cons (pv 4) pa_nil)))) (pss_cons (ps_set (i := 7) hnd rfl (Or.inl rfl) (pe_call G_rest (hr.mono (by first | decide | omega)) rfl T.m_rest T.F_rest.kp T.b_rest .nil pass0 (pa_cons (pv 3) pa_nil))) (pss_cons (ps_if (PW.pt (pw_or (pt_not (pt_val (pe_call G__law_rises (hr.mono (by first | decide | omega)) rfl T.m__law_rises T.F__law_rises.kp T.b__law_rises .nil pass0 (pa_cons (pv 5) pa_nil)))) (pw_or (pt_not (pt_val (pe_call G__law_rises (hr.mono (by first | decide | omega)) rfl T.m__law_rises T.F__law_rises.kp T.b__law_rises .nil pass0 (pa_cons (pv 6) pa_nil)))) (pw_or1 (pt_not (pt_val (pe_call G__law_rises (hr.mono (by first | decide | omega)) rfl T.m__law_rises T.F__law_rises.kp T.b__law_rises .nil pass0 (pa_cons (pv 7) pa_nil)))))))) (pss_one (ps_ret pe_bl)) pss_nil) (pss_cons (ps_for PassesOwn.never rfl (pi_range1 rfl T.z_range (pa_cons pe_int pa_nil)) (pg_name (i := 8) hnd rfl (Or.inl rfl)) (pss_cons (ps_set (i := 9) hnd rfl (Or.inl rfl) (pe_call G__law_is_in (hr.mono (by first | decide | omega)) rfl T.m__law_is_in T.F__law_is_in.kp T.b__law_is_in .nil pass0 (pa_cons (pv 3) (pa_cons (pv 8) pa_nil)))) (pss_cons (ps_set (i := 10) hnd rfl (Or.inl rfl) (pe_call G__law_is_in (hr.mono (by first | decide | omega)) rfl T.m__law_is_in T.F__law_is_in.kp T.b__law_is_in .nil pass0 (pa_cons (pv 4) (pa_cons (pv 8) pa_nil)))) (pss_cons (ps_if (pt_not (pt_val (pe_call G__law_same (hr.mono (by first | decide | omega)) rfl T.m__law_same T.F__law_same.kp T.b__law_same .nil pass0 (pa_cons (pe_call G_is_in (hr.mono (by first | decide | omega)) rfl T.m_is_in T.F_is_in.kp T.b_is_in .nil pass0 (pa_cons (pv 3) (pa_cons (pv 8) pa_nil))) (pa_cons (pv 9) pa_nil))))) (pss_one (ps_ret pe_bl)) pss_nil) (pss_cons (ps_if (PW.pt (pw_or (pt_cmpR op_ne (pe_call G__law_is_in (hr.mono (by first | decide | omega)) rfl T.m__law_is_in T.F__law_is_in.kp T.b__law_is_in .nil pass0 (pa_cons (pv 5) (pa_cons (pv 8) pa_nil))) (pe_or (pv 9) (pe_one (pv 10))) (nomark _)) (pw_or1 (pt_cmpR op_ne (pe_call G__law_is_in (hr.mono (by first | decide | omega)) rfl T.m__law_is_in T.F__law_is_in.kp T.b__law_is_in .nil pass0 (pa_cons (pv 6) (pa_cons (pv 8) pa_nil))) (pe_and (pv 9) (pe_one (pv 10))) (nomark _))))) (pss_one (ps_ret pe_bl)) pss_nil) (pss_one (ps_if (pt_cmpR op_eq (pe_call G__law_is_in (hr.mono (by first | decide | omega)) rfl T.m__law_is_in T.F__law_is_in.kp T.b__law_is_in .nil pass0 (pa_cons (pv 7) (pa_cons (pv 8) pa_nil))) (pv 9) (nomark _)) (pss_one (ps_ret pe_bl)) pss_nil))))))) (pss_one (ps_ret pe_bl))))))))))), ?_⟩
  refine ⟨_, rfl, a, ns, rfl, hS, fun p ds H1 s1 hp0 hp1 hl => ⟨(by show 2 ≤ sizeLine; decide), fun b hb => ?_⟩⟩
  have B1 := box_new hp1 hb
  refine ⟨_, rfl, b, p, 7, rfl, B1, (by decide), fun q1 ts H2 hr1 h01 _ hl1 hq1 B2 k2 => ?_⟩
  refine ⟨_, rfl, b, p, 7, rfl, B2, (by decide), fun q2 us H3 hr2 h02 _ hl2 hq2 B3 k3 => ?_⟩
  have d1 := Dp.keep (TK.box B2 k3) (dp_tupI hq1) (imm_encI ts)
  have d2 := dp_tupI hq2
  refine ⟨fun σ H' => ∃ (v4 : V) (us : List Int), σ = [some (.ref a), none, some (.ref b), some (.ref q1), some v4, none, none, none, none, none, none] ∧ Dp K H' (.ref q1) (encI ts) ∧ Dp K H' v4 (encI us) ∧ Rise us ∧ (∀ x ∈ us, 0 ≤ x) ∧ us.length ≤ 7, ?_, ?_⟩
  · refine ⟨_, rfl, b, p, 3, rfl, B3, (by decide), fun r4 H4 _ _ B4 k4 => ⟨rfl, _, rfl, ?_⟩⟩
    have d14 := Dp.keep (TK.box B3 k4) d1 (imm_encI ts)
    have d24 := Dp.keep (TK.box B3 k4) d2 (imm_encI us)
    refine ite2 (fun _ => ?_) (fun _ => ?_)
    · obtain ⟨q1', e1', hq1'⟩ := dp_encI d14
      cases e1'
      refine ⟨_, rfl, _, rfl, ?_⟩
      dsimp only [tNoPart]
      refine slA_use hq1' fun p5 H5 s5 h5 => ⟨p5, rfl, ⟨_, h5⟩, fun DD hDD => ?_⟩
      rw [show cutV (ts.map V.int) (some 1) none = (ts.drop 1).map V.int by rw [List.map_drop]; exact cutV_from _ 1] at h5
      have hdl : (ts.drop 1).length ≤ 7 := by rw [List.length_drop]; omega
      refine lc_it (walk_tup (xs := (ts.drop 1).map V.int)) (fun i H' => Same H5 H' ∧ H' DD = some (.lst (((ts.drop 1).take i).map fun x => V.int (x + 1)))) ⟨same_new hDD, upd_same⟩ (fun i H' _ h => (TK.same h.1).seq h5) ?_ ?_
      · rintro i x H6 H7 hi ⟨s6, h6⟩ ⟨rfl, hx⟩
        rw [List.getElem?_map] at hx
        obtain ⟨t, ht, rfl⟩ := Option.map_eq_some_iff.mp hx
        refine ⟨rfl, ?_⟩
        refine ⟨_, rfl, _, _, rfl, rfl, _, h6, ?_, same_upd s6 hDD, ?_⟩
        · rw [List.length_map, List.length_take]; exact len_lt (by omega)
        · rw [upd_same, List.take_add_one (i := i), ht, List.map_append]; rfl
      · rintro H6 ⟨s6, h6⟩
        rw [List.length_map, take_all (Nat.le_refl _)] at h6
        refine ⟨DD, _, rfl, .inl ⟨SqL.of h6, fun p7 hp7 => ?_⟩⟩
        have s7 := s6.trans (same_new (o := .tup ((ts.drop 1).map fun x => V.int (x + 1))) hp7)
        refine ⟨.ref p7, (ts.drop 1).map (· + 1), rfl, Dp.same (s5.trans s7) d14, ?_, ?_, fun x hx => ?_, by rw [List.length_map]; exact hdl⟩
        · refine dp_tupI (SqT.of ?_)
          rw [upd_same, List.map_map]; rfl
        · refine List.Pairwise.map _ (fun x y h => ?_) (List.Pairwise.sublist (List.drop_sublist 1 ts) hr1)
          show x + 1 < y + 1
          omega
        · obtain ⟨y, hy, rfl⟩ := List.mem_map.mp hx
          have := h01 y (List.mem_of_mem_drop hy)
          omega
    · exact ⟨.ref q2, us, rfl, d14, d24, hr2, h02, hl2⟩
  · clear hr2 h02 hl2 d2 hq2 d1
    rintro σ H4 ⟨v4, us, rfl, d1, d2, hr2, h02, hl2⟩
    refine ⟨_, rfl, _, rfl, .ref q1, v4, ts, us, rfl, d1, d2, hr1, hr2, by omega, by omega, fun p7 H7 js s7 hjs hjm hjl h7 => ?_⟩
    refine ⟨_, rfl, _, rfl, .ref q1, v4, ts, us, rfl, Dp.same s7 d1, Dp.same s7 d2, hr1, hr2, h01, h02, hl1, hl2, fun p8 H8 ms s8 m1 m2 m3 m4 h8 => ?_⟩
    have s78 := s7.trans s8
    refine ⟨_, rfl, .ref q1, ts, rfl, Dp.same s78 d1, by omega, fun p9 H9 s9 h9 => ?_⟩
    have S := s78.trans s9
    obtain ⟨j1, j2, _⟩ := joinJ_spec (orF ts us) js hjs
    have j0 : ∀ x ∈ joinJ (orF ts us) js, 0 ≤ x := fun x hx => by
      rcases (hjm x).mp (j2 x hx) with h | h
      · exact h01 x h
      · exact h02 x h
    obtain ⟨r1, r2, r3, r4⟩ := restL_spec hr1 h01
    have D1 := Dp.same S d1
    have D2 := Dp.same S d2
    have DJ := dp_tupI ((TK.same (s8.trans s9)).seq h7)
    have DM := dp_tupI ((TK.same s9).seq h8)
    have DR := dp_tupI h9
    refine ⟨_, rfl, .ref p7, _, rfl, DJ, j1, j0, _, rfl, iteF ⟨_, rfl, .ref p8, ms, rfl, DM, m1, m2, _, rfl, iteF ⟨_, rfl, .ref p9, _, rfl, DR, r1, r2, _, rfl, iteF ?_⟩⟩⟩
    refine ⟨_, rfl, (by decide), (by decide), ?_⟩
    refine for_range (n := 81) (fun i σ H' => ∃ (c8 c9 c10 : Option V), σ = [some (.ref a), none, some (.ref b), some (.ref q1), some v4, some (.ref p7), some (.ref p8), some (.ref p9), c8, c9, c10] ∧ H' = H9) ⟨_, _, _, rfl, rfl⟩ ?_ ?_
    · rintro i σ H' hi ⟨c8, c9, c10, rfl, rfl⟩
      have ej := join_in (a := ts) (b := us) hjs hjm (0 + (i : Int))
      have em := m4 (0 + (i : Int)) (by omega)
      have er := r4 (0 + (i : Int)) (by omega)
      refine ⟨_, rfl, _, rfl, .ref q1, ts, _, rfl, D1, ?_⟩
      refine ⟨_, rfl, _, rfl, v4, us, _, rfl, D2, ?_⟩
      refine ⟨_, rfl, _, rfl, .ref q1, ts, _, rfl, D1, hr1, by omega, _, rfl, .bl _, .bl _, .bool (inL ts (0 + (i : Int))), rfl, .bl _, .bl _, True.intro, _, rfl, iteF ?_⟩
      refine ⟨_, rfl, _, rfl, .ref p7, _, _, rfl, DJ, ?_⟩
      rw [ej]
      generalize inL ts (0 + (i : Int)) = x at *
      generalize inL us (0 + (i : Int)) = y at *
      cases x with
      | true =>
        cases y with
        | true =>
          refine ⟨_, rfl, _, rfl, iteT ?_⟩
          refine ⟨rfl, _, rfl, ?_⟩
          rw [bl_dec]
          refine iteF ?_
          refine ⟨_, rfl, _, rfl, .ref p8, ms, _, rfl, DM, ?_⟩
          rw [em]
          refine ⟨_, rfl, _, rfl, iteT ⟨_, rfl, ?_⟩⟩
          refine ⟨rfl, _, rfl, ?_⟩
          rw [bl_dec]
          refine iteF ?_
          refine ⟨_, rfl, _, rfl, .ref p9, _, _, rfl, DR, ?_⟩
          rw [er]
          refine ⟨_, rfl, rfl, _, rfl, ?_⟩
          rw [bl_dec]
          exact iteF ⟨_, _, _, rfl, rfl⟩
        | false =>
          refine ⟨_, rfl, _, rfl, iteT ?_⟩
          refine ⟨rfl, _, rfl, ?_⟩
          rw [bl_dec]
          refine iteF ?_
          refine ⟨_, rfl, _, rfl, .ref p8, ms, _, rfl, DM, ?_⟩
          rw [em]
          refine ⟨_, rfl, _, rfl, iteT ⟨_, rfl, ?_⟩⟩
          refine ⟨rfl, _, rfl, ?_⟩
          rw [bl_dec]
          refine iteF ?_
          refine ⟨_, rfl, _, rfl, .ref p9, _, _, rfl, DR, ?_⟩
          rw [er]
          refine ⟨_, rfl, rfl, _, rfl, ?_⟩
          rw [bl_dec]
          exact iteF ⟨_, _, _, rfl, rfl⟩
      | false =>
        cases y with
        | true =>
          refine ⟨_, rfl, _, rfl, iteF ⟨_, rfl, ?_⟩⟩
          refine ⟨rfl, _, rfl, ?_⟩
          rw [bl_dec]
          refine iteF ?_
          refine ⟨_, rfl, _, rfl, .ref p8, ms, _, rfl, DM, ?_⟩
          rw [em]
          refine ⟨_, rfl, _, rfl, iteF ?_⟩
          refine ⟨rfl, _, rfl, ?_⟩
          rw [bl_dec]
          refine iteF ?_
          refine ⟨_, rfl, _, rfl, .ref p9, _, _, rfl, DR, ?_⟩
          rw [er]
          refine ⟨_, rfl, rfl, _, rfl, ?_⟩
          rw [bl_dec]
          exact iteF ⟨_, _, _, rfl, rfl⟩
        | false =>
          refine ⟨_, rfl, _, rfl, iteF ⟨_, rfl, ?_⟩⟩
          refine ⟨rfl, _, rfl, ?_⟩
          rw [bl_dec]
          refine iteF ?_
          refine ⟨_, rfl, _, rfl, .ref p8, ms, _, rfl, DM, ?_⟩
          rw [em]
          refine ⟨_, rfl, _, rfl, iteF ?_⟩
          refine ⟨rfl, _, rfl, ?_⟩
          rw [bl_dec]
          refine iteF ?_
          refine ⟨_, rfl, _, rfl, .ref p9, _, _, rfl, DR, ?_⟩
          rw [er]
          refine ⟨_, rfl, rfl, _, rfl, ?_⟩
          rw [bl_dec]
          exact iteF ⟨_, _, _, rfl, rfl⟩
    · rintro σ H' ⟨c8, c9, c10, rfl, rfl⟩
      exact fin _
end

theorem all_mk {l : PySem.W.OpenLaw} {w : World} {K : PySem.W.Frag} {h : Heap} {mg : Str → Option Value} {fa f0 f1 f2 f3 f4 f5 f6 f7 f8 f9 f10 f11 f12 : Addr} (X : K.In h) (G : h.Ns mainGlobals mg) (hfa : mg "law" = some (.ref fa))
    {od0 od1 od2 od3 od4 od5 od6 od7 od8 od9 od10 od11 od12 an0 an1 an2 an3 an4 an5 an6 an7 an8 an9 an10 an11 an12 : Option Addr} {sl0 sl1 sl2 sl3 sl4 sl5 sl6 sl7 sl8 sl9 sl10 sl11 sl12 : Array (Option Value)} {oc0 oc1 oc2 oc3 oc4 oc5 oc6 oc7 oc8 oc9 oc10 oc11 oc12 kV0 kV1 kV2 kV3 kV4 kV5 kV6 kV7 kV8 kV9 kV10 kV11 kV12 dc0 dc1 dc2 dc3 dc4 dc5 dc6 dc7 dc8 dc9 dc10 dc11 dc12 pm0 pm1 pm2 pm3 pm4 pm5 pm6 pm7 pm8 pm9 pm10 pm11 pm12 cd0 cd1 cd2 cd3 cd4 cd5 cd6 cd7 cd8 cd9 cd10 cd11 cd12 ct0 ct1 ct2 ct3 ct4 ct5 ct6 ct7 ct8 ct9 ct10 ct11 ct12 : Value}
    (a0 : PySem.W.nsIn K mainGlobals "points_until" = some (some (.ref f0))) (l0 : K.lookup f0 = some ⟨oc0, od0, .func (PySem.W.fnOf "points_until" "points_until" (defArgs s_points_until) (defBody s_points_until) (defScope s_points_until) .none kV0 dc0 pm0 an0 cd0 ct0), sl0⟩) (c0 : PySem.W.codeIn K cd0 "points_until" = true) (k0 : PySem.W.keepIn K (.ref f0) = true)
    (a1 : PySem.W.nsIn K mainGlobals "is_in" = some (some (.ref f1))) (l1 : K.lookup f1 = some ⟨oc1, od1, .func (PySem.W.fnOf "is_in" "is_in" (defArgs s_is_in) (defBody s_is_in) (defScope s_is_in) .none kV1 dc1 pm1 an1 cd1 ct1), sl1⟩) (c1 : PySem.W.codeIn K cd1 "is_in" = true) (k1 : PySem.W.keepIn K (.ref f1) = true)
    (a2 : PySem.W.nsIn K mainGlobals "join" = some (some (.ref f2))) (l2 : K.lookup f2 = some ⟨oc2, od2, .func (PySem.W.fnOf "join" "join" (defArgs s_join) (defBody s_join) (defScope s_join) .none kV2 dc2 pm2 an2 cd2 ct2), sl2⟩) (c2 : PySem.W.codeIn K cd2 "join" = true) (k2 : PySem.W.keepIn K (.ref f2) = true)
    (a3 : PySem.W.nsIn K mainGlobals "meet" = some (some (.ref f3))) (l3 : K.lookup f3 = some ⟨oc3, od3, .func (PySem.W.fnOf "meet" "meet" (defArgs s_meet) (defBody s_meet) (defScope s_meet) .none kV3 dc3 pm3 an3 cd3 ct3), sl3⟩) (c3 : PySem.W.codeIn K cd3 "meet" = true) (k3 : PySem.W.keepIn K (.ref f3) = true)
    (a4 : PySem.W.nsIn K mainGlobals "rest" = some (some (.ref f4))) (l4 : K.lookup f4 = some ⟨oc4, od4, .func (PySem.W.fnOf "rest" "rest" (defArgs s_rest) (defBody s_rest) (defScope s_rest) .none kV4 dc4 pm4 an4 cd4 ct4), sl4⟩) (c4 : PySem.W.codeIn K cd4 "rest" = true) (k4 : PySem.W.keepIn K (.ref f4) = true)
    (a5 : PySem.W.nsIn K mainGlobals "_law_cell" = some (some (.ref f5))) (l5 : K.lookup f5 = some ⟨oc5, od5, .func (PySem.W.fnOf "_law_cell" "_law_cell" (defArgs s__law_cell) (defBody s__law_cell) (defScope s__law_cell) .none kV5 dc5 pm5 an5 cd5 ct5), sl5⟩) (c5 : PySem.W.codeIn K cd5 "_law_cell" = true) (k5 : PySem.W.keepIn K (.ref f5) = true)
    (a6 : PySem.W.nsIn K mainGlobals "_law_digits" = some (some (.ref f6))) (l6 : K.lookup f6 = some ⟨oc6, od6, .func (PySem.W.fnOf "_law_digits" "_law_digits" (defArgs s__law_digits) (defBody s__law_digits) (defScope s__law_digits) .none kV6 dc6 pm6 an6 cd6 ct6), sl6⟩) (c6 : PySem.W.codeIn K cd6 "_law_digits" = true) (k6 : PySem.W.keepIn K (.ref f6) = true)
    (a7 : PySem.W.nsIn K mainGlobals "_law_draw" = some (some (.ref f7))) (l7 : K.lookup f7 = some ⟨oc7, od7, .func (PySem.W.fnOf "_law_draw" "_law_draw" (defArgs s__law_draw) (defBody s__law_draw) (defScope s__law_draw) .none kV7 dc7 pm7 an7 cd7 ct7), sl7⟩) (c7 : PySem.W.codeIn K cd7 "_law_draw" = true) (k7 : PySem.W.keepIn K (.ref f7) = true)
    (a8 : PySem.W.nsIn K mainGlobals "_law_same" = some (some (.ref f8))) (l8 : K.lookup f8 = some ⟨oc8, od8, .func (PySem.W.fnOf "_law_same" "_law_same" (defArgs s__law_same) (defBody s__law_same) (defScope s__law_same) .none kV8 dc8 pm8 an8 cd8 ct8), sl8⟩) (c8 : PySem.W.codeIn K cd8 "_law_same" = true) (k8 : PySem.W.keepIn K (.ref f8) = true)
    (a9 : PySem.W.nsIn K mainGlobals "_law_timeline" = some (some (.ref f9))) (l9 : K.lookup f9 = some ⟨oc9, od9, .func (PySem.W.fnOf "_law_timeline" "_law_timeline" (defArgs s__law_timeline) (defBody s__law_timeline) (defScope s__law_timeline) .none kV9 dc9 pm9 an9 cd9 ct9), sl9⟩) (c9 : PySem.W.codeIn K cd9 "_law_timeline" = true) (k9 : PySem.W.keepIn K (.ref f9) = true)
    (a10 : PySem.W.nsIn K mainGlobals "_law_is_in" = some (some (.ref f10))) (l10 : K.lookup f10 = some ⟨oc10, od10, .func (PySem.W.fnOf "_law_is_in" "_law_is_in" (defArgs s__law_is_in) (defBody s__law_is_in) (defScope s__law_is_in) .none kV10 dc10 pm10 an10 cd10 ct10), sl10⟩) (c10 : PySem.W.codeIn K cd10 "_law_is_in" = true) (k10 : PySem.W.keepIn K (.ref f10) = true)
    (a11 : PySem.W.nsIn K mainGlobals "_law_rises" = some (some (.ref f11))) (l11 : K.lookup f11 = some ⟨oc11, od11, .func (PySem.W.fnOf "_law_rises" "_law_rises" (defArgs s__law_rises) (defBody s__law_rises) (defScope s__law_rises) .none kV11 dc11 pm11 an11 cd11 ct11), sl11⟩) (c11 : PySem.W.codeIn K cd11 "_law_rises" = true) (k11 : PySem.W.keepIn K (.ref f11) = true)
    (a12 : PySem.W.nsIn K mainGlobals "law" = some (some (.ref f12))) (l12 : K.lookup f12 = some ⟨oc12, od12, .func (PySem.W.fnOf "law" "law" (defArgs s_law) (defBody s_law) (defScope s_law) .none kV12 dc12 pm12 an12 cd12 ct12), sl12⟩) (c12 : PySem.W.codeIn K cd12 "law" = true) (k12 : PySem.W.keepIn K (.ref f12) = true)
    (z0 : PySem.W.nsIn K mainGlobals "bool" = some none)
    (z1 : PySem.W.nsIn K mainGlobals "int" = some none)
    (z2 : PySem.W.nsIn K mainGlobals "isinstance" = some none)
    (z3 : PySem.W.nsIn K mainGlobals "len" = some none)
    (z4 : PySem.W.nsIn K mainGlobals "list" = some none)
    (z5 : PySem.W.nsIn K mainGlobals "range" = some none)
    (z6 : PySem.W.nsIn K mainGlobals "set" = some none)
    (z7 : PySem.W.nsIn K mainGlobals "sorted" = some none)
    (z8 : PySem.W.nsIn K mainGlobals "str" = some none)
    (z9 : PySem.W.nsIn K mainGlobals "tuple" = some none)
    : ∃ fd : FuncData, (∀ (s : Shared) (v : Value), BindsTo s fd ⟨[v], []⟩ [("script", v)]) ∧ ∀ base : Heap, K.In base → base.Ns mainGlobals mg → FnOk l.prog w K mg base CX0 5 fa fd ["script"] (ySpLaw K) := by
  have e := hfa.symm.trans (PySem.W.mg_of X G a12)
  cases e
  have F0 := fun_mk (st := s_points_until) l0 c0 k0
  have F1 := fun_mk (st := s_is_in) l1 c1 k1
  have F2 := fun_mk (st := s_join) l2 c2 k2
  have F3 := fun_mk (st := s_meet) l3 c3 k3
  have F4 := fun_mk (st := s_rest) l4 c4 k4
  have F5 := fun_mk (st := s__law_cell) l5 c5 k5
  have F6 := fun_mk (st := s__law_digits) l6 c6 k6
  have F7 := fun_mk (st := s__law_draw) l7 c7 k7
  have F8 := fun_mk (st := s__law_same) l8 c8 k8
  have F9 := fun_mk (st := s__law_timeline) l9 c9 k9
  have F10 := fun_mk (st := s__law_is_in) l10 c10 k10
  have F11 := fun_mk (st := s__law_rises) l11 c11 k11
  have F12 := fun_mk (st := s_law) l12 c12 k12
  have b0 := F0.binds (ps := ["timeline", "time"]) fun _ _ _ _ _ _ us hl => match us, hl with | [_, _], _ => rfl
  have b1 := F1.binds (ps := ["timeline", "time"]) fun _ _ _ _ _ _ us hl => match us, hl with | [_, _], _ => rfl
  have b2 := F2.binds (ps := ["one", "other"]) fun _ _ _ _ _ _ us hl => match us, hl with | [_, _], _ => rfl
  have b3 := F3.binds (ps := ["one", "other"]) fun _ _ _ _ _ _ us hl => match us, hl with | [_, _], _ => rfl
  have b4 := F4.binds (ps := ["timeline"]) fun _ _ _ _ _ _ us hl => match us, hl with | [_], _ => rfl
  have b5 := F5.binds (ps := ["script", "k"]) fun _ _ _ _ _ _ us hl => match us, hl with | [_, _], _ => rfl
  have b6 := F6.binds (ps := ["script", "first", "last"]) fun _ _ _ _ _ _ us hl => match us, hl with | [_, _, _], _ => rfl
  have b7 := F7.binds (ps := ["box", "many"]) fun _ _ _ _ _ _ us hl => match us, hl with | [_, _], _ => rfl
  have b8 := F8.binds (ps := ["actual", "due"]) fun _ _ _ _ _ _ us hl => match us, hl with | [_, _], _ => rfl
  have b9 := F9.binds (ps := ["box", "most"]) fun _ _ _ _ _ _ us hl => match us, hl with | [_, _], _ => rfl
  have b10 := F10.binds (ps := ["timeline", "time"]) fun _ _ _ _ _ _ us hl => match us, hl with | [_, _], _ => rfl
  have b11 := F11.binds (ps := ["timeline"]) fun _ _ _ _ _ _ us hl => match us, hl with | [_], _ => rfl
  have b12 := F12.binds (ps := ["script"]) fun _ _ _ _ _ _ us hl => match us, hl with | [_], _ => rfl
  let AA : Nat → Addr := fun i => match i with | 0 => f0 | 1 => f1 | 2 => f2 | 3 => f3 | 4 => f4 | 5 => f5 | 6 => f6 | 7 => f7 | 8 => f8 | 9 => f9 | 10 => f10 | 11 => f11 | 12 => fa | _ => fa
  let DD : Nat → FuncData := fun i => match i with | 0 => PySem.W.fnOf "points_until" "points_until" (defArgs s_points_until) (defBody s_points_until) (defScope s_points_until) .none kV0 dc0 pm0 an0 cd0 ct0 | 1 => PySem.W.fnOf "is_in" "is_in" (defArgs s_is_in) (defBody s_is_in) (defScope s_is_in) .none kV1 dc1 pm1 an1 cd1 ct1 | 2 => PySem.W.fnOf "join" "join" (defArgs s_join) (defBody s_join) (defScope s_join) .none kV2 dc2 pm2 an2 cd2 ct2 | 3 => PySem.W.fnOf "meet" "meet" (defArgs s_meet) (defBody s_meet) (defScope s_meet) .none kV3 dc3 pm3 an3 cd3 ct3 | 4 => PySem.W.fnOf "rest" "rest" (defArgs s_rest) (defBody s_rest) (defScope s_rest) .none kV4 dc4 pm4 an4 cd4 ct4 | 5 => PySem.W.fnOf "_law_cell" "_law_cell" (defArgs s__law_cell) (defBody s__law_cell) (defScope s__law_cell) .none kV5 dc5 pm5 an5 cd5 ct5 | 6 => PySem.W.fnOf "_law_digits" "_law_digits" (defArgs s__law_digits) (defBody s__law_digits) (defScope s__law_digits) .none kV6 dc6 pm6 an6 cd6 ct6 | 7 => PySem.W.fnOf "_law_draw" "_law_draw" (defArgs s__law_draw) (defBody s__law_draw) (defScope s__law_draw) .none kV7 dc7 pm7 an7 cd7 ct7 | 8 => PySem.W.fnOf "_law_same" "_law_same" (defArgs s__law_same) (defBody s__law_same) (defScope s__law_same) .none kV8 dc8 pm8 an8 cd8 ct8 | 9 => PySem.W.fnOf "_law_timeline" "_law_timeline" (defArgs s__law_timeline) (defBody s__law_timeline) (defScope s__law_timeline) .none kV9 dc9 pm9 an9 cd9 ct9 | 10 => PySem.W.fnOf "_law_is_in" "_law_is_in" (defArgs s__law_is_in) (defBody s__law_is_in) (defScope s__law_is_in) .none kV10 dc10 pm10 an10 cd10 ct10 | 11 => PySem.W.fnOf "_law_rises" "_law_rises" (defArgs s__law_rises) (defBody s__law_rises) (defScope s__law_rises) .none kV11 dc11 pm11 an11 cd11 ct11 | 12 => PySem.W.fnOf "law" "law" (defArgs s_law) (defBody s_law) (defScope s_law) .none kV12 dc12 pm12 an12 cd12 ct12 | _ => PySem.W.fnOf "law" "law" (defArgs s_law) (defBody s_law) (defScope s_law) .none kV12 dc12 pm12 an12 cd12 ct12
  have T : Txt K mg AA DD := { F_points_until := F0, b_points_until := b0, m_points_until := PySem.W.mg_of X G a0, F_is_in := F1, b_is_in := b1, m_is_in := PySem.W.mg_of X G a1, F_join := F2, b_join := b2, m_join := PySem.W.mg_of X G a2, F_meet := F3, b_meet := b3, m_meet := PySem.W.mg_of X G a3, F_rest := F4, b_rest := b4, m_rest := PySem.W.mg_of X G a4, F__law_cell := F5, b__law_cell := b5, m__law_cell := PySem.W.mg_of X G a5, F__law_digits := F6, b__law_digits := b6, m__law_digits := PySem.W.mg_of X G a6, F__law_draw := F7, b__law_draw := b7, m__law_draw := PySem.W.mg_of X G a7, F__law_same := F8, b__law_same := b8, m__law_same := PySem.W.mg_of X G a8, F__law_timeline := F9, b__law_timeline := b9, m__law_timeline := PySem.W.mg_of X G a9, F__law_is_in := F10, b__law_is_in := b10, m__law_is_in := PySem.W.mg_of X G a10, F__law_rises := F11, b__law_rises := b11, m__law_rises := PySem.W.mg_of X G a11, F_law := F12, b_law := b12, m_law := PySem.W.mg_of X G a12, z_bool := PySem.W.mg_none_of X G z0, z_int := PySem.W.mg_none_of X G z1, z_isinstance := PySem.W.mg_none_of X G z2, z_len := PySem.W.mg_none_of X G z3, z_list := PySem.W.mg_none_of X G z4, z_range := PySem.W.mg_none_of X G z5, z_set := PySem.W.mg_none_of X G z6, z_sorted := PySem.W.mg_none_of X G z7, z_str := PySem.W.mg_none_of X G z8, z_tuple := PySem.W.mg_none_of X G z9 }
  exact ⟨DD 12, fun s v => .of_eq rfl, fun base _ _ => ok_law (A := AA) (D := DD) T⟩
theorem walk {l : PySem.W.OpenLaw} {q : Program} {loose : List Str} {XP : (Str → Option Value) → Heap → Prop} {YP : World → Heap → Prop} {d : DefRec} {K : Params → PySem.W.Frag} (hn : l.most = some 63) (hdf : d.params.defaults = [])
    (hY : ∀ (w : World) (h : Heap), YP w h → (K w.params).In h)
    (F : ∀ (w : World) (mg : Str → Option Value) (fa : Addr) (h : Heap), (K w.params).In h → h.Ns mainGlobals mg → mg d.name = some (.ref fa) →
      ∃ fd : FuncData, (∀ (s : Shared) (u : Value), BindsTo s fd ⟨[u], []⟩ [("script", u)]) ∧ ∀ base : Heap, (K w.params).In base → base.Ns mainGlobals mg → FnOk l.prog w (K w.params) mg base CX0 5 fa fd ["script"] (ySpLaw (K w.params))) :
    PySem.W.WalkO q loose XP YP l.row.toRowW d [] (fun f vs => PySem.call f vs) :=
  L2.walk_of (n := 63) (k := 5) (x := "script") (CX := fun _ => CX0) (sp := fun w => ySpLaw (K w.params)) hn (by decide) hdf ⟨rfl, by decide, by decide⟩ hY F (fun _ _ a ns hl _ hS => ⟨a, ns, rfl, hS, hl, fun _ => rfl⟩) fun _ _ _ _ _ z => z
end Z
open PySem PySem.W PyProof.Rows
set_option maxRecDepth 100000 in
set_option maxHeartbeats 0 in
theorem PySem.Challenge.cw_timeshelf_k01_sets_of_times_holds : PySem.Challenge.rw_timeshelf_k01_sets_of_times.Holds := by
  w_on; o_law; k_head; (case hw => w_witness2)
  k_fill
  refine Z.walk (l := PySem.Challenge.rw_timeshelf_k01_sets_of_times) rfl rfl (fun w h Y => PySem.W.kIn_of Y) ?F
  case F =>
    intro w mg fa h KX G hmg
    refine' Z.all_mk KX G hmg ?a0 ?l0 ?c0 ?k0 ?a1 ?l1 ?c1 ?k1 ?a2 ?l2 ?c2 ?k2 ?a3 ?l3 ?c3 ?k3 ?a4 ?l4 ?c4 ?k4 ?a5 ?l5 ?c5 ?k5 ?a6 ?l6 ?c6 ?k6 ?a7 ?l7 ?c7 ?k7 ?a8 ?l8 ?c8 ?k8 ?a9 ?l9 ?c9 ?k9 ?a10 ?l10 ?c10 ?k10 ?a11 ?l11 ?c11 ?k11 ?a12 ?l12 ?c12 ?k12 ?z0 ?z1 ?z2 ?z3 ?z4 ?z5 ?z6 ?z7 ?z8 ?z9
    (case a0 => first | k_is | rfl | decide +kernel)
    (case l0 => first | k_is | rfl | decide +kernel)
    (case c0 => first | k_is | rfl | decide +kernel)
    (case k0 => first | k_is | rfl | decide +kernel)
    (case a1 => first | k_is | rfl | decide +kernel)
    (case l1 => first | k_is | rfl | decide +kernel)
    (case c1 => first | k_is | rfl | decide +kernel)
    (case k1 => first | k_is | rfl | decide +kernel)
    (case a2 => first | k_is | rfl | decide +kernel)
    (case l2 => first | k_is | rfl | decide +kernel)
    (case c2 => first | k_is | rfl | decide +kernel)
    (case k2 => first | k_is | rfl | decide +kernel)
    (case a3 => first | k_is | rfl | decide +kernel)
    (case l3 => first | k_is | rfl | decide +kernel)
    (case c3 => first | k_is | rfl | decide +kernel)
    (case k3 => first | k_is | rfl | decide +kernel)
    (case a4 => first | k_is | rfl | decide +kernel)
    (case l4 => first | k_is | rfl | decide +kernel)
    (case c4 => first | k_is | rfl | decide +kernel)
    (case k4 => first | k_is | rfl | decide +kernel)
    (case a5 => first | k_is | rfl | decide +kernel)
    (case l5 => first | k_is | rfl | decide +kernel)
    (case c5 => first | k_is | rfl | decide +kernel)
    (case k5 => first | k_is | rfl | decide +kernel)
    (case a6 => first | k_is | rfl | decide +kernel)
    (case l6 => first | k_is | rfl | decide +kernel)
    (case c6 => first | k_is | rfl | decide +kernel)
    (case k6 => first | k_is | rfl | decide +kernel)
    (case a7 => first | k_is | rfl | decide +kernel)
    (case l7 => first | k_is | rfl | decide +kernel)
    (case c7 => first | k_is | rfl | decide +kernel)
    (case k7 => first | k_is | rfl | decide +kernel)
    (case a8 => first | k_is | rfl | decide +kernel)
    (case l8 => first | k_is | rfl | decide +kernel)
    (case c8 => first | k_is | rfl | decide +kernel)
    (case k8 => first | k_is | rfl | decide +kernel)
    (case a9 => first | k_is | rfl | decide +kernel)
    (case l9 => first | k_is | rfl | decide +kernel)
    (case c9 => first | k_is | rfl | decide +kernel)
    (case k9 => first | k_is | rfl | decide +kernel)
    (case a10 => first | k_is | rfl | decide +kernel)
    (case l10 => first | k_is | rfl | decide +kernel)
    (case c10 => first | k_is | rfl | decide +kernel)
    (case k10 => first | k_is | rfl | decide +kernel)
    (case a11 => first | k_is | rfl | decide +kernel)
    (case l11 => first | k_is | rfl | decide +kernel)
    (case c11 => first | k_is | rfl | decide +kernel)
    (case k11 => first | k_is | rfl | decide +kernel)
    (case a12 => first | k_is | rfl | decide +kernel)
    (case l12 => first | k_is | rfl | decide +kernel)
    (case c12 => first | k_is | rfl | decide +kernel)
    (case k12 => first | k_is | rfl | decide +kernel)
    (case z0 => first | k_is | rfl | decide +kernel)
    (case z1 => first | k_is | rfl | decide +kernel)
    (case z2 => first | k_is | rfl | decide +kernel)
    (case z3 => first | k_is | rfl | decide +kernel)
    (case z4 => first | k_is | rfl | decide +kernel)
    (case z5 => first | k_is | rfl | decide +kernel)
    (case z6 => first | k_is | rfl | decide +kernel)
    (case z7 => first | k_is | rfl | decide +kernel)
    (case z8 => first | k_is | rfl | decide +kernel)
    (case z9 => first | k_is | rfl | decide +kernel)
