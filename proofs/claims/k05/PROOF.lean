import PyProof.Rows.All
import Wide.All
import OpenK.AllK
import Wide.FinOn
import HandS.ForMost
import HandS.IsInst
import HandS.Walk
import PySem.Challenge.RW_timeshelf_k05_tokens_of_questions
set_option Elab.async false
set_option linter.all false
set_option maxRecDepth 100000
set_option maxHeartbeats 2000000
namespace Z
open PySem L2
def top (i : Nat) : Stmt := PySem.Challenge.pw_timeshelf_k05_tokens_of_questions.main.body.getD i (.Pass ⟨0, 0, 0, 0⟩)
abbrev s_tokens : Stmt := top 4
abbrev N_tokens : List Str := ["text"]
theorem sc_tokens : FnScope ["text"] ["text"] (defScope s_tokens) := ⟨rfl, rfl, rfl, by decide +kernel, rfl, by decide +kernel, by decide +kernel⟩
abbrev s_tokens_of : Stmt := top 5
abbrev N_tokens_of : List Str := ["text", "found", "at", "token"]
theorem sc_tokens_of : FnScope ["text", "found", "at", "token"] ["text"] (defScope s_tokens_of) := ⟨rfl, rfl, rfl, by decide +kernel, rfl, by decide +kernel, by decide +kernel⟩
abbrev s_token_at : Stmt := top 6
abbrev N_token_at : List Str := ["text", "at", "end", "run"]
theorem sc_token_at : FnScope ["text", "at", "end", "run"] ["text", "at"] (defScope s_token_at) := ⟨rfl, rfl, rfl, by decide +kernel, rfl, by decide +kernel, by decide +kernel⟩
abbrev s_end_of_run : Stmt := top 7
abbrev N_end_of_run : List Str := ["text", "at"]
theorem sc_end_of_run : FnScope ["text", "at"] ["text", "at"] (defScope s_end_of_run) := ⟨rfl, rfl, rfl, by decide +kernel, rfl, by decide +kernel, by decide +kernel⟩
abbrev s__law_cell : Stmt := top 9
abbrev N__law_cell : List Str := ["script", "k"]
theorem sc__law_cell : FnScope ["script", "k"] ["script", "k"] (defScope s__law_cell) := ⟨rfl, rfl, rfl, by decide +kernel, rfl, by decide +kernel, by decide +kernel⟩
abbrev s__law_digits : Stmt := top 10
abbrev N__law_digits : List Str := ["script", "first", "last", "digits", "k", "cell", "turn", "seed"]
theorem sc__law_digits : FnScope ["script", "first", "last", "digits", "k", "cell", "turn", "seed"] ["script", "first", "last"] (defScope s__law_digits) := ⟨rfl, rfl, rfl, by decide +kernel, rfl, by decide +kernel, by decide +kernel⟩
abbrev s__law_draw : Stmt := top 11
abbrev N__law_draw : List Str := ["box", "many", "at"]
theorem sc__law_draw : FnScope ["box", "many", "at"] ["box", "many"] (defScope s__law_draw) := ⟨rfl, rfl, rfl, by decide +kernel, rfl, by decide +kernel, by decide +kernel⟩
abbrev s__law_same : Stmt := top 12
abbrev N__law_same : List Str := ["actual", "due", "k"]
theorem sc__law_same : FnScope ["actual", "due", "k"] ["actual", "due"] (defScope s__law_same) := ⟨rfl, rfl, rfl, by decide +kernel, rfl, by decide +kernel, by decide +kernel⟩
abbrev s__law_run : Stmt := top 13
abbrev N__law_run : List Str := ["box", "many", "chars", "text", "k"]
theorem sc__law_run : FnScope ["box", "many", "chars", "text", "k"] ["box", "many", "chars"] (defScope s__law_run) := ⟨rfl, rfl, rfl, by decide +kernel, rfl, by decide +kernel, by decide +kernel⟩
abbrev s__law_laid : Stmt := top 14
abbrev N__law_laid : List Str := ["box", "texts", "letters", "text", "k", "spaces"]
theorem sc__law_laid : FnScope ["box", "texts", "letters", "text", "k", "spaces"] ["box", "texts"] (defScope s__law_laid) := ⟨rfl, rfl, rfl, by decide +kernel, rfl, by decide +kernel, by decide +kernel⟩
abbrev s__law_token : Stmt := top 15
abbrev N__law_token : List Str := ["box", "kind", "word", "sign", "other"]
theorem sc__law_token : FnScope ["box", "kind", "word", "sign", "other"] ["box"] (defScope s__law_token) := ⟨rfl, rfl, rfl, by decide +kernel, rfl, by decide +kernel, by decide +kernel⟩
abbrev s_law : Stmt := top 16
abbrev N_law : List Str := ["script", "k", "token", "box", "drawn", "text"]
theorem sc_law : FnScope ["script", "k", "token", "box", "drawn", "text"] ["script"] (defScope s_law) := ⟨rfl, rfl, rfl, by decide +kernel, rfl, by decide +kernel, by decide +kernel⟩
structure Txt (K : PySem.W.Frag) (mg : Str → Option Value) (A : Nat → Addr) (D : Nat → FuncData) : Prop where
  F_tokens : Fun K "tokens" "tokens" s_tokens (A 0) (D 0)
  b_tokens : Binds K (D 0) ["text"] []
  m_tokens : mg "tokens" = some (.ref (A 0))
  F_tokens_of : Fun K "tokens_of" "tokens_of" s_tokens_of (A 1) (D 1)
  b_tokens_of : Binds K (D 1) ["text"] []
  m_tokens_of : mg "tokens_of" = some (.ref (A 1))
  F_token_at : Fun K "token_at" "token_at" s_token_at (A 2) (D 2)
  b_token_at : Binds K (D 2) ["text", "at"] []
  m_token_at : mg "token_at" = some (.ref (A 2))
  F_end_of_run : Fun K "end_of_run" "end_of_run" s_end_of_run (A 3) (D 3)
  b_end_of_run : Binds K (D 3) ["text", "at"] []
  m_end_of_run : mg "end_of_run" = some (.ref (A 3))
  F__law_cell : Fun K "_law_cell" "_law_cell" s__law_cell (A 4) (D 4)
  b__law_cell : Binds K (D 4) ["script", "k"] []
  m__law_cell : mg "_law_cell" = some (.ref (A 4))
  F__law_digits : Fun K "_law_digits" "_law_digits" s__law_digits (A 5) (D 5)
  b__law_digits : Binds K (D 5) ["script", "first", "last"] []
  m__law_digits : mg "_law_digits" = some (.ref (A 5))
  F__law_draw : Fun K "_law_draw" "_law_draw" s__law_draw (A 6) (D 6)
  b__law_draw : Binds K (D 6) ["box", "many"] []
  m__law_draw : mg "_law_draw" = some (.ref (A 6))
  F__law_same : Fun K "_law_same" "_law_same" s__law_same (A 7) (D 7)
  b__law_same : Binds K (D 7) ["actual", "due"] []
  m__law_same : mg "_law_same" = some (.ref (A 7))
  F__law_run : Fun K "_law_run" "_law_run" s__law_run (A 8) (D 8)
  b__law_run : Binds K (D 8) ["box", "many", "chars"] []
  m__law_run : mg "_law_run" = some (.ref (A 8))
  F__law_laid : Fun K "_law_laid" "_law_laid" s__law_laid (A 9) (D 9)
  b__law_laid : Binds K (D 9) ["box", "texts"] []
  m__law_laid : mg "_law_laid" = some (.ref (A 9))
  F__law_token : Fun K "_law_token" "_law_token" s__law_token (A 10) (D 10)
  b__law_token : Binds K (D 10) ["box"] []
  m__law_token : mg "_law_token" = some (.ref (A 10))
  F_law : Fun K "law" "law" s_law (A 11) (D 11)
  b_law : Binds K (D 11) ["script"] []
  m_law : mg "law" = some (.ref (A 11))
  c_SMALL : ∃ t, mg "SMALL" = some (.str "0123456789abcdefghijklmnopqrstuvwxyz" t)
  c_LONGEST : ∃ t, mg "LONGEST" = some (.int 12 t)
  c_SIGNS : ∃ t, mg "SIGNS" = some (.str "*\"<>()|-@" t)
  z_bool : mg "bool" = none
  z_int : mg "int" = none
  z_isinstance : mg "isinstance" = none
  z_len : mg "len" = none
  z_list : mg "list" = none
  z_max : mg "max" = none
  z_range : mg "range" = none
  z_str : mg "str" = none
  z_tuple : mg "tuple" = none
/-! ### what all laws share: cells, digits, draws -/
theorem same_upd {H H' : Hp} {p : Addr} {o : HO} (h : Same H H') (hp : H p = none) : Same H (upd H' p o) := fun b u q => by
  rw [upd_ne (ne_of_none q hp)]; exact h b u q
theorem same_new {H : Hp} {p : Addr} {o : HO} (h : H p = none) : Same H (upd H p o) := same_upd (Same.refl H) h
def yCell (K : PySem.W.Frag) : Sp := fun vs H Q _ => ∃ (l : Addr) (ns : List Int) (k : Nat), vs = [.ref l, .int (k : Int)] ∧ SqL K H l (ns.map V.int) ∧ ∀ z : Int, Q (.int z) H
theorem at_ints {ns : List Int} {k : Nat} (h : k < ns.length) : atI (ns.map V.int) (k : Int) = some (.int (ns.getD k 0)) := by
  apply atI_nat
  rw [List.getElem?_map, List.getElem?_eq_getElem h, List.getD_eq_getElem?_getD, List.getElem?_eq_getElem h]
  rfl
section
variable {P : Program} {w : World} {K : PySem.W.Frag} {mg : Str → Option Value} {base : Heap} {A : Nat → Addr} {D : Nat → FuncData}
theorem ok_cell (T : Txt K mg A D) : FnOk P w K mg base CX0 1 (A 4) (D 4) ["script", "k"] (yCell K) := by
  refine T.F__law_cell.ok sc__law_cell (fun vs H Q E h => ?_) (fun cdv A' outer s H vs Q E hr h => ?_)
  · obtain ⟨l, ns, k, rfl, _⟩ := h; rfl
  obtain ⟨l, ns, k, rfl, hS, q⟩ := h
  refine ⟨_, (pss_cons (ps_if (pt_cmpR op_lt (pv 1) (pe_callB call_len_seq rfl T.z_len PySem.boot_len (pa_cons (pv 0) pa_nil)) (nomark _)) (pss_one (ps_ret (pe_ix (r := rIxL K) ix_list (pv 0) (pv 1) (fun _ _ => rfl)))) pss_nil) (pss_one (ps_ret pe_int))), ?_⟩
  refine ⟨_, rfl, _, rfl, l, _, rfl, .inl hS, _, _, rfl, rfl, _, rfl, ?_⟩
  refine ite2 (fun c => ?_) (fun c => ?_)
  · have c' : (k : Int) < (((ns.map V.int).length : Nat) : Int) := of_decide_eq_true c
    rw [List.length_map] at c'
    exact ⟨_, rfl, _, rfl, l, _, _, _, rfl, rfl, hS, at_ints (by omega), q _⟩
  · exact q 0
def yDigits (K : PySem.W.Frag) : Sp := fun vs H Q _ => ∃ (l : Addr) (ns : List Int), vs = [.ref l, .int 0, .int 63] ∧ SqL K H l (ns.map V.int) ∧
  ∀ (p : Addr) (ds : List Int) (H' : Hp), Same H H' → H p = none → H' p = some (.lst (ds.map V.int)) → ds.length ≤ 3780 → Q (.ref p) H'
theorem len_lt {n : Nat} (h : n ≤ 1000000) : n < sizeLine := Nat.lt_of_le_of_lt h (by decide)
theorem app_map {ds : List Int} {z : Int} : ds.map V.int ++ [V.int z] = (ds ++ [z]).map V.int := by rw [List.map_append]; rfl
theorem ok_digits (T : Txt K mg A D) : FnOk P w K mg base CX0 2 (A 5) (D 5) ["script", "first", "last"] (yDigits K) := by
  refine T.F__law_digits.ok sc__law_digits (fun vs H Q E h => ?_) (fun cdv A' outer s H vs Q E hr h => ?_)
  · obtain ⟨l, ns, rfl, _⟩ := h; rfl
  obtain ⟨l, ns, rfl, hS, q⟩ := h
  have G__law_cell := ok_cell (P := P) (w := w) (base := base) T
  have hnd := sc__law_digits.nd
  refine ⟨_, (pss_cons (ps_set (i := 3) hnd rfl (Or.inl rfl) (pe_lst pa_nil)) (pss_cons (ps_for PassesOwn.never rfl (pi_range2 rfl T.z_range (pa_cons (pv 1) (pa_cons (pv 2) pa_nil))) (pg_name (i := 4) hnd rfl (Or.inl rfl)) (pss_cons (ps_set (i := 5) hnd rfl (Or.inl rfl) (pe_call G__law_cell (hr.mono (by first | decide | omega)) rfl T.m__law_cell T.F__law_cell.kp T.b__law_cell .nil pass0 (pa_cons (pv 0) (pa_cons (pv 4) pa_nil)))) (pss_cons (ps_if (pt_cmpR op_lt (pv 5) pe_int (nomark _)) (pss_one (ps_set (i := 5) hnd rfl (Or.inl rfl) (pe_op op_sub pe_int (pe_op op_mul pe_int (pv 5))))) pss_nil) (pss_one (ps_if (pt_cmpR op_ge (pv 5) (pe_op op_pow pe_int pe_int) (nomark _)) (pss_one (ps_for PassesOwn.never rfl (pi_range1 rfl T.z_range (pa_cons pe_int pa_nil)) (pg_name (i := 6) hnd rfl (Or.inl rfl)) (pss_one (ps_if (pt_cmpR op_gt (pv 5) pe_int (nomark _)) (pss_cons (ps_expr (pe_bm PySem.F.plainAttrs_list PySem.F.slot_list_append PySem.F.type_list_append mt_append (pv 3) (pa_cons (pe_op op_mod (pe_callTy call_int1 rfl T.z_int (by decide +kernel) (pa_cons (pv 5) pa_nil)) pe_int) pa_nil))) (pss_one (ps_set (i := 5) hnd rfl (Or.inl rfl) (pe_op op_fdiv (pv 5) pe_int)))) pss_nil)))) (pss_cons (ps_set (i := 7) hnd rfl (Or.inl rfl) (pe_op op_mod (pe_callTy call_int1 rfl T.z_int (by decide +kernel) (pa_cons (pe_op op_add (pe_op op_add (pe_op op_mul (pv 5) pe_int) (pe_op op_mul (pv 4) pe_int)) pe_int) pa_nil)) pe_int)) (pss_one (ps_for PassesOwn.never rfl (pi_range1 rfl T.z_range (pa_cons pe_int pa_nil)) (pg_name (i := 6) hnd rfl (Or.inl rfl)) (pss_cons (ps_set (i := 7) hnd rfl (Or.inl rfl) (pe_op op_mod (pe_callTy call_int1 rfl T.z_int (by decide +kernel) (pa_cons (pe_op op_add (pe_op op_add (pe_op op_mul (pv 7) pe_int) (pe_op op_mul pe_int (pv 6))) pe_int) pa_nil)) pe_int)) (pss_one (ps_expr (pe_bm PySem.F.plainAttrs_list PySem.F.slot_list_append PySem.F.type_list_append mt_append (pv 3) (pa_cons (pe_op op_mod (pe_callTy call_int1 rfl T.z_int (by decide +kernel) (pa_cons (pe_op op_fdiv (pv 7) pe_int) pa_nil)) pe_int) pa_nil))))))))))))) (pss_one (ps_ret (pv 3))))), ?_⟩
  refine ⟨(by decide), fun p hp => ?_⟩
  have sH := fun o => same_new (o := o) hp
  refine ⟨_, rfl, _, rfl, (0 : Int), (63 : Int), rfl, (by decide), ?_⟩
  refine for_range (lo := 0) (n := 63) (fun i σ H' => ∃ (ds : List Int) (c4 c5 c6 c7 : Option V), σ = [some (.ref l), some (.int 0), some (.int 63), some (.ref p), c4, c5, c6, c7] ∧ Same H H' ∧ H' p = some (.lst (ds.map V.int)) ∧ ds.length ≤ 60 * i)
    ⟨[], none, none, none, none, rfl, sH _, upd_same, Nat.zero_le _⟩ ?_ ?_
  · rintro i σ H1 hi ⟨ds, c4, c5, c6, c7, rfl, s1, hd, hl⟩
    refine ⟨_, rfl, _, rfl, l, ns, i, (by rw [Int.zero_add]; rfl), s1.seq hS, fun z => ?_⟩
    refine ⟨_, rfl, _, _, rfl, rfl, _, rfl, ?_⟩
    refine ite2 (fun c => ?_) (fun c => ?_)
    refine ⟨_, rfl, _, _, rfl, rfl, .inl ⟨by decide, by decide⟩, _, _, rfl, rfl, ?_⟩
    all_goals
      refine ⟨_, rfl, _, _, rfl, rfl, ⟨by decide, by decide, by decide⟩, _, _, rfl, rfl, _, rfl, ?_⟩
      refine ite2 (fun _ => ?_) (fun _ => ?_)
      · refine ⟨_, rfl, by decide, by decide, for_range (n := 60) (fun t σ H' => ∃ (ds : List Int) (c : Int) (c6 : Option V), σ = [some (.ref l), some (.int 0), some (.int 63), some (.ref p), some (.int (0 + (i : Int))), some (.int c), c6, c7] ∧ Same H H' ∧ H' p = some (.lst (ds.map V.int)) ∧ ds.length ≤ 60 * i + t)
          ⟨ds, _, c6, rfl, s1, hd, by omega⟩ ?_ ?_⟩
        · rintro t σ H2 ht ⟨ds2, c, c6, rfl, s2, hd2, hl2⟩
          refine ⟨_, rfl, _, _, rfl, rfl, _, rfl, ?_⟩
          refine ite2 (fun _ => ?_) (fun _ => ?_)
          · refine ⟨_, rfl, .inl ⟨rfl, _, SqL.of hd2⟩, _, rfl, .inl ⟨_, rfl, _, _, rfl, rfl, (by show (0 : Int) < _; decide), _, _, _, rfl, rfl, hd2, (by rw [List.length_map]; exact len_lt (by omega)), ?_⟩⟩
            refine ⟨_, rfl, _, _, rfl, rfl, ⟨by decide, by decide⟩, ?_⟩
            exact ⟨_, _, _, rfl, same_upd s2 hp, by rw [upd_same, app_map], by rw [List.length_append]; simp only [List.length_singleton]; omega⟩
          · exact ⟨_, _, _, rfl, s2, hd2, by omega⟩
        · rintro σ H2 ⟨ds2, c, c6, rfl, s2, hd2, hl2⟩
          exact ⟨_, _, _, _, _, rfl, s2, hd2, by omega⟩
      · refine ⟨_, rfl, _, _, rfl, rfl, .inr ⟨by decide, by decide⟩, _, rfl, _, _, rfl, rfl, .inr ⟨by decide, by decide⟩, _, _, rfl, rfl, _, _, rfl, rfl, .inl ⟨_, rfl, _, _, rfl, rfl, (by show (0 : Int) < _; decide), ?_⟩⟩
        refine ⟨_, rfl, by decide, by decide, for_range (n := 12) (fun t σ H' => ∃ (ds : List Int) (c : Int) (c5 c6 : Option V), σ = [some (.ref l), some (.int 0), some (.int 63), some (.ref p), some (.int (0 + (i : Int))), c5, c6, some (.int c)] ∧ Same H H' ∧ H' p = some (.lst (ds.map V.int)) ∧ ds.length ≤ 60 * i + t)
          ⟨ds, _, _, _, rfl, s1, hd, by omega⟩ ?_ ?_⟩
        · rintro t σ H2 ht ⟨ds2, c, c5, c6, rfl, s2, hd2, hl2⟩
          refine ⟨_, rfl, _, _, rfl, rfl, .inr ⟨by decide, by decide⟩, _, rfl, _, _, rfl, rfl, .inl ⟨by decide, by decide⟩, _, _, rfl, rfl, _, _, rfl, rfl, .inl ⟨_, rfl, _, _, rfl, rfl, (by show (0 : Int) < _; decide), ?_⟩⟩
          refine ⟨_, rfl, .inl ⟨rfl, _, SqL.of hd2⟩, _, rfl, _, _, rfl, rfl, ⟨by decide, by decide⟩, .inl ⟨_, rfl, _, _, rfl, rfl, (by show (0 : Int) < _; decide), _, _, _, rfl, rfl, hd2, (by rw [List.length_map]; exact len_lt (by omega)), ?_⟩⟩
          exact ⟨_, _, _, _, rfl, same_upd s2 hp, by rw [upd_same, app_map], by rw [List.length_append]; simp only [List.length_singleton]; omega⟩
        · rintro σ H2 ⟨ds2, c, c5, c6, rfl, s2, hd2, hl2⟩
          exact ⟨_, _, _, _, _, rfl, s2, hd2, by omega⟩
  · rintro σ H1 ⟨ds, c4, c5, c6, c7, rfl, s1, hd, hl⟩
    exact ⟨_, rfl, q p ds H1 s1 hp hd (by omega)⟩
end

/-- all but the object at b stand as before -/
def Kp (b : Addr) (H H' : Hp) : Prop := ∀ c o, H c = some o → c ≠ b → H' c = some o
theorem Kp.refl (b : Addr) (H : Hp) : Kp b H H := fun _ _ h _ => h
theorem Kp.trans {b : Addr} {H H1 H2 : Hp} (a : Kp b H H1) (c : Kp b H1 H2) : Kp b H H2 := fun x o h n => c x o (a x o h n) n
theorem Kp.upd {b : Addr} {H H' : Hp} {o : HO} (a : Kp b H H') : Kp b H (upd H' b o) := fun x u h n => by rw [upd_ne n]; exact a x u h n
theorem Kp.of {b : Addr} {H H' : Hp} (a : Same H H') : Kp b H H' := fun x o h _ => a x o h
/-- the box of draws: its digits at p, the place -/
def BoxAt (H : Hp) (b p : Addr) : Prop := ∃ (ns : List Int) (n : Nat), H b = some (.lst [.ref p, .int (n : Int)]) ∧ H p = some (.lst (ns.map V.int))
theorem BoxAt.keep {H H' : Hp} {b p : Addr} (h : BoxAt H b p) (k : Same H H') : BoxAt H' b p := by
  obtain ⟨ns, n, h1, h2⟩ := h
  exact ⟨ns, n, k _ _ h1, k _ _ h2⟩
theorem BoxAt.ne {H : Hp} {b p d : Addr} (h : BoxAt H b p) (hd : H d = none) : d ≠ b ∧ d ≠ p := by
  obtain ⟨ns, n, h1, h2⟩ := h
  exact ⟨fun e => (by rw [e, h1] at hd; cases hd), fun e => (by rw [e, h2] at hd; cases hd)⟩
theorem BoxAt.updO {H : Hp} {b p d : Addr} {o : HO} (h : BoxAt H b p) (n1 : d ≠ b) (n2 : d ≠ p) : BoxAt (upd H d o) b p := by
  obtain ⟨ns, n, h1, h2⟩ := h
  exact ⟨ns, n, by rw [upd_ne n1.symm]; exact h1, by rw [upd_ne n2.symm]; exact h2⟩
/-- tuples stand as before -/
def TK (H H' : Hp) : Prop := ∀ c u, (∃ xs, u = .tup xs) → Rd H c u → Rd H' c u
theorem TK.refl (H : Hp) : TK H H := fun _ _ _ h => h
theorem TK.trans {H H1 H2 : Hp} (a : TK H H1) (b : TK H1 H2) : TK H H2 := fun c u h r => b c u h (a c u h r)
theorem TK.same {H H' : Hp} (a : Same H H') : TK H H' := fun c u _ r => by
  rcases r with r | ⟨o, r⟩
  · exact .inl (a _ _ r)
  · exact .inr ⟨o, a _ _ r⟩
theorem TK.kp {b : Addr} {H H' : Hp} {xs : List V} (a : Kp b H H') (h : H b = some (.lst xs)) : TK H H' := fun c u ⟨ys, e⟩ r => by
  subst e
  have hn : c ≠ b := fun z => by subst z; rcases r with r | ⟨o, r⟩ <;> (rw [h] at r; cases r)
  rcases r with r | ⟨o, r⟩
  · exact .inl (a _ _ r hn)
  · exact .inr ⟨o, a _ _ r hn⟩
theorem TK.box {b p : Addr} {H H' : Hp} (h : BoxAt H b p) (a : Kp b H H') : TK H H' := by
  obtain ⟨ns, n, h1, h2⟩ := h
  exact TK.kp a h1
theorem TK.updL {H H' : Hp} {b : Addr} {xs ys : List V} (a : TK H H') (h : H' b = some (.lst xs)) : TK H (upd H' b (.lst ys)) :=
  a.trans (TK.kp (Kp.upd (Kp.refl b H')) h)
theorem TK.new {H H' : Hp} {b : Addr} {o : HO} (a : TK H H') (h : H' b = none) : TK H (upd H' b o) := a.trans (TK.same (same_new h))
theorem TK.seq {K : PySem.W.Frag} {H H' : Hp} (k : TK H H') {a : Addr} {xs : List V} (h : SqT K H a xs) : SqT K H' a xs := by
  rcases h with h | h
  · exact .inl (k _ _ ⟨_, rfl⟩ h)
  · exact .inr h
/-- data without lists -/
inductive Imm : PyData → Prop
  | non : Imm .none
  | bl (b : Bool) : Imm (.bool b)
  | int (i : Int) : Imm (.int i)
  | str (x : Str) : Imm (.str x)
  | tup {ds : List PyData} : (∀ d ∈ ds, Imm d) → Imm (.tuple ds)
mutual
theorem Dp.keep {K : PySem.W.Frag} {H H' : Hp} (k : TK H H') : ∀ {v : V} {d : PyData}, Dp K H v d → Imm d → Dp K H' v d
  | _, _, .non, _ => .non
  | _, _, .bl b, _ => .bl b
  | _, _, .int i, _ => .int i
  | _, _, .str x, _ => .str x
  | _, _, .lst h a, i => nomatch i
  | _, _, .tup h a, i => .tup (k.seq h) (DpAll.keep k a (match i with | .tup j => j))
theorem DpAll.keep {K : PySem.W.Frag} {H H' : Hp} (k : TK H H') : ∀ {vs : List V} {ds : List PyData}, DpAll K H vs ds → (∀ d ∈ ds, Imm d) → DpAll K H' vs ds
  | _, _, .nil, _ => .nil
  | _, _, .cons a b, i => .cons (Dp.keep k a (i _ List.mem_cons_self)) (DpAll.keep k b fun d hd => i d (List.mem_cons_of_mem _ hd))
end
mutual
theorem Dp.same {K : PySem.W.Frag} {H H' : Hp} (k : Same H H') : ∀ {v : V} {d : PyData}, Dp K H v d → Dp K H' v d
  | _, _, .non => .non
  | _, _, .bl b => .bl b
  | _, _, .int i => .int i
  | _, _, .str x => .str x
  | _, _, .lst h a => .lst (k.seq h) (DpAll.same k a)
  | _, _, .tup h a => .tup ((TK.same k).seq h) (DpAll.same k a)
theorem DpAll.same {K : PySem.W.Frag} {H H' : Hp} (k : Same H H') : ∀ {vs : List V} {ds : List PyData}, DpAll K H vs ds → DpAll K H' vs ds
  | _, _, .nil => .nil
  | _, _, .cons a b => .cons (Dp.same k a) (DpAll.same k b)
end
theorem DpAll.len {K : PySem.W.Frag} {H : Hp} : ∀ {vs : List V} {ds : List PyData}, DpAll K H vs ds → vs.length = ds.length
  | _, _, .nil => rfl
  | _, _, .cons a b => by rw [List.length_cons, List.length_cons, DpAll.len b]
theorem DpAll.get {K : PySem.W.Frag} {H : Hp} : ∀ {vs : List V} {ds : List PyData}, DpAll K H vs ds → ∀ {i : Nat} {d : PyData}, ds[i]? = some d → ∃ v, vs[i]? = some v ∧ Dp K H v d
  | _, _, .nil, i, d, h => by simp at h
  | _, _, .cons a b, 0, d, h => by
    have e := Option.some.inj h
    subst e
    exact ⟨_, rfl, a⟩
  | _, _, .cons a b, i + 1, d, h => DpAll.get b (i := i) (by simpa using h)
theorem DpAll.app {K : PySem.W.Frag} {H : Hp} : ∀ {vs ws : List V} {ds es : List PyData}, DpAll K H vs ds → DpAll K H ws es → DpAll K H (vs ++ ws) (ds ++ es)
  | _, _, _, _, .nil, h => h
  | _, _, _, _, .cons a b, h => .cons a (DpAll.app b h)
theorem DpAll.ints {K : PySem.W.Frag} {H : Hp} : ∀ (ns : List Int), DpAll K H (ns.map V.int) (ns.map PyData.int)
  | [] => .nil
  | n :: r => .cons (.int n) (DpAll.ints r)
theorem DpAll.strs {K : PySem.W.Frag} {H : Hp} : ∀ (ns : List Str), DpAll K H (ns.map V.str) (ns.map PyData.str)
  | [] => .nil
  | n :: r => .cons (.str n) (DpAll.strs r)
/-- depth below n, lists not too long -/
def Fits : Nat → PyData → Prop
  | 0, _ => False
  | n + 1, .list xs => xs.length < 2 ^ 60 ∧ ∀ x ∈ xs, Fits n x
  | n + 1, .tuple xs => xs.length < 2 ^ 60 ∧ ∀ x ∈ xs, Fits n x
  | _ + 1, .dict _ => False
  | _ + 1, _ => True
theorem ty_l {K : PySem.W.Frag} {H : Hp} {a : Addr} {xs : List V} (h : SqL K H a xs) : TyX K H (.ref a) (.type "list") := by
  rcases h with (h | ⟨o, h⟩) | ⟨o, its, n, h1, h2, _⟩
  · exact .base (.lst h)
  · exact .base (.frz h)
  · exact .kList h1 h2
theorem ty_t {K : PySem.W.Frag} {H : Hp} {a : Addr} {xs : List V} (h : SqT K H a xs) : TyX K H (.ref a) (.type "tuple") := by
  rcases h with (h | ⟨o, h⟩) | ⟨o, its, n, h1, h2, _⟩
  · exact .base (.tup h)
  · exact .fTuple h
  · exact .kTuple h1 h2
/-- the two are the same data: True -/
def ySame (K : PySem.W.Frag) (n : Nat) : Sp := fun vs H Q _ => ∃ (x y : V) (d : PyData), vs = [x, y] ∧ Dp K H x d ∧ Dp K H y d ∧ Fits n d ∧ Q (.bl true) H
def yDraw (K : PySem.W.Frag) : Sp := fun vs H Q _ => ∃ (b p : Addr) (m : Int), vs = [.ref b, .int m] ∧ BoxAt H b p ∧ 0 < m ∧
  ∀ (r : Int) (H' : Hp), 0 ≤ r → r < m → BoxAt H' b p → Kp b H H' → Q (.int r) H'
section
variable {P : Program} {w : World} {K : PySem.W.Frag} {mg : Str → Option Value} {base : Heap} {A : Nat → Addr} {D : Nat → FuncData}
theorem ok_draw (T : Txt K mg A D) : FnOk P w K mg base CX0 1 (A 6) (D 6) ["box", "many"] (yDraw K) := by
  refine T.F__law_draw.ok sc__law_draw (fun vs H Q E h => ?_) (fun cdv A' outer s H vs Q E hr h => ?_)
  · obtain ⟨b, d, m, rfl, _⟩ := h; rfl
  obtain ⟨b, d, m, rfl, ⟨ns, n, h1, h2⟩, hm, q⟩ := h
  have hnd := sc__law_draw.nd
  have ndb : d ≠ b := fun e => by
    rw [e, h1] at h2
    cases ns with
    | nil => simp at h2
    | cons a r => simp at h2
  refine ⟨_, (pss_cons (ps_set (i := 2) hnd rfl (Or.inl rfl) (pe_ix (r := rIxL K) ix_list (pv 0) pe_int (fun _ _ => rfl))) (pss_cons (ps_asg (pe_op op_add (pv 2) pe_int) (pg_sub (pv 0) pe_int set_list)) (pss_cons (ps_if (pt_cmpR op_lt (pv 2) (pe_callB call_len_seq rfl T.z_len PySem.boot_len (pa_cons (pe_ix (r := rIxL K) ix_list (pv 0) pe_int (fun _ _ => rfl)) pa_nil)) (nomark _)) (pss_one (ps_ret (pe_op op_modN (pe_callTy call_int1 rfl T.z_int (by decide +kernel) (pa_cons (pe_ix (r := rIxL K) ix_list (pe_ix (r := rIxL K) ix_list (pv 0) pe_int (fun _ _ => rfl)) (pv 2) (fun _ _ => rfl)) pa_nil)) (pv 1)))) pss_nil) (pss_one (ps_ret pe_int))))), ?_⟩
  refine ⟨_, rfl, b, _, _, _, rfl, rfl, SqL.of h1, rfl, ?_⟩
  refine ⟨_, rfl, _, _, rfl, rfl, _, rfl, b, _, _, 1, rfl, rfl, h1, rfl, ?_⟩
  have k1 : Kp b H (upd H b (.lst [.ref d, .int ((n : Int) + 1)])) := Kp.upd (Kp.refl b H)
  have e1 : upd H b (.lst [.ref d, .int ((n : Int) + 1)]) b = some (.lst [.ref d, .int ((n : Int) + 1)]) := upd_same
  have e2 : upd H b (.lst [.ref d, .int ((n : Int) + 1)]) d = some (.lst (ns.map V.int)) := k1 _ _ h2 ndb
  have B : BoxAt (upd H b (.lst [.ref d, .int ((n : Int) + 1)])) b d := ⟨ns, n + 1, upd_same, e2⟩
  refine ⟨_, rfl, _, rfl, b, _, _, _, rfl, rfl, SqL.of e1, rfl, d, _, rfl, .inl (SqL.of e2), _, _, rfl, rfl, _, rfl, ?_⟩
  refine ite2 (fun c => ?_) (fun c => ?_)
  · have c' : (n : Int) < (((ns.map V.int).length : Nat) : Int) := of_decide_eq_true c
    rw [List.length_map] at c'
    refine ⟨_, rfl, b, _, _, _, rfl, rfl, SqL.of e1, rfl, _, rfl, d, _, _, _, rfl, rfl, SqL.of e2, at_ints (by omega), .inl ⟨_, rfl, _, rfl, _, _, rfl, rfl, (by show m ≠ 0; omega), ?_⟩⟩
    have z1 := Int.fmod_nonneg_of_pos (ns.getD n 0) hm
    have z2 := Int.fmod_lt_of_pos (ns.getD n 0) hm
    exact q _ _ z1 z2 B k1
  · exact q 0 _ (Int.le_refl 0) hm B k1
theorem ok_same (T : Txt K mg A D) : ∀ n, FnOk P w K mg base CX0 n (A 7) (D 7) ["actual", "due"] (ySame K n)
  | 0 => by
    have no : ∀ vs H Q E, ¬ ySame K 0 vs H Q E := fun vs H Q E h => by
      obtain ⟨x, y, d, _, _, _, f, _⟩ := h
      cases d <;> exact f
    exact ⟨fun vs H Q E h => absurd h (no vs H Q E), fun A outer s H args us vs Q E _ _ _ _ h => absurd h (no vs H Q E)⟩
  | n + 1 => by
    have G__law_same := ok_same T n
    refine T.F__law_same.ok sc__law_same (fun vs H Q E h => ?_) (fun cdv A' outer s H vs Q E hr h => ?_)
    · obtain ⟨x, y, d, rfl, _⟩ := h; rfl
    obtain ⟨x, y, d, rfl, dx, dy, hf, q⟩ := h
    have hnd := sc__law_same.nd
    refine ⟨_, (pss_cons (ps_if (PW.pt (pw_or (pt_val (pe_callB call_isi rfl T.z_isinstance (by decide +kernel) (pa_cons (pv 1) (pa_cons (pe_bltn (v := .ty "list") rfl T.z_list (by decide +kernel) rfl) pa_nil)))) (pw_or1 (pt_val (pe_callB call_isi rfl T.z_isinstance (by decide +kernel) (pa_cons (pv 1) (pa_cons (pe_bltn (v := .ty "tuple") rfl T.z_tuple (by decide +kernel) rfl) pa_nil))))))) (pss_cons (ps_if (PW.pt (pw_or (pt_cmpR op_ne (pe_callB call_isi rfl T.z_isinstance (by decide +kernel) (pa_cons (pv 1) (pa_cons (pe_bltn (v := .ty "list") rfl T.z_list (by decide +kernel) rfl) pa_nil))) (pe_callB call_isi rfl T.z_isinstance (by decide +kernel) (pa_cons (pv 0) (pa_cons (pe_bltn (v := .ty "list") rfl T.z_list (by decide +kernel) rfl) pa_nil))) (nomark _)) (pw_or1 (pt_cmpR op_ne (pe_callB call_isi rfl T.z_isinstance (by decide +kernel) (pa_cons (pv 1) (pa_cons (pe_bltn (v := .ty "tuple") rfl T.z_tuple (by decide +kernel) rfl) pa_nil))) (pe_callB call_isi rfl T.z_isinstance (by decide +kernel) (pa_cons (pv 0) (pa_cons (pe_bltn (v := .ty "tuple") rfl T.z_tuple (by decide +kernel) rfl) pa_nil))) (nomark _))))) (pss_one (ps_ret pe_bl)) pss_nil) (pss_cons (ps_if (pt_cmpR op_ne (pe_callB call_len_seq rfl T.z_len PySem.boot_len (pa_cons (pv 0) pa_nil)) (pe_callB call_len_seq rfl T.z_len PySem.boot_len (pa_cons (pv 1) pa_nil)) (nomark _)) (pss_one (ps_ret pe_bl)) pss_nil) (pss_cons (ps_for PassesOwn.never rfl (pi_range1 rfl T.z_range (pa_cons (pe_callB call_len_seq rfl T.z_len PySem.boot_len (pa_cons (pv 1) pa_nil)) pa_nil)) (pg_name (i := 2) hnd rfl (Or.inl rfl)) (pss_one (ps_if (pt_not (pt_val (pe_call G__law_same (hr.mono (by first | decide | omega)) rfl T.m__law_same T.F__law_same.kp T.b__law_same .nil pass0 (pa_cons (pe_ix (r := rIx K) ix_seq (pv 0) (pv 2) (fun _ _ => rfl)) (pa_cons (pe_ix (r := rIx K) ix_seq (pv 1) (pv 2) (fun _ _ => rfl)) pa_nil))))) (pss_one (ps_ret pe_bl)) pss_nil))) (pss_one (ps_ret pe_bl))))) pss_nil) (pss_cons (ps_if (pt_cmpR op_isN (pv 1) pe_non (nomark _)) (pss_one (ps_ret (pe_cmpR op_isN (pv 0) pe_non (nomark _)))) pss_nil) (pss_cons (ps_if (pt_val (pe_callB call_isi rfl T.z_isinstance (by decide +kernel) (pa_cons (pv 1) (pa_cons (pe_bltn (v := .ty "bool") rfl T.z_bool (by decide +kernel) rfl) pa_nil)))) (pss_one (ps_ret (pe_and (pe_callB call_isi rfl T.z_isinstance (by decide +kernel) (pa_cons (pv 0) (pa_cons (pe_bltn (v := .ty "bool") rfl T.z_bool (by decide +kernel) rfl) pa_nil))) (pe_one (pe_cmpR op_eq (pv 0) (pv 1) (nomark _)))))) pss_nil) (pss_cons (ps_if (pt_val (pe_callB call_isi rfl T.z_isinstance (by decide +kernel) (pa_cons (pv 1) (pa_cons (pe_bltn (v := .ty "str") rfl T.z_str (by decide +kernel) rfl) pa_nil)))) (pss_one (ps_ret (pe_and (pe_callB call_isi rfl T.z_isinstance (by decide +kernel) (pa_cons (pv 0) (pa_cons (pe_bltn (v := .ty "str") rfl T.z_str (by decide +kernel) rfl) pa_nil))) (pe_one (pe_cmpR op_eq (pv 0) (pv 1) (nomark _)))))) pss_nil) (pss_one (ps_ret (pe_and (pe_callB call_isi rfl T.z_isinstance (by decide +kernel) (pa_cons (pv 0) (pa_cons (pe_bltn (v := .ty "int") rfl T.z_int (by decide +kernel) rfl) pa_nil))) (pe_and (pe_not (pe_callB call_isi rfl T.z_isinstance (by decide +kernel) (pa_cons (pv 0) (pa_cons (pe_bltn (v := .ty "bool") rfl T.z_bool (by decide +kernel) rfl) pa_nil)))) (pe_one (pe_cmpR op_eq (pv 0) (pv 1) (nomark _))))))))))), ?_⟩
    cases d with
    | dict _ => exact hf.elim
    | list ds =>
      obtain ⟨hf1, hf2⟩ := hf
      cases dx with | lst hx ax =>
      cases dy with | lst hy ay =>
      rename_i a vs a' vs'
      have l1 := DpAll.len ax
      have l2 := DpAll.len ay
      refine ⟨_, rfl, _, _, _, _, _, rfl, .ty _, ty_l hy, kit_ty (by decide +kernel), _, rfl, iteT (iteT ?_)⟩
      refine ⟨_, rfl, _, _, _, _, true, rfl, .ty _, ty_l hy, kit_ty (by decide +kernel), _, rfl, _, _, _, _, true, rfl, .ty _, ty_l hx, kit_ty (by decide +kernel), rfl, _, rfl, iteNS rfl ?_⟩
      refine ⟨_, rfl, _, _, _, _, false, rfl, .ty _, ty_l hy, kit_ty (by decide +kernel), _, rfl, _, _, _, _, false, rfl, .ty _, ty_l hx, kit_ty (by decide +kernel), rfl, _, rfl, iteNS rfl ?_⟩
      refine ⟨_, rfl, _, _, rfl, .inl hx, _, rfl, _, _, rfl, .inl hy, rfl, _, rfl, iteNS (by rw [l1, l2]) ?_⟩
      refine ⟨_, rfl, _, _, rfl, .inl hy, _, rfl, (by omega), (by omega), ?_⟩
      rw [show ((vs'.length : Nat) : Int).toNat = ds.length by omega]
      refine for_range (n := ds.length) (fun i σ H' => ∃ kv : Option V, σ = [some (.ref a), some (.ref a'), kv] ∧ H' = H) ⟨none, rfl, rfl⟩ ?_ ?_
      · rintro i σ H' hi ⟨kv, rfl, rfl⟩
        obtain ⟨v, ev, dv⟩ := DpAll.get ax (List.getElem?_eq_getElem hi)
        obtain ⟨v', ev', dv'⟩ := DpAll.get ay (List.getElem?_eq_getElem hi)
        have ev1 : atI vs (0 + (i : Int)) = some v := by rw [Int.zero_add]; exact atI_nat ev
        have ev2 : atI vs' (0 + (i : Int)) = some v' := by rw [Int.zero_add]; exact atI_nat ev'
        refine ⟨_, rfl, _, rfl, .inl ⟨_, _, _, _, rfl, rfl, hx, ev1, _, rfl, _, rfl, .inl ⟨_, _, _, _, rfl, rfl, hy, ev2, ?_⟩⟩⟩
        exact ⟨v, v', ds[i], rfl, dv, dv', hf2 _ (List.getElem_mem hi), _, rfl, iteF ⟨_, rfl, rfl⟩⟩
      · rintro σ H' ⟨kv, rfl, rfl⟩
        exact q
    | tuple ds =>
      obtain ⟨hf1, hf2⟩ := hf
      cases dx with | tup hx ax =>
      cases dy with | tup hy ay =>
      rename_i a vs a' vs'
      have l1 := DpAll.len ax
      have l2 := DpAll.len ay
      refine ⟨_, rfl, _, _, _, _, _, rfl, .ty _, ty_t hy, kit_ty (by decide +kernel), _, rfl, iteF ⟨_, rfl, _, _, _, _, _, rfl, .ty _, ty_t hy, kit_ty (by decide +kernel), _, rfl, iteT ?_⟩⟩
      refine ⟨_, rfl, _, _, _, _, false, rfl, .ty _, ty_t hy, kit_ty (by decide +kernel), _, rfl, _, _, _, _, false, rfl, .ty _, ty_t hx, kit_ty (by decide +kernel), rfl, _, rfl, iteNS rfl ?_⟩
      refine ⟨_, rfl, _, _, _, _, true, rfl, .ty _, ty_t hy, kit_ty (by decide +kernel), _, rfl, _, _, _, _, true, rfl, .ty _, ty_t hx, kit_ty (by decide +kernel), rfl, _, rfl, iteNS rfl ?_⟩
      refine ⟨_, rfl, _, _, rfl, .inr hx, _, rfl, _, _, rfl, .inr hy, rfl, _, rfl, iteNS (by rw [l1, l2]) ?_⟩
      refine ⟨_, rfl, _, _, rfl, .inr hy, _, rfl, (by omega), (by omega), ?_⟩
      rw [show ((vs'.length : Nat) : Int).toNat = ds.length by omega]
      refine for_range (n := ds.length) (fun i σ H' => ∃ kv : Option V, σ = [some (.ref a), some (.ref a'), kv] ∧ H' = H) ⟨none, rfl, rfl⟩ ?_ ?_
      · rintro i σ H' hi ⟨kv, rfl, rfl⟩
        obtain ⟨v, ev, dv⟩ := DpAll.get ax (List.getElem?_eq_getElem hi)
        obtain ⟨v', ev', dv'⟩ := DpAll.get ay (List.getElem?_eq_getElem hi)
        have ev1 : atI vs (0 + (i : Int)) = some v := by rw [Int.zero_add]; exact atI_nat ev
        have ev2 : atI vs' (0 + (i : Int)) = some v' := by rw [Int.zero_add]; exact atI_nat ev'
        refine ⟨_, rfl, _, rfl, .inr (.inl ⟨_, _, _, _, rfl, rfl, hx, ev1, _, rfl, _, rfl, .inr (.inl ⟨_, _, _, _, rfl, rfl, hy, ev2, ?_⟩)⟩)⟩
        exact ⟨v, v', ds[i], rfl, dv, dv', hf2 _ (List.getElem_mem hi), _, rfl, iteF ⟨_, rfl, rfl⟩⟩
      · rintro σ H' ⟨kv, rfl, rfl⟩
        exact q
    | none =>
      cases dx with | non =>
      cases dy with | non =>
      refine ⟨_, rfl, _, _, _, _, _, rfl, .ty _, .base (.non), kit_ty (by decide +kernel), _, rfl, iteF ⟨_, rfl, _, _, _, _, _, rfl, .ty _, .base (.non), kit_ty (by decide +kernel), _, rfl, iteF ?_⟩⟩
      refine ⟨_, rfl, rfl, _, rfl, iteT ?_⟩
      exact ⟨_, rfl, rfl, q⟩
    | bool b =>
      cases dx with | bl =>
      cases dy with | bl =>
      refine ⟨_, rfl, _, _, _, _, _, rfl, .ty _, .base (.bl _), kit_ty (by decide +kernel), _, rfl, iteF ⟨_, rfl, _, _, _, _, _, rfl, .ty _, .base (.bl _), kit_ty (by decide +kernel), _, rfl, iteF ?_⟩⟩
      refine ⟨_, rfl, rfl, _, rfl, iteF ?_⟩
      refine ⟨_, rfl, _, _, _, _, _, rfl, .ty _, .base (.bl _), kit_ty (by decide +kernel), _, rfl, iteT ?_⟩
      refine ⟨_, rfl, _, _, _, _, _, rfl, .ty _, .base (.bl _), kit_ty (by decide +kernel), _, rfl, iteT ⟨_, rfl, _, rfl, rfl, ?_⟩⟩
      rw [decide_eq_true rfl]
      exact q
    | str z =>
      cases dx with | str =>
      cases dy with | str =>
      refine ⟨_, rfl, _, _, _, _, _, rfl, .ty _, .base (.str _), kit_ty (by decide +kernel), _, rfl, iteF ⟨_, rfl, _, _, _, _, _, rfl, .ty _, .base (.str _), kit_ty (by decide +kernel), _, rfl, iteF ?_⟩⟩
      refine ⟨_, rfl, rfl, _, rfl, iteF ?_⟩
      refine ⟨_, rfl, _, _, _, _, _, rfl, .ty _, .base (.str _), kit_ty (by decide +kernel), _, rfl, iteF ⟨_, rfl, _, _, _, _, _, rfl, .ty _, .base (.str _), kit_ty (by decide +kernel), _, rfl, iteT ?_⟩⟩
      refine ⟨_, rfl, _, _, _, _, _, rfl, .ty _, .base (.str _), kit_ty (by decide +kernel), _, rfl, iteT ⟨_, rfl, _, rfl, rfl, ?_⟩⟩
      rw [decide_eq_true rfl]
      exact q
    | int i =>
      cases dx with | int =>
      cases dy with | int =>
      refine ⟨_, rfl, _, _, _, _, _, rfl, .ty _, .base (.int _), kit_ty (by decide +kernel), _, rfl, iteF ⟨_, rfl, _, _, _, _, _, rfl, .ty _, .base (.int _), kit_ty (by decide +kernel), _, rfl, iteF ?_⟩⟩
      refine ⟨_, rfl, rfl, _, rfl, iteF ?_⟩
      refine ⟨_, rfl, _, _, _, _, _, rfl, .ty _, .base (.int _), kit_ty (by decide +kernel), _, rfl, iteF ⟨_, rfl, _, _, _, _, _, rfl, .ty _, .base (.int _), kit_ty (by decide +kernel), _, rfl, iteF ?_⟩⟩
      refine ⟨_, rfl, _, _, _, _, _, rfl, .ty _, .base (.int _), kit_ty (by decide +kernel), _, rfl, iteT ⟨_, rfl, _, _, _, _, false, rfl, .ty _, .base (.int _), kit_ty (by decide +kernel), _, rfl, _, rfl, iteT ⟨_, rfl, _, rfl, rfl, ?_⟩⟩⟩
      rw [decide_eq_true rfl]
      exact q
end

/-! ### words of a text -/
open TL
open PyProof.Rows (lo1 lower_ascii)
def smallS : Str := "0123456789abcdefghijklmnopqrstuvwxyz"
def smallL : Str := "abcdefghijklmnopqrstuvwxyz0123456789"
theorem small_LS : ∀ c ∈ tl smallL, c ∈ tl smallS := by decide +kernel
theorem small_SL : ∀ c ∈ tl smallS, c ∈ tl smallL := by decide +kernel
theorem small_iff {c : Nat} : c ∈ tl smallL ↔ c ∈ tl smallS := ⟨small_LS c, small_SL c⟩
/-- how a sign is read: a small letter or digit, or a blank -/
def gw (c : Nat) : Nat := if c ∈ tl smallS then c else 32
def gl (c : Nat) : Nat := gw (lo1 c)
def wordsL (cs : List Nat) : List (List Nat) := (wfin ((cs.map gl).foldl wstep ([], []))).map (·.take 12)
def sgn (c : Nat) : Str := ⟨#[c]⟩
def jn (l : List Nat) : Str := Txt.join (Str.ofString "") (l.map sgn)
theorem joinL_nil : ∀ l : List Nat, joinL [] (l.map fun c => [c]) = l
  | [] => rfl
  | [c] => rfl
  | c :: d :: r => by
    show [c] ++ ([] ++ joinL [] ((d :: r).map fun c => [c])) = _
    rw [joinL_nil (d :: r)]
    rfl
theorem join_signs (l : List Nat) : tl (jn l) = l := by
  unfold jn
  rw [join_eq, tl_join, List.map_map, show tl (Str.ofString "") = [] by decide +kernel]
  exact joinL_nil l
theorem cut_take (z : Str) (k : Nat) : tl (cutS z none (some (k : Int))) = (tl z).take k := by
  show ((z.cps.toList.drop 0).take (HT.sIx z.length z.length (some (k : Int)) - 0)) = _
  have e : HT.sIx z.length z.length (some (k : Int)) = min k z.length := by
    show (if (k : Int) < 0 then ((k : Int) + (z.length : Int)).toNat else min (k : Int).toNat z.length) = _
    rw [if_neg (by omega), Int.toNat_natCast]
  have e2 : z.length = z.cps.toList.length := len_tl z
  rw [e, List.drop_zero, Nat.sub_zero]
  exact List.take_eq_take_iff.mpr (by omega)
theorem words_len {N : Nat} : ∀ (l : List Nat) (ws : List (List Nat)) (u : List Nat), (∀ x ∈ ws, x.length ≤ N) → u.length + l.length ≤ N → ∀ x ∈ wfin (l.foldl wstep (ws, u)), x.length ≤ N
  | [], ws, u, h, hu => by
    intro x hx
    show x.length ≤ N
    have e : wfin (List.foldl wstep (ws, u) []) = if u = [] then ws else ws ++ [u] := rfl
    rw [e] at hx
    by_cases hu0 : u = []
    · rw [if_pos hu0] at hx; exact h x hx
    · rw [if_neg hu0] at hx
      rcases List.mem_append.mp hx with hx | hx
      · exact h x hx
      · rw [List.mem_singleton.mp hx]; simpa using hu
  | c :: r, ws, u, h, hu => by
    rw [List.length_cons] at hu
    rw [List.foldl_cons]
    unfold wstep
    split
    · split
      · exact words_len r ws u h (by omega)
      · refine words_len r _ _ (fun x hx => ?_) (by simp only [List.length_nil]; omega)
        rcases List.mem_append.mp hx with hx | hx
        · exact h x hx
        · rw [List.mem_singleton.mp hx]; show u.length ≤ N; omega
    · exact words_len r ws (u ++ [c]) h (by rw [List.length_append, List.length_singleton]; omega)
theorem map_sgn (l : List Nat) : (l.map sgn).map (fun x => x.length) = l.map fun _ => 1 := by rw [List.map_map]; rfl
theorem sum_ones (l : List Nat) : (l.map fun _ => 1).sum = l.length := by
  induction l with
  | nil => rfl
  | cons a r ih => rw [List.map_cons, List.sum_cons, ih, List.length_cons]; omega
theorem take_succ_map {α β : Type} {f : α → β} {l : List α} {i : Nat} {x : α} (h : l[i]? = some x) : (l.take i).map f ++ [f x] = (l.take (i + 1)).map f := by
  rw [List.take_add_one, h, List.map_append]; rfl
theorem take_all {α : Type} {l : List α} {n : Nat} (h : l.length ≤ n) : l.take n = l := List.take_of_length_le h

theorem atI_mem {α : Type} {l : List α} {r : Int} (h0 : 0 ≤ r) (h1 : r < (l.length : Int)) : ∃ c, atI l r = some c ∧ c ∈ l := by
  obtain ⟨n, rfl⟩ := Int.eq_ofNat_of_zero_le h0
  have hn : n < l.length := by omega
  exact ⟨l[n], atI_nat (List.getElem?_eq_getElem hn), List.getElem_mem hn⟩
theorem tl_sgn (c : Nat) : tl (⟨#[c]⟩ : Str) = [c] := rfl
def yRun (K : PySem.W.Frag) : Sp := fun vs H Q _ => ∃ (b p : Addr) (m : Int) (z : Str), vs = [.ref b, .int m, .str z] ∧ BoxAt H b p ∧ 0 < z.length ∧ z.length ≤ 1000 ∧ 0 ≤ m ∧ m ≤ 1000 ∧
  ∀ (t : Str) (H' : Hp), (∀ c ∈ tl t, c ∈ tl z) → (t.length : Int) = m → BoxAt H' b p → Kp b H H' → Q (.str t) H'
section
variable {P : Program} {w : World} {K : PySem.W.Frag} {mg : Str → Option Value} {base : Heap} {A : Nat → Addr} {D : Nat → FuncData}
theorem ok_run (T : Txt K mg A D) : FnOk P w K mg base CX0 2 (A 8) (D 8) ["box", "many", "chars"] (yRun K) := by
  refine T.F__law_run.ok sc__law_run (fun vs H Q E h => ?_) (fun cdv A' outer s H vs Q E hr h => ?_)
  · obtain ⟨b, p, m, z, rfl, _⟩ := h; rfl
  obtain ⟨b, p, m, z, rfl, B, z0, z1, m0, m1, q⟩ := h
  have hnd := sc__law_run.nd
  have G__law_draw := ok_draw (P := P) (w := w) (base := base) T
  refine ⟨_, (pss_cons (ps_set (i := 3) hnd rfl (Or.inl rfl) pe_str) (pss_cons (ps_for PassesOwn.never rfl (pi_range1 rfl T.z_range (pa_cons (pv 1) pa_nil)) (pg_name (i := 4) hnd rfl (Or.inl rfl)) (pss_one (ps_set (i := 3) hnd rfl (Or.inl rfl) (pe_op op_add_str (pv 3) (pe_ix ix_str (pv 2) (pe_call G__law_draw (hr.mono (by first | decide | omega)) rfl T.m__law_draw T.F__law_draw.kp T.b__law_draw .nil pass0 (pa_cons (pv 0) (pa_cons (pe_callB call_len_str rfl T.z_len PySem.boot_len (pa_cons (pv 2) pa_nil)) pa_nil))) (fun _ _ => rfl)))))) (pss_one (ps_ret (pv 3))))), ?_⟩
  refine ⟨_, rfl, m, rfl, (by omega), (by omega), ?_⟩
  refine for_range (n := m.toNat) (fun i σ H' => ∃ (t : Str) (kv : Option V), σ = [some (.ref b), some (.int m), some (.str z), some (.str t), kv] ∧ BoxAt H' b p ∧ Kp b H H' ∧ (∀ c ∈ tl t, c ∈ tl z) ∧ t.length = i)
    ⟨_, none, rfl, B, Kp.refl _ _, (fun c hc => nomatch (show c ∈ ([] : List Nat) from hc)), rfl⟩ ?_ ?_
  · rintro i σ H1 hi ⟨t, kv, rfl, B1, k1, ht, hl⟩
    refine ⟨_, rfl, _, rfl, _, rfl, _, rfl, z, rfl, (by show z.length ≤ 16777216; omega), b, p, _, rfl, B1, (by omega), fun r H2 h0 h1 B2 k2 => ?_⟩
    obtain ⟨c, hc, hm⟩ := atI_mem (l := tl z) h0 (by rw [← len_tl]; exact h1)
    refine ⟨z, r, c, rfl, rfl, (by show z.length ≤ 16777216; omega), hc, _, _, rfl, rfl, (by show t.length + 1 ≤ 16777216; omega), ?_⟩
    refine ⟨_, _, rfl, B2, k1.trans k2, fun d hd => ?_, ?_⟩
    · rw [tl_append, tl_sgn] at hd
      rcases List.mem_append.mp hd with hd | hd
      · exact ht d hd
      · rw [List.mem_singleton.mp hd]; exact hm
    · rw [len_tl, tl_append, tl_sgn, List.length_append, List.length_singleton, ← len_tl, hl]
  · rintro σ H1 ⟨t, kv, rfl, B1, k1, ht, hl⟩
    exact ⟨_, rfl, q t H1 ht (by omega) B1 k1⟩
end

/-! ### a list of immutable data that grows -/
def LAt (K : PySem.W.Frag) (H : Hp) (d : Addr) (ds : List PyData) : Prop := ∃ vs, H d = some (.lst vs) ∧ DpAll K H vs ds ∧ ∀ x ∈ ds, Imm x
theorem LAt.tk {K : PySem.W.Frag} {H H' : Hp} {d : Addr} {ds : List PyData} (h : LAt K H d ds) (k : TK H H') (e : ∀ o, H d = some o → H' d = some o) : LAt K H' d ds := by
  obtain ⟨vs, h1, h2, h3⟩ := h
  exact ⟨vs, e _ h1, DpAll.keep k h2 h3, h3⟩
theorem LAt.same {K : PySem.W.Frag} {H H' : Hp} {d : Addr} {ds : List PyData} (h : LAt K H d ds) (k : Same H H') : LAt K H' d ds := h.tk (TK.same k) fun o => k _ o
theorem LAt.kp {K : PySem.W.Frag} {H H' : Hp} {b p d : Addr} {ds : List PyData} (h : LAt K H d ds) (B : BoxAt H b p) (k : Kp b H H') (n : d ≠ b) : LAt K H' d ds := h.tk (TK.box B k) fun o e => k _ o e n
theorem LAt.push {K : PySem.W.Frag} {H : Hp} {d : Addr} {ds : List PyData} {vs : List V} {v : V} {x : PyData} (h1 : H d = some (.lst vs)) (h2 : DpAll K H vs ds) (h3 : ∀ x ∈ ds, Imm x) (hv : Dp K H v x) (hx : Imm x) : LAt K (upd H d (.lst (vs ++ [v]))) d (ds ++ [x]) := by
  have k : TK H (upd H d (.lst (vs ++ [v]))) := TK.updL (TK.refl H) h1
  have h4 : ∀ y ∈ ds ++ [x], Imm y := fun y hy => by
    rcases List.mem_append.mp hy with hy | hy
    · exact h3 y hy
    · rw [List.mem_singleton.mp hy]; exact hx
  exact ⟨_, upd_same, DpAll.keep k (DpAll.app h2 (.cons hv .nil)) h4, h4⟩
theorem LAt.nil {K : PySem.W.Frag} {H : Hp} {d : Addr} (h : H d = some (.lst [])) : LAt K H d [] := ⟨[], h, .nil, fun x hx => nomatch hx⟩

def ySpLaw (K : PySem.W.Frag) : Sp := fun vs H Q _ => ∃ (a : Addr) (ns : List Int), vs = [.ref a] ∧ SqL K H a (ns.map V.int) ∧ ns.length ≤ 63 ∧ ∀ H', Q (.bl true) H'
theorem box_new {H1 : Hp} {p bx : Addr} {ds : List Int} (hp : H1 p = some (.lst (ds.map V.int))) (hb : H1 bx = none) : BoxAt (upd H1 bx (.lst [.ref p, .int 0])) bx p :=
  ⟨ds, 0, upd_same, by rw [upd_ne (ne_of_none hp hb)]; exact hp⟩
theorem pick2 {a b : V} {r : Int} (h0 : 0 ≤ r) (h1 : r < 2) : atI [a, b] r = some (if r = 0 then a else b) := by
  by_cases e : r = 0
  · subst e; rfl
  · have e1 : r = 1 := by omega
    subst e1; rfl
theorem pick2i {x y r : Int} (h0 : 0 ≤ r) (h1 : r < 2) : atI [V.int x, V.int y] r = some (V.int (if r = 0 then x else y)) := by
  rw [pick2 h0 h1]; split <;> rfl
theorem pick2s {x y : Str} {r : Int} (h0 : 0 ≤ r) (h1 : r < 2) : atI [V.str x, V.str y] r = some (V.str (if r = 0 then x else y)) := by
  rw [pick2 h0 h1]; split <;> rfl
theorem atI_map {α β : Type} {f : α → β} {l : List α} {r : Int} {x : α} (h0 : 0 ≤ r) (h : atI l r = some x) : atI (l.map f) r = some (f x) := by
  obtain ⟨n, rfl⟩ := Int.eq_ofNat_of_zero_le h0
  by_cases hn : n < l.length
  · have e : atI l (n : Int) = some l[n] := atI_nat (List.getElem?_eq_getElem hn)
    have e2 : l[n] = x := Option.some.inj (e.symm.trans h)
    exact atI_nat (by rw [List.getElem?_map, List.getElem?_eq_getElem hn, e2]; rfl)
  · unfold atI ixN at h
    rw [if_pos h0, if_neg (by omega)] at h
    cases h

/-! ### a blank, so many times -/
theorem rep_fold (c : Nat) : ∀ (n : Nat) (a : Array Nat), (List.replicate n (#[c] : Array Nat)).foldl (· ++ ·) a = a ++ (List.replicate n c).toArray
  | 0, a => by simp
  | n + 1, a => by
    rw [List.replicate_succ, List.foldl_cons, rep_fold c n, List.replicate_succ]
    apply Array.toList_inj.mp
    rw [Array.toList_append, Array.toList_append, Array.toList_append, List.append_assoc]
    rfl
section
variable {X : Cx}
def rMulSp : R2 := fun x y H Q => ∃ (c n : Nat), x = .str ⟨#[c]⟩ ∧ y = .int (n : Int) ∧ n ≤ 1000 ∧ Q (.str ⟨(List.replicate n c).toArray⟩) H
theorem op_mul_sp : OpR X (binaryOp .Mult) rMulSp := by
  intro pins s σ H x y v u Q I rx ry h
  obtain ⟨c, n, rfl, rfl, hn, q⟩ := h
  obtain ⟨t, rfl⟩ := rx
  obtain ⟨t', rfl⟩ := ry
  refine PySem.P.mul_str ?_ ?_ ?_ ?_
  · rw [decide_eq_false (by omega), decide_eq_false (by omega)]; rfl
  · intro h1 _ h2
    have h3 : (1 : Int) ≤ (2 ^ 63 - 1) / (n : Int) := Int.le_ediv_of_mul_le (by omega) (by omega)
    have h4 : (((⟨#[c]⟩ : Str).length : Nat) : Int) = 1 := rfl
    omega
  · intro h1 _
    have h4 : (⟨#[c]⟩ : Str).length = 1 := rfl
    rw [h4, Int.toNat_natCast, Nat.one_mul]
    exact PyProof.Rows.short24 (by omega)
  · by_cases h1 : (n : Int) < 1
    · rw [if_pos h1]
      have e : n = 0 := by omega
      subst e
      exact ⟨by decide, .str ⟨#[]⟩, H, I.tok _, ⟨_, rfl⟩, q⟩
    · rw [if_neg h1]
      by_cases h2 : ((n : Int) == 1 || (⟨#[c]⟩ : Str).length == 0) = true
      · rw [if_pos h2]
        have e : n = 1 := by
          rcases Bool.or_eq_true_iff.mp h2 with h | h
          · have := eq_of_beq h; omega
          · have := eq_of_beq h; exact absurd (show (1 : Nat) = 0 from this) (by decide)
        subst e
        exact ⟨.str ⟨#[c]⟩, H, I, ⟨_, rfl⟩, q⟩
      · rw [if_neg h2]
        have e : ((List.replicate (n : Int).toNat (⟨#[c]⟩ : Str).cps).foldl (· ++ ·) #[]) = (List.replicate n c).toArray := by
          rw [Int.toNat_natCast]
          show (List.replicate n (#[c] : Array Nat)).foldl (· ++ ·) #[] = _
          rw [rep_fold]; simp
        rw [e]
        refine ⟨?_, .str ⟨(List.replicate n c).toArray⟩, H, I.tok _, ⟨_, rfl⟩, q⟩
        show (List.replicate n c).toArray.size ≤ 16777216
        rw [List.size_toArray, List.length_replicate]
        omega
end

def encT (t : Str × Str) : PyData := .tuple [.str t.1, .str t.2]
theorem imm_encT (t : Str × Str) : Imm (encT t) := .tup fun d hd => by
  rcases List.mem_cons.mp hd with rfl | hd
  · exact .str _
  · rw [List.mem_singleton.mp hd]; exact .str _

/-! ### tokens -/
def signsS : Str := "*\"<>()|-@"
def runL (cs : List Nat) : List Nat := cs.takeWhile fun c => decide (c ∈ tl smallS)
def S (l : List Nat) : Str := ⟨l.toArray⟩
theorem tl_S (l : List Nat) : tl (S l) = l := rfl
theorem S_tl (z : Str) : S (tl z) = z := mk_tl z
def tokAt (cs : List Nat) : (Str × Str) × Nat :=
  if cs.headD 0 ∈ tl signsS then (("sign", S [cs.headD 0]), 1)
  else if runL cs = [] then (("bad", S [cs.headD 0]), 1)
  else if (runL cs).length > 12 then (("bad", S (runL cs)), (runL cs).length)
  else if cs[(runL cs).length]? = some 42 then (("start", S (runL cs)), (runL cs).length + 1)
  else (("word", S (runL cs)), (runL cs).length)
inductive Toks : List Nat → List (Str × Str) → Prop
  | nil : Toks [] []
  | sp {r : List Nat} {ts : List (Str × Str)} : Toks r ts → Toks (32 :: r) ts
  | tok {c : Nat} {r : List Nat} {ts : List (Str × Str)} : c ≠ 32 → Toks ((c :: r).drop (tokAt (c :: r)).2) ts → Toks (c :: r) ((tokAt (c :: r)).1 :: ts)
theorem runL_cons (c : Nat) (r : List Nat) : runL (c :: r) = if c ∈ tl smallS then c :: runL r else [] := by
  unfold runL
  rw [List.takeWhile_cons]
  by_cases h : c ∈ tl smallS
  · rw [if_pos h, if_pos (decide_eq_true h)]
  · rw [if_neg h, if_neg (fun e => h (of_decide_eq_true e))]
theorem runL_mem : ∀ cs : List Nat, ∀ c ∈ runL cs, c ∈ tl smallS
  | [], c, h => nomatch h
  | d :: r, c, h => by
    rw [runL_cons] at h
    by_cases hd : d ∈ tl smallS
    · rw [if_pos hd] at h
      rcases List.mem_cons.mp h with h | h
      · rw [h]; exact hd
      · exact runL_mem r c h
    · rw [if_neg hd] at h; nomatch h
theorem runL_stop : ∀ (cs : List Nat) (c : Nat), cs[(runL cs).length]? = some c → ¬ c ∈ tl smallS
  | [], c, h => by simp at h
  | d :: r, c, h => by
    rw [runL_cons] at h
    by_cases hd : d ∈ tl smallS
    · rw [if_pos hd, List.length_cons, List.getElem?_cons_succ] at h
      exact runL_stop r c h
    · rw [if_neg hd] at h
      have e : d = c := Option.some.inj h
      rw [← e]; exact hd
theorem runL_le (cs : List Nat) : (runL cs).length ≤ cs.length := (List.takeWhile_sublist _).length_le
theorem runL_take (cs : List Nat) : cs.take (runL cs).length = runL cs := by
  have h : runL cs <+: cs := List.takeWhile_prefix _
  exact (List.prefix_iff_eq_take.mp h).symm
theorem tokAt_pos (cs : List Nat) : 1 ≤ (tokAt cs).2 := by
  unfold tokAt
  split
  · exact Nat.le_refl _
  · split
    · exact Nat.le_refl _
    · rename_i h
      have : 1 ≤ (runL cs).length := List.length_pos_iff.mpr h
      split
      · exact this
      · split
        · show 1 ≤ (runL cs).length + 1; omega
        · exact this
theorem tokAt_le {cs : List Nat} (h : cs ≠ []) : (tokAt cs).2 ≤ cs.length := by
  have h0 : 1 ≤ cs.length := List.length_pos_iff.mpr h
  have h1 := runL_le cs
  unfold tokAt
  split
  · exact h0
  · split
    · exact h0
    · split
      · exact h1
      · split
        · rename_i h2
          have := (List.getElem?_eq_some_iff.mp h2).1
          exact this
        · exact h1
theorem cut_mid (z : Str) (a b : Nat) : tl (cutS z (some (a : Int)) (some (b : Int))) = ((tl z).drop a).take (b - a) := by
  have e : ∀ k d : Nat, HT.sIx z.length d (some (k : Int)) = min k z.length := fun k d => by
    show (if (k : Int) < 0 then ((k : Int) + (z.length : Int)).toNat else min (k : Int).toNat z.length) = _
    rw [if_neg (by omega), Int.toNat_natCast]
  show ((z.cps.toList.drop (HT.sIx z.length 0 (some (a : Int)))).take (HT.sIx z.length z.length (some (b : Int)) - HT.sIx z.length 0 (some (a : Int)))) = _
  rw [e, e]
  have e2 : z.length = z.cps.toList.length := len_tl z
  by_cases ha : a ≤ z.length
  · rw [show min a z.length = a by omega]
    refine List.take_eq_take_iff.mpr ?_
    rw [List.length_drop]; omega
  · have e3 : z.length = (tl z).length := len_tl z
    rw [List.drop_eq_nil_of_le (by omega), List.drop_eq_nil_of_le (by omega), List.take_nil, List.take_nil]
def yEnd : Sp := fun vs H Q _ => ∃ (z : Str) (a : Nat), vs = [.str z, .int (a : Int)] ∧ a ≤ z.length ∧ z.length ≤ 100000 ∧ Q (.int ((a + (runL ((tl z).drop a)).length : Nat) : Int)) H
def yTokAt : Sp := fun vs H Q _ => ∃ (z : Str) (a : Nat), vs = [.str z, .int (a : Int)] ∧ a < z.length ∧ z.length ≤ 100000 ∧
  ∀ (q1 q2 : Addr) (H' : Hp), Same H H' → H' q1 = some (.tup [.ref q2, .int ((a + (tokAt ((tl z).drop a)).2 : Nat) : Int)]) → H' q2 = some (.tup [.str (tokAt ((tl z).drop a)).1.1, .str (tokAt ((tl z).drop a)).1.2]) → Q (.ref q1) H'
def yToks (K : PySem.W.Frag) : Sp := fun vs H Q _ => ∃ (z : Str) (due : List (Str × Str)), vs = [.str z] ∧ z.length ≤ 100000 ∧ Toks (tl z) due ∧
  ∀ (d : Addr) (H' : Hp), Same H H' → H d = none → LAt K H' d (due.map encT) → Q (.ref d) H'
section
variable {P : Program} {w : World} {K : PySem.W.Frag} {mg : Str → Option Value} {base : Heap} {A : Nat → Addr} {D : Nat → FuncData}
theorem ok_end_of_run (T : Txt K mg A D) : FnOk P w K mg base CX0 1 (A 3) (D 3) ["text", "at"] yEnd := by
  refine T.F_end_of_run.ok sc_end_of_run (fun vs H Q E h => ?_) (fun cdv A' outer s H vs Q E hr h => ?_)
  · obtain ⟨z, a, rfl, _⟩ := h; rfl
  obtain ⟨z, a, rfl, ha, hz, q⟩ := h
  have hnd := sc_end_of_run.nd
  obtain ⟨tS, hSMALL⟩ := T.c_SMALL
  have hzl : z.length ≤ sizeLine := by show z.length ≤ 16777216; omega
  have hl := len_tl z
  have hrl : (runL ((tl z).drop a)).length ≤ z.length - a := by have := runL_le ((tl z).drop a); rw [List.length_drop] at this; omega
  refine ⟨_, (pss_cons (ps_while PassesOwn.never (PW.pt (pw_and (pt_cmpR op_lt (pv 1) (pe_callB call_len_str rfl T.z_len PySem.boot_len (pa_cons (pv 0) pa_nil)) (nomark _)) (pw_and1 (pt_cmpR op_in_sign (pe_ix ix_str (pv 0) (pv 1) (fun _ _ => rfl)) (pe_glob (v := V.str _) rfl hSMALL ⟨_, rfl⟩) rfl)))) (pss_one (ps_aug (i := 1) hnd rfl (Or.inl rfl) pe_int ip_add))) (pss_one (ps_ret (pv 1)))), ?_⟩
  have hget : ∀ j, j < (runL ((tl z).drop a)).length → ∃ c, (tl z)[a + j]? = some c ∧ c ∈ tl smallS := fun j hj => by
    refine ⟨(runL ((tl z).drop a))[j], ?_, ?_⟩
    · have e := runL_take ((tl z).drop a)
      have e2 : (runL ((tl z).drop a))[j]? = some (runL ((tl z).drop a))[j] := List.getElem?_eq_getElem hj
      rw [← e2]
      conv => rhs; rw [← e]
      rw [List.getElem?_take_of_lt hj, List.getElem?_drop]
    · exact runL_mem _ _ (List.getElem_mem hj)
  have hstop : ∀ c, (tl z)[a + (runL ((tl z).drop a)).length]? = some c → ¬ c ∈ tl smallS := fun c hc hm => by
    exact runL_stop ((tl z).drop a) c (by rw [List.getElem?_drop]; exact hc) hm
  refine ⟨fun m σ H' => ∃ j, j + m = (runL ((tl z).drop a)).length ∧ σ = [some (.str z), some (.int ((a + j : Nat) : Int))] ∧ H' = H, ⟨_, 0, Nat.zero_add _, rfl, rfl⟩, ?_⟩
  rintro m σ H' ⟨j, hj, rfl, rfl⟩
  refine ⟨_, rfl, _, rfl, z, rfl, hzl, _, _, rfl, rfl, _, rfl, ?_⟩
  refine ite2 (fun c1 => ?_) (fun c1 => ?_)
  · have c1' : ((a + j : Nat) : Int) < (z.length : Int) := of_decide_eq_true c1
    have hjl : a + j < (tl z).length := by omega
    refine ⟨_, rfl, _, rfl, z, _, (tl z)[a + j], rfl, rfl, hzl, atI_nat (List.getElem?_eq_getElem hjl), _, _, rfl, rfl, _, rfl, ?_⟩
    refine ite2 (fun c2 => ?_) (fun c2 => ?_)
    · have c2' : (tl z)[a + j] ∈ tl smallS := of_decide_eq_true c2
      have hm : m ≠ 0 := fun e => hstop _ (by rw [show (runL ((tl z).drop a)).length = j by omega]; exact List.getElem?_eq_getElem hjl) c2'
      refine ⟨fun σ' H'' => ∃ j, j + (m - 1) = (runL ((tl z).drop a)).length ∧ σ' = [some (.str z), some (.int ((a + j : Nat) : Int))] ∧ H'' = H', fun _ _ h => ⟨m - 1, by omega, h⟩, ?_⟩
      refine ⟨_, rfl, _, _, rfl, rfl, j + 1, by omega, ?_, rfl⟩
      rw [show ((a + (j + 1) : Nat) : Int) = ((a + j : Nat) : Int) + 1 by omega]
      rfl
    · have c2' : ¬ (tl z)[a + j] ∈ tl smallS := fun h => c2 (decide_eq_true h)
      have hm : m = 0 := by
        by_cases hm : m = 0
        · exact hm
        · obtain ⟨c, hc, hcs⟩ := hget j (by omega)
          rw [List.getElem?_eq_getElem hjl] at hc
          exact absurd (Option.some.inj hc ▸ hcs) c2'
      refine ⟨_, rfl, ?_⟩
      rw [show a + j = a + (runL ((tl z).drop a)).length by omega]
      exact q
  · have c1' : ¬ ((a + j : Nat) : Int) < (z.length : Int) := fun h => c1 (decide_eq_true h)
    refine iteF ?_
    refine ⟨_, rfl, ?_⟩
    rw [show a + j = a + (runL ((tl z).drop a)).length by omega]
    exact q
theorem ok_token_at (T : Txt K mg A D) : FnOk P w K mg base CX0 2 (A 2) (D 2) ["text", "at"] yTokAt := by
  refine T.F_token_at.ok sc_token_at (fun vs H Q E h => ?_) (fun cdv A' outer s H vs Q E hr h => ?_)
  · obtain ⟨z, a, rfl, _⟩ := h; rfl
  obtain ⟨z, a, rfl, ha, hz, q⟩ := h
  have hnd := sc_token_at.nd
  obtain ⟨tS, hSIGNS⟩ := T.c_SIGNS
  obtain ⟨tL, hLONGEST⟩ := T.c_LONGEST
  have G_end_of_run := ok_end_of_run (P := P) (w := w) (base := base) T
  have hzl : z.length ≤ sizeLine := by show z.length ≤ 16777216; omega
  have hl := len_tl z
  have hal : a < (tl z).length := by omega
  have hrl : (runL ((tl z).drop a)).length ≤ z.length - a := by have := runL_le ((tl z).drop a); rw [List.length_drop] at this; omega
  have hat : atI (tl z) (a : Int) = some (tl z)[a] := atI_nat (List.getElem?_eq_getElem hal)
  have hhd : ((tl z).drop a).headD 0 = (tl z)[a] := by rw [List.drop_eq_getElem_cons hal]; rfl
  have hrun : cutS z (some ((a : Nat) : Int)) (some ((a + (runL ((tl z).drop a)).length : Nat) : Int)) = S (runL ((tl z).drop a)) := by
    apply ext_tl
    rw [cut_mid, tl_S, Nat.add_sub_cancel_left]
    exact runL_take _
  have hnx : tl (cutS z (some ((a + (runL ((tl z).drop a)).length : Nat) : Int)) (some (((a + (runL ((tl z).drop a)).length : Nat) : Int) + 1))) = ((tl z).drop (a + (runL ((tl z).drop a)).length)).take 1 := by
    rw [show (((a + (runL ((tl z).drop a)).length : Nat) : Int) + 1) = ((a + (runL ((tl z).drop a)).length + 1 : Nat) : Int) by omega, cut_mid, Nat.add_sub_cancel_left]
  refine ⟨_, (pss_cons (ps_if (pt_cmpR op_in_sign (pe_ix ix_str (pv 0) (pv 1) (fun _ _ => rfl)) (pe_glob (v := V.str _) rfl hSIGNS ⟨_, rfl⟩) rfl) (pss_one (ps_ret (pe_tup (pa_cons (pe_tup (pa_cons pe_str (pa_cons (pe_ix ix_str (pv 0) (pv 1) (fun _ _ => rfl)) pa_nil))) (pa_cons (pe_op op_add (pv 1) pe_int) pa_nil))))) pss_nil) (pss_cons (ps_set (i := 2) hnd rfl (Or.inl rfl) (pe_call G_end_of_run (hr.mono (by first | decide | omega)) rfl T.m_end_of_run T.F_end_of_run.kp T.b_end_of_run .nil pass0 (pa_cons (pv 0) (pa_cons (pv 1) pa_nil)))) (pss_cons (ps_set (i := 3) hnd rfl (Or.inl rfl) (pe_slice sl_str (pv 0) (po_some (pv 1)) (po_some (pv 2)))) (pss_cons (ps_if (pt_cmpR op_eq (pv 3) pe_str (nomark _)) (pss_one (ps_ret (pe_tup (pa_cons (pe_tup (pa_cons pe_str (pa_cons (pe_ix ix_str (pv 0) (pv 1) (fun _ _ => rfl)) pa_nil))) (pa_cons (pe_op op_add (pv 1) pe_int) pa_nil))))) pss_nil) (pss_cons (ps_if (pt_cmpR op_gt (pe_callB call_len_str rfl T.z_len PySem.boot_len (pa_cons (pv 3) pa_nil)) (pe_glob (v := V.int _) rfl hLONGEST ⟨_, rfl⟩) (nomark _)) (pss_one (ps_ret (pe_tup (pa_cons (pe_tup (pa_cons pe_str (pa_cons (pv 3) pa_nil))) (pa_cons (pv 2) pa_nil))))) pss_nil) (pss_cons (ps_if (pt_cmpR op_eq (pe_slice sl_str (pv 0) (po_some (pv 2)) (po_some (pe_op op_add (pv 2) pe_int))) pe_str (nomark _)) (pss_one (ps_ret (pe_tup (pa_cons (pe_tup (pa_cons pe_str (pa_cons (pv 3) pa_nil))) (pa_cons (pe_op op_add (pv 2) pe_int) pa_nil))))) pss_nil) (pss_one (ps_ret (pe_tup (pa_cons (pe_tup (pa_cons pe_str (pa_cons (pv 3) pa_nil))) (pa_cons (pv 2) pa_nil))))))))))), ?_⟩
  refine ⟨_, rfl, _, rfl, z, _, _, rfl, rfl, hzl, hat, _, _, rfl, rfl, _, rfl, ?_⟩
  refine ite2 (fun c1 => ?_) (fun c1 => ?_)
  · have ht : tokAt ((tl z).drop a) = ((("sign" : Str), S [(tl z)[a]]), 1) := by
      unfold tokAt; rw [hhd, if_pos (show (tl z)[a] ∈ tl signsS from of_decide_eq_true c1)]
    rw [ht] at q
    refine ⟨_, rfl, _, rfl, z, _, _, rfl, rfl, hzl, hat, (by show 2 ≤ sizeLine; decide), fun q2 hq2 => ⟨_, rfl, _, _, rfl, rfl, (by show 2 ≤ sizeLine; decide), fun q1 hq1 => ?_⟩⟩
    have s2 := same_new (o := .tup [.str "sign", .str (S [(tl z)[a]])]) hq2
    exact q q1 q2 _ (same_upd s2 (s2.free hq1)) upd_same (by rw [upd_ne (ne_of_none upd_same hq1)]; exact upd_same)
  · have c1' : ¬ ((tl z)[a] ∈ tl signsS) := fun h => c1 (decide_eq_true h)
    refine ⟨_, rfl, _, rfl, z, a, rfl, by omega, hz, ?_⟩
    refine ⟨_, rfl, _, rfl, _, rfl, _, rfl, _, rfl, z, rfl, hzl, ?_⟩
    rw [hrun]
    refine ⟨_, rfl, rfl, _, rfl, ?_⟩
    refine ite2 (fun c2 => ?_) (fun c2 => ?_)
    · have c2' : runL ((tl z).drop a) = [] := by
        have := of_decide_eq_true c2
        injection this with this
        exact congrArg tl this
      have ht : tokAt ((tl z).drop a) = ((("bad" : Str), S [(tl z)[a]]), 1) := by
        unfold tokAt; rw [hhd, if_neg c1', if_pos c2']
      rw [ht] at q
      refine ⟨_, rfl, _, rfl, z, _, _, rfl, rfl, hzl, hat, (by show 2 ≤ sizeLine; decide), fun q2 hq2 => ⟨_, rfl, _, _, rfl, rfl, (by show 2 ≤ sizeLine; decide), fun q1 hq1 => ?_⟩⟩
      have s2 := same_new (o := .tup [.str "bad", .str (S [(tl z)[a]])]) hq2
      exact q q1 q2 _ (same_upd s2 (s2.free hq1)) upd_same (by rw [upd_ne (ne_of_none upd_same hq1)]; exact upd_same)
    · have c2' : ¬ runL ((tl z).drop a) = [] := fun h => c2 (decide_eq_true (by rw [h]; rfl))
      have hSl : (S (runL ((tl z).drop a))).length = (runL ((tl z).drop a)).length := len_tl _
      refine ⟨_, rfl, _, rfl, (by rw [hSl]; show _ ≤ 16777216; omega), _, _, rfl, rfl, _, rfl, ?_⟩
      refine ite2 (fun c3 => ?_) (fun c3 => ?_)
      · have c3' : (runL ((tl z).drop a)).length > 12 := by
          have : (12 : Int) < ((S (runL ((tl z).drop a))).length : Int) := of_decide_eq_true c3
          omega
        have ht : tokAt ((tl z).drop a) = ((("bad" : Str), S (runL ((tl z).drop a))), (runL ((tl z).drop a)).length) := by
          unfold tokAt; rw [hhd, if_neg c1', if_neg c2', if_pos c3']
        rw [ht] at q
        refine ⟨_, rfl, (by show 2 ≤ sizeLine; decide), fun q2 hq2 => ⟨_, rfl, (by show 2 ≤ sizeLine; decide), fun q1 hq1 => ?_⟩⟩
        have s2 := same_new (o := .tup [.str "bad", .str (S (runL ((tl z).drop a)))]) hq2
        exact q q1 q2 _ (same_upd s2 (s2.free hq1)) upd_same (by rw [upd_ne (ne_of_none upd_same hq1)]; exact upd_same)
      · have c3' : ¬ (runL ((tl z).drop a)).length > 12 := fun h => c3 (decide_eq_true (show (12 : Int) < ((S (runL ((tl z).drop a))).length : Int) by omega))
        refine ⟨_, rfl, _, rfl, _, rfl, _, rfl, _, _, rfl, rfl, _, rfl, z, rfl, hzl, rfl, _, rfl, ?_⟩
        refine ite2 (fun c4 => ?_) (fun c4 => ?_)
        · have c4' : ((tl z).drop a)[(runL ((tl z).drop a)).length]? = some 42 := by
            have := of_decide_eq_true c4
            injection this with this
            have e := hnx.symm.trans (congrArg tl this)
            rw [List.getElem?_drop]
            have e2 := congrArg (fun l => l[0]?) e
            rw [List.getElem?_take_of_lt (by decide), List.getElem?_drop] at e2
            exact e2
          have ht : tokAt ((tl z).drop a) = ((("start" : Str), S (runL ((tl z).drop a))), (runL ((tl z).drop a)).length + 1) := by
            unfold tokAt; rw [hhd, if_neg c1', if_neg c2', if_neg c3', if_pos c4']
          rw [ht] at q
          refine ⟨_, rfl, (by show 2 ≤ sizeLine; decide), fun q2 hq2 => ⟨_, rfl, _, _, rfl, rfl, (by show 2 ≤ sizeLine; decide), fun q1 hq1 => ?_⟩⟩
          have s2 := same_new (o := .tup [.str "start", .str (S (runL ((tl z).drop a)))]) hq2
          exact q q1 q2 _ (same_upd s2 (s2.free hq1)) upd_same (by rw [upd_ne (ne_of_none upd_same hq1)]; exact upd_same)
        · have c4' : ¬ ((tl z).drop a)[(runL ((tl z).drop a)).length]? = some 42 := fun h => c4 (decide_eq_true (congrArg V.str (ext_tl (by
            rw [hnx, ← List.drop_drop]
            obtain ⟨h1, h2⟩ := List.getElem?_eq_some_iff.mp h
            rw [List.drop_eq_getElem_cons h1, h2]
            rfl))))
          have ht : tokAt ((tl z).drop a) = ((("word" : Str), S (runL ((tl z).drop a))), (runL ((tl z).drop a)).length) := by
            unfold tokAt; rw [hhd, if_neg c1', if_neg c2', if_neg c3', if_neg c4']
          rw [ht] at q
          refine ⟨_, rfl, (by show 2 ≤ sizeLine; decide), fun q2 hq2 => ⟨_, rfl, (by show 2 ≤ sizeLine; decide), fun q1 hq1 => ?_⟩⟩
          have s2 := same_new (o := .tup [.str "word", .str (S (runL ((tl z).drop a)))]) hq2
          exact q q1 q2 _ (same_upd s2 (s2.free hq1)) upd_same (by rw [upd_ne (ne_of_none upd_same hq1)]; exact upd_same)
theorem ok_tokens_of (T : Txt K mg A D) : FnOk P w K mg base CX0 3 (A 1) (D 1) ["text"] (yToks K) := by
  refine T.F_tokens_of.ok sc_tokens_of (fun vs H Q E h => ?_) (fun cdv A' outer s H vs Q E hr h => ?_)
  · obtain ⟨z, due, rfl, _⟩ := h; rfl
  obtain ⟨z, due, rfl, hz, hT, q⟩ := h
  have hnd := sc_tokens_of.nd
  have G_token_at := ok_token_at (P := P) (w := w) (base := base) T
  have hzl : z.length ≤ sizeLine := by show z.length ≤ 16777216; omega
  have hl := len_tl z
  refine ⟨_, (pss_cons (ps_set (i := 1) hnd rfl (Or.inl rfl) (pe_lst pa_nil)) (pss_cons (ps_set (i := 2) hnd rfl (Or.inl rfl) pe_int) (pss_cons (ps_while PassesOwn.never (pt_cmpR op_lt (pv 2) (pe_callB call_len_str rfl T.z_len PySem.boot_len (pa_cons (pv 0) pa_nil)) (nomark _)) (pss_one (ps_if (pt_cmpR op_eq (pe_ix ix_str (pv 0) (pv 2) (fun _ _ => rfl)) pe_str (nomark _)) (pss_one (ps_aug (i := 2) hnd rfl (Or.inl rfl) pe_int ip_add)) (pss_cons (ps_asg (pe_call G_token_at (hr.mono (by first | decide | omega)) rfl T.m_token_at T.F_token_at.kp T.b_token_at .nil pass0 (pa_cons (pv 0) (pa_cons (pv 2) pa_nil))) (pg_tup rfl (pgs_cons (pg_name (i := 3) hnd rfl (Or.inl rfl)) (pgs_cons (pg_name (i := 2) hnd rfl (Or.inl rfl)) pgs_nil)))) (pss_one (ps_expr (pe_bm PySem.F.plainAttrs_list PySem.F.slot_list_append PySem.F.type_list_append mt_append (pv 1) (pa_cons (pv 3) pa_nil)))))))) (pss_one (ps_ret (pv 1)))))), ?_⟩
  refine ⟨(by decide), fun d hd => ?_⟩
  refine ⟨fun m σ H' => ∃ (n : Nat) (done rst : List (Str × Str)) (c3 : Option V), n ≤ z.length ∧ n + m = z.length ∧ done.length ≤ n ∧ σ = [some (.str z), some (.ref d), some (.int (n : Int)), c3] ∧ Same H H' ∧ LAt K H' d (done.map encT) ∧ due = done ++ rst ∧ Toks ((tl z).drop n) rst,
    ⟨z.length, 0, [], due, _, Nat.zero_le _, Nat.zero_add _, Nat.le_refl _, rfl, same_new hd, LAt.nil upd_same, rfl, hT⟩, ?_⟩
  rintro m σ H' ⟨n, done, rst, c3, hn, hm, hdn, rfl, s1, L1, rfl, hTn⟩
  refine ⟨_, rfl, _, rfl, z, rfl, hzl, _, _, rfl, rfl, _, rfl, ?_⟩
  refine ite2 (fun c1 => ?_) (fun c1 => ?_)
  · have c1' : (n : Int) < (z.length : Int) := of_decide_eq_true c1
    have hnl : n < (tl z).length := by omega
    have hat : atI (tl z) (n : Int) = some (tl z)[n] := atI_nat (List.getElem?_eq_getElem hnl)
    have hdr := List.drop_eq_getElem_cons hnl
    refine ⟨fun σ' H'' => ∃ m', m' < m ∧ ∃ (n : Nat) (done' rst' : List (Str × Str)) (c3 : Option V), n ≤ z.length ∧ n + m' = z.length ∧ done'.length ≤ n ∧ σ' = [some (.str z), some (.ref d), some (.int (n : Int)), c3] ∧ Same H H'' ∧ LAt K H'' d (done'.map encT) ∧ done ++ rst = done' ++ rst' ∧ Toks ((tl z).drop n) rst', fun _ _ h => h, ?_⟩
    refine ⟨_, rfl, _, rfl, z, _, _, rfl, rfl, hzl, hat, rfl, _, rfl, ?_⟩
    refine ite2 (fun c2 => ?_) (fun c2 => ?_)
    · have c2' : (tl z)[n] = 32 := by
        have := of_decide_eq_true c2
        injection this with this
        have e := congrArg tl this
        exact (List.cons.inj (e.trans (show tl (Str.ofString " ") = [32] by decide +kernel))).1
      refine ⟨_, rfl, _, _, rfl, rfl, m - 1, by omega, n + 1, done, rst, _, by omega, by omega, by omega, rfl, s1, L1, rfl, ?_⟩
      rw [hdr, c2'] at hTn
      cases hTn with
      | sp h => exact h
      | tok h _ => exact absurd rfl h
    · have c2' : (tl z)[n] ≠ 32 := fun e => c2 (decide_eq_true (congrArg V.str (ext_tl (by
        show [(tl z)[n]] = _
        rw [e]; decide +kernel))))
      refine ⟨_, rfl, _, rfl, z, n, rfl, by omega, hz, fun q1 q2 H2 s2 h1 h2 => ?_⟩
      refine ⟨q1, _, rfl, SqT.of h1, rfl, _, _, rfl, _, _, rfl, rfl, ?_⟩
      have hpos := tokAt_pos ((tl z).drop n)
      have hle := tokAt_le (cs := (tl z).drop n) (fun e => by rw [hdr] at e; cases e)
      rw [List.length_drop] at hle
      obtain ⟨vs, e1, e2, e3⟩ := L1.same s2
      refine ⟨_, rfl, .inl ⟨rfl, _, SqL.of e1⟩, _, rfl, d, _, _, rfl, rfl, e1, (by rw [DpAll.len e2, List.length_map]; exact len_lt (by omega)), ?_⟩
      rw [hdr] at hTn
      generalize hcs : (tl z)[n] :: (tl z).drop (n + 1) = cs at hTn hdr
      cases hTn with
      | nil => cases hcs
      | sp h => injection hcs with hc _; exact absurd hc c2'
      | tok hc hT2 =>
        rename_i c r ts
        refine ⟨m - (tokAt (c :: r)).2, by rw [← hdr]; omega, n + (tokAt (c :: r)).2, done ++ [(tokAt (c :: r)).1], ts, some (.ref q2), by rw [← hdr]; omega, by rw [← hdr]; omega, by rw [List.length_append, List.length_singleton, ← hdr]; omega, ?_, same_upd (s1.trans s2) hd, ?_, by rw [List.append_assoc]; rfl, ?_⟩
        · rw [← hdr]; rfl
        · rw [List.map_append]
          refine LAt.push e1 e2 e3 (.tup (SqT.of h2) ?_) (imm_encT _)
          rw [hdr]
          exact .cons (.str _) (.cons (.str _) .nil)
        · rw [← List.drop_drop, hdr]; exact hT2
  · have c1' : ¬ (n : Int) < (z.length : Int) := fun h => c1 (decide_eq_true h)
    refine ⟨_, rfl, ?_⟩
    rw [List.drop_eq_nil_of_le (by omega)] at hTn
    cases hTn
    rw [List.append_nil] at q
    exact q d H' s1 hd L1
end

section
variable {P : Program} {w : World} {K : PySem.W.Frag} {mg : Str → Option Value} {base : Heap} {A : Nat → Addr} {D : Nat → FuncData}
theorem ok_tokens (T : Txt K mg A D) : FnOk P w K mg base CX0 4 (A 0) (D 0) ["text"] (yToks K) := by
  refine T.F_tokens.ok sc_tokens (fun vs H Q E h => ?_) (fun cdv A' outer s H vs Q E hr h => ?_)
  · obtain ⟨z, due, rfl, _⟩ := h; rfl
  obtain ⟨z, due, rfl, h⟩ := h
  have hnd := sc_tokens.nd
  have G_tokens_of := ok_tokens_of (P := P) (w := w) (base := base) T
  refine ⟨_, (pss_one (ps_ret (pe_call G_tokens_of (hr.mono (by first | decide | omega)) rfl T.m_tokens_of T.F_tokens_of.kp T.b_tokens_of .nil pass0 (pa_cons (pv 0) pa_nil)))), ?_⟩
  exact ⟨_, rfl, z, due, rfl, h⟩
end

/-! ### laid tokens -/
def NoStick (r : List Nat) : Prop := ∀ c, r.head? = some c → ¬ c ∈ tl smallS ∧ c ≠ 42
def LastL (x : Str) : Prop := ∃ c, (tl x).getLast? = some c ∧ c ∈ tl smallS
structure TokOK (t : Str × Str) (x : Str) : Prop where
  run : ∀ r tr, (LastL x → NoStick r) → Toks r tr → Toks (tl x ++ r) (t :: tr)
  ne : 1 ≤ x.length ∧ x.length ≤ 20
  star : (tl x).head? = some 42 → tl x = [42]
theorem sign_small : ∀ c ∈ tl signsS, ¬ c ∈ tl smallS := by decide +kernel
theorem small_sign : ∀ c ∈ tl smallS, ¬ c ∈ tl signsS := by decide +kernel
theorem sign_32 : ∀ c ∈ tl signsS, c ≠ 32 := by decide +kernel
theorem small_32 : ∀ c ∈ tl smallS, c ≠ 32 := by decide +kernel
theorem star_small : ¬ 42 ∈ tl smallS := by decide +kernel
theorem runL_app : ∀ (u r : List Nat), (∀ c ∈ u, c ∈ tl smallS) → (∀ c, r.head? = some c → ¬ c ∈ tl smallS) → runL (u ++ r) = u
  | [], [], _, _ => rfl
  | [], c :: r, _, h => by
    show runL (c :: r) = []
    rw [runL_cons, if_neg (h c rfl)]
  | c :: u, r, h1, h2 => by
    show runL (c :: (u ++ r)) = c :: u
    rw [runL_cons, if_pos (h1 c List.mem_cons_self), runL_app u r (fun d hd => h1 d (List.mem_cons_of_mem _ hd)) h2]
theorem tok_use {cs r : List Nat} {t : Str × Str} {tr : List (Str × Str)} {c : Nat} {u : List Nat} (hc : cs = c :: u) (h32 : c ≠ 32) (ht : tokAt cs = (t, n)) (hd : cs.drop n = r) (h : Toks r tr) : Toks cs (t :: tr) := by
  subst hc
  have := Toks.tok (c := c) (r := u) (ts := tr) h32 (by rw [ht, hd]; exact h)
  rw [ht] at this
  exact this
theorem run_first {u : List Nat} (hu : ∀ c ∈ u, c ∈ tl smallS) (h0 : u ≠ []) : ∃ c v, u = c :: v ∧ c ∈ tl smallS := by
  cases u with
  | nil => exact absurd rfl h0
  | cons c v => exact ⟨c, v, rfl, hu c List.mem_cons_self⟩
theorem last_small {u : List Nat} (hu : ∀ c ∈ u, c ∈ tl smallS) (h0 : u ≠ []) : ∃ c, u.getLast? = some c ∧ c ∈ tl smallS :=
  ⟨u.getLast h0, List.getLast?_eq_some_getLast h0, hu _ (List.getLast_mem h0)⟩
theorem ok_word {u : List Nat} (hu : ∀ c ∈ u, c ∈ tl smallS) (h0 : u ≠ []) (hl : u.length ≤ 12) : TokOK (("word" : Str), S u) (S u) := by
  obtain ⟨c, v, e, hc⟩ := run_first hu h0
  refine ⟨fun r tr hs h => ?_, ?_, fun h => ?_⟩
  · have hn := hs (last_small hu h0)
    have hr : runL (u ++ r) = u := runL_app u r hu fun d hd => (hn d hd).1
    refine tok_use (n := u.length) (c := c) (u := v ++ r) (by rw [tl_S, e]; rfl) (small_32 c hc) ?_ ?_ h
    · have hh : (tl (S u) ++ r).headD 0 = c := by rw [tl_S, e]; rfl
      unfold tokAt
      rw [hh, if_neg (small_sign c hc)]
      rw [show runL (tl (S u) ++ r) = u from hr, if_neg h0, if_neg (by omega), if_neg]
      intro h42
      rw [tl_S, List.getElem?_append_right (Nat.le_refl _), Nat.sub_self] at h42
      rw [← List.head?_eq_getElem?] at h42
      exact (hn 42 h42).2 rfl
    · rw [tl_S]; simp
  · have : (S u).length = u.length := len_tl _
    have : 1 ≤ u.length := List.length_pos_iff.mpr h0
    omega
  · rw [tl_S, e] at h
    have e2 : c = 42 := Option.some.inj h
    rw [e2] at hc
    exact absurd hc star_small
theorem ok_long {u : List Nat} (hu : ∀ c ∈ u, c ∈ tl smallS) (h0 : u ≠ []) (hl : 12 < u.length) (hl2 : u.length ≤ 20) : TokOK (("bad" : Str), S u) (S u) := by
  obtain ⟨c, v, e, hc⟩ := run_first hu h0
  refine ⟨fun r tr hs h => ?_, ?_, fun h => ?_⟩
  · have hn := hs (last_small hu h0)
    have hr : runL (u ++ r) = u := runL_app u r hu fun d hd => (hn d hd).1
    refine tok_use (n := u.length) (c := c) (u := v ++ r) (by rw [tl_S, e]; rfl) (small_32 c hc) ?_ ?_ h
    · have hh : (tl (S u) ++ r).headD 0 = c := by rw [tl_S, e]; rfl
      unfold tokAt
      rw [hh, if_neg (small_sign c hc)]
      rw [show runL (tl (S u) ++ r) = u from hr, if_neg h0, if_pos (by omega)]
    · rw [tl_S]; simp
  · have : (S u).length = u.length := len_tl _
    omega
  · rw [tl_S, e] at h
    have e2 : c = 42 := Option.some.inj h
    rw [e2] at hc
    exact absurd hc star_small
theorem ok_start {u : List Nat} (hu : ∀ c ∈ u, c ∈ tl smallS) (h0 : u ≠ []) (hl : u.length ≤ 12) : TokOK (("start" : Str), S u) (S u ++ ("*" : Str)) := by
  obtain ⟨c, v, e, hc⟩ := run_first hu h0
  have hx : tl (S u ++ ("*" : Str)) = u ++ [42] := by rw [tl_append]; rfl
  refine ⟨fun r tr hs h => ?_, ?_, fun h => ?_⟩
  · have hr : runL (u ++ 42 :: r) = u := runL_app u (42 :: r) hu fun d hd => by
      have e2 : 42 = d := Option.some.inj hd
      rw [← e2]; exact star_small
    have hx2 : tl (S u ++ ("*" : Str)) ++ r = u ++ 42 :: r := by rw [hx, List.append_assoc]; rfl
    rw [hx2]
    refine tok_use (n := u.length + 1) (c := c) (u := v ++ 42 :: r) (by rw [e]; rfl) (small_32 c hc) ?_ ?_ h
    · have hh : (u ++ 42 :: r).headD 0 = c := by rw [e]; rfl
      unfold tokAt
      rw [hh, if_neg (small_sign c hc), hr, if_neg h0, if_neg (by omega), if_pos]
      rw [List.getElem?_append_right (Nat.le_refl _), Nat.sub_self]; rfl
    · rw [show u ++ 42 :: r = (u ++ [42]) ++ r by rw [List.append_assoc]; rfl]
      exact List.drop_left' (by simp)
  · have e3 : (S u ++ ("*" : Str)).length = u.length + 1 := by rw [len_tl, hx, List.length_append, List.length_singleton]
    omega
  · rw [hx, e] at h
    have e2 : c = 42 := Option.some.inj h
    rw [e2] at hc
    exact absurd hc star_small
theorem ok_sign {c : Nat} (hc : c ∈ tl signsS) : TokOK (("sign" : Str), S [c]) (S [c]) := by
  refine ⟨fun r tr _ h => ?_, ⟨(show 1 ≤ 1 by decide), (show 1 ≤ 20 by decide)⟩, fun h => ?_⟩
  · refine tok_use (n := 1) (c := c) (u := r) rfl (sign_32 c hc) ?_ rfl h
    unfold tokAt
    exact if_pos hc
  · rw [tl_S] at h ⊢
    have e2 : c = 42 := Option.some.inj h
    rw [e2]
theorem ok_other {c : Nat} (h1 : ¬ c ∈ tl signsS) (h2 : ¬ c ∈ tl smallS) (h3 : c ≠ 32) : TokOK (("bad" : Str), S [c]) (S [c]) := by
  refine ⟨fun r tr _ h => ?_, ⟨(show 1 ≤ 1 by decide), (show 1 ≤ 20 by decide)⟩, fun h => ?_⟩
  · refine tok_use (n := 1) (c := c) (u := r) rfl h3 ?_ rfl h
    show tokAt (c :: r) = _
    unfold tokAt
    rw [if_neg (show ¬ (c :: r).headD 0 ∈ tl signsS from h1), if_pos (show runL (c :: r) = [] by rw [runL_cons, if_neg h2])]
    rfl
  · rw [tl_S] at h ⊢
    have e2 : c = 42 := Option.some.inj h
    rw [e2]
theorem toks_sp : ∀ (n : Nat) {r : List Nat} {tr : List (Str × Str)}, Toks r tr → Toks (List.replicate n 32 ++ r) tr
  | 0, _, _, h => h
  | n + 1, _, _, h => .sp (toks_sp n h)
/-- what stands so far, whatever comes behind -/
def Pre (cs : List Nat) (ts : List (Str × Str)) (st : Prop) : Prop := ∀ r tr, (st → NoStick r) → Toks r tr → Toks (cs ++ r) (ts ++ tr)
theorem pre_sp (n : Nat) : Pre (List.replicate n 32) [] False := fun _ _ _ h => toks_sp n h
def Sticky (x : Str) : Prop := (∃ c, (tl x).head? = some c ∧ c ∈ tl smallS) ∨ x = "*"
theorem Pre.more {cs : List Nat} {ts : List (Str × Str)} {st : Prop} {t : Str × Str} {x : Str} (p : Pre cs ts st) (k : TokOK t x) (n : Nat) (h : st → 1 ≤ n ∨ ¬ Sticky x) : Pre (cs ++ List.replicate n 32 ++ tl x) (ts ++ [t]) (LastL x) := by
  intro r tr hs hr
  have h1 := k.run r tr hs hr
  have h2 := p (List.replicate n 32 ++ (tl x ++ r)) (t :: tr) (fun hst c hc => ?_) (toks_sp n h1)
  · have e : cs ++ List.replicate n 32 ++ tl x ++ r = cs ++ (List.replicate n 32 ++ (tl x ++ r)) := by rw [List.append_assoc, List.append_assoc]
    rw [e, List.append_assoc]
    exact h2
  · cases n with
    | succ n =>
      rw [List.replicate_succ] at hc
      have e : 32 = c := Option.some.inj hc
      rw [← e]; decide +kernel
    | zero =>
      have hns : ¬ Sticky x := by
        rcases h hst with h | h
        · omega
        · exact h
      have hx : tl x ≠ [] := fun e => by
        have := k.ne.1
        rw [len_tl, e] at this
        exact absurd this (by decide)
      cases e : tl x with
      | nil => exact absurd e hx
      | cons d v =>
        rw [e] at hc
        have e2 : d = c := Option.some.inj hc
        subst e2
        refine ⟨fun hm => hns (.inl ⟨d, by rw [e]; rfl, hm⟩), fun h42 => hns (.inr ?_)⟩
        have := k.star (by rw [e, h42]; rfl)
        exact ext_tl (this.trans (by decide +kernel))



structure Itm where
  t : Str × Str
  x : Str
def Itm.vs (i : Itm) : List V := [.str i.t.1, .str i.t.2, .str i.x]
def otherS : Str := "ABZ!#$&'+,./:;=?[\\]^_`{}~\n"
theorem other_ok : ∀ c ∈ tl otherS, ¬ c ∈ tl signsS ∧ ¬ c ∈ tl smallS ∧ c ≠ 32 := by decide +kernel
def yTok1 (K : PySem.W.Frag) : Sp := fun vs H Q _ => ∃ (b p : Addr), vs = [.ref b] ∧ BoxAt H b p ∧
  ∀ (l : Addr) (i : Itm) (H' : Hp), H' l = some (.lst i.vs) → H l = none → TokOK i.t i.x → BoxAt H' b p → Kp b H H' → Q (.ref l) H'
theorem Kp.free {b : Addr} {H H' : Hp} {l : Addr} (k : Kp b H H') (h : H' l = none) (n : l ≠ b) : H l = none := by
  cases q : H l with
  | none => rfl
  | some o => rw [k l o q n] at h; cases h
section
variable {P : Program} {w : World} {K : PySem.W.Frag} {mg : Str → Option Value} {base : Heap} {A : Nat → Addr} {D : Nat → FuncData}
theorem ok_ltoken (T : Txt K mg A D) : FnOk P w K mg base CX0 3 (A 10) (D 10) ["box"] (yTok1 K) := by
  refine T.F__law_token.ok sc__law_token (fun vs H Q E h => ?_) (fun cdv A' outer s H vs Q E hr h => ?_)
  · obtain ⟨b, p, rfl, _⟩ := h; rfl
  obtain ⟨b, p, rfl, B, q⟩ := h
  have hnd := sc__law_token.nd
  have G__law_draw := ok_draw (P := P) (w := w) (base := base) T
  have G__law_run := ok_run (P := P) (w := w) (base := base) T
  refine ⟨_, (pss_cons (ps_set (i := 1) hnd rfl (Or.inl rfl) (pe_call G__law_draw (hr.mono (by first | decide | omega)) rfl T.m__law_draw T.F__law_draw.kp T.b__law_draw .nil pass0 (pa_cons (pv 0) (pa_cons pe_int pa_nil)))) (pss_cons (ps_if (pt_cmpR op_lt (pv 1) pe_int (nomark _)) (pss_cons (ps_set (i := 2) hnd rfl (Or.inl rfl) (pe_call G__law_run (hr.mono (by first | decide | omega)) rfl T.m__law_run T.F__law_run.kp T.b__law_run .nil pass0 (pa_cons (pv 0) (pa_cons (pe_op op_add pe_int (pe_call G__law_draw (hr.mono (by first | decide | omega)) rfl T.m__law_draw T.F__law_draw.kp T.b__law_draw .nil pass0 (pa_cons (pv 0) (pa_cons (pe_ix (r := rIxL K) ix_list (pe_lst (pa_cons pe_int (pa_cons pe_int pa_nil))) (pe_call G__law_draw (hr.mono (by first | decide | omega)) rfl T.m__law_draw T.F__law_draw.kp T.b__law_draw .nil pass0 (pa_cons (pv 0) (pa_cons pe_int pa_nil))) (fun _ _ => rfl)) pa_nil)))) (pa_cons pe_str pa_nil))))) (pss_cons (ps_if (pt_cmpR op_gt (pe_callB call_len_str rfl T.z_len PySem.boot_len (pa_cons (pv 2) pa_nil)) pe_int (nomark _)) (pss_one (ps_ret (pe_lst (pa_cons pe_str (pa_cons (pv 2) (pa_cons (pv 2) pa_nil)))))) pss_nil) (pss_cons (ps_if (pt_cmpR op_eq (pv 1) pe_int (nomark _)) (pss_one (ps_ret (pe_lst (pa_cons pe_str (pa_cons (pv 2) (pa_cons (pe_op op_add_str (pv 2) pe_str) pa_nil)))))) pss_nil) (pss_one (ps_ret (pe_lst (pa_cons pe_str (pa_cons (pv 2) (pa_cons (pv 2) pa_nil))))))))) pss_nil) (pss_cons (ps_if (pt_cmpR op_eq (pv 1) pe_int (nomark _)) (pss_cons (ps_set (i := 3) hnd rfl (Or.inl rfl) (pe_ix ix_str pe_str (pe_call G__law_draw (hr.mono (by first | decide | omega)) rfl T.m__law_draw T.F__law_draw.kp T.b__law_draw .nil pass0 (pa_cons (pv 0) (pa_cons pe_int pa_nil))) (fun _ _ => rfl))) (pss_one (ps_ret (pe_lst (pa_cons pe_str (pa_cons (pv 3) (pa_cons (pv 3) pa_nil))))))) pss_nil) (pss_cons (ps_set (i := 4) hnd rfl (Or.inl rfl) (pe_ix ix_str pe_str (pe_call G__law_draw (hr.mono (by first | decide | omega)) rfl T.m__law_draw T.F__law_draw.kp T.b__law_draw .nil pass0 (pa_cons (pv 0) (pa_cons pe_int pa_nil))) (fun _ _ => rfl))) (pss_one (ps_ret (pe_lst (pa_cons pe_str (pa_cons (pv 4) (pa_cons (pv 4) pa_nil)))))))))), ?_⟩
  refine ⟨_, rfl, b, p, _, rfl, B, (by decide), fun r1 H1 h10 h11 B1 k1 => ?_⟩
  have fin : ∀ (i : Itm) (H' : Hp), TokOK i.t i.x → BoxAt H' b p → Kp b H H' → ∀ l, H' l = none → Q (.ref l) (upd H' l (.lst i.vs)) := fun i H' ok B' k l hl =>
    q l i _ upd_same (k.free hl (B'.ne hl).1) ok (B'.keep (same_new hl)) (k.trans (Kp.of (same_new hl)))
  refine ⟨_, rfl, _, _, rfl, rfl, _, rfl, ?_⟩
  refine ite2 (fun _ => ?_) (fun _ => ?_)
  · refine ⟨_, rfl, _, rfl, (by show 2 ≤ sizeLine; decide), fun l4 hl4 => ⟨_, rfl, b, p, _, rfl, B1.keep (same_new hl4), (by decide), fun r3 H3 h30 h31 B3 k3 => ⟨l4, _, r3, _, rfl, rfl, SqL.of (k3 _ _ upd_same (B1.ne hl4).1), pick2i h30 h31, b, p, _, rfl, B3, (by split <;> decide), fun r4 H4 h40 h41 B4 k4 => ?_⟩⟩⟩
    have h42 : r4 < 15 := by split at h41 <;> omega
    refine ⟨_, _, rfl, rfl, b, p, _, smallL, rfl, B4, (by decide +kernel), (by decide +kernel), (by omega), (by omega), fun w0 H5 hw0L hl0 B5 k5 => ?_⟩
    have hw0 : ∀ c ∈ tl w0, c ∈ tl smallS := fun c hc => small_LS c (hw0L c hc)
    have kk : Kp b H H5 := (((k1.trans (Kp.of (same_new hl4))).trans k3).trans k4).trans k5
    have hwl : w0.length = (tl w0).length := len_tl w0
    have hne : tl w0 ≠ [] := fun e => by rw [e] at hwl; simp at hwl; omega
    refine ⟨_, rfl, _, rfl, (by show w0.length ≤ 16777216; omega), _, _, rfl, rfl, _, rfl, ?_⟩
    refine ite2 (fun c2 => ?_) (fun c2 => ?_)
    · have c2' : (12 : Int) < (w0.length : Int) := of_decide_eq_true c2
      have ok := ok_long hw0 hne (by omega) (by omega)
      rw [S_tl] at ok
      exact ⟨_, rfl, _, rfl, (by show 3 ≤ sizeLine; decide), fin ⟨_, w0⟩ H5 ok B5 kk⟩
    · have c2' : ¬ (12 : Int) < (w0.length : Int) := fun h => c2 (decide_eq_true h)
      refine ⟨_, rfl, rfl, _, rfl, ?_⟩
      refine ite2 (fun c3 => ?_) (fun c3 => ?_)
      · have ok := ok_start hw0 hne (by omega)
        rw [S_tl] at ok
        exact ⟨_, rfl, _, rfl, _, _, rfl, rfl, (by show w0.length + 1 ≤ 16777216; omega), (by show 3 ≤ sizeLine; decide), fin ⟨_, w0 ++ ("*" : Str)⟩ H5 ok B5 kk⟩
      · have ok := ok_word hw0 hne (by omega)
        rw [S_tl] at ok
        exact ⟨_, rfl, _, rfl, (by show 3 ≤ sizeLine; decide), fin ⟨_, w0⟩ H5 ok B5 kk⟩
  · refine ⟨_, rfl, rfl, _, rfl, ?_⟩
    refine ite2 (fun c1 => ?_) (fun c1 => ?_)
    · refine ⟨_, rfl, b, p, _, rfl, B1, (by decide), fun r3 H3 h30 h31 B3 k3 => ?_⟩
      obtain ⟨c, hc, hm⟩ := atI_mem (l := tl signsS) h30 h31
      refine ⟨signsS, r3, c, rfl, rfl, (by decide +kernel), hc, ?_⟩
      exact ⟨_, rfl, _, rfl, (by show 3 ≤ sizeLine; decide), fin ⟨_, S [c]⟩ H3 (ok_sign hm) B3 (k1.trans k3)⟩
    · refine ⟨_, rfl, b, p, _, rfl, B1, (by decide), fun r3 H3 h30 h31 B3 k3 => ?_⟩
      obtain ⟨c, hc, hm⟩ := atI_mem (l := tl otherS) h30 h31
      have hok := other_ok c hm
      refine ⟨otherS, r3, c, rfl, rfl, (by decide +kernel), hc, ?_⟩
      exact ⟨_, rfl, _, rfl, (by show 3 ≤ sizeLine; decide), fin ⟨_, S [c]⟩ H3 (ok_other hok.1 hok.2.1 hok.2.2) B3 (k1.trans k3)⟩
end

def yLaid (K : PySem.W.Frag) : Sp := fun vs H Q _ => ∃ (b p e : Addr) (items : List Itm), vs = [.ref b, .ref e] ∧ BoxAt H b p ∧ H e = some (.lst (items.map fun i => V.str i.x)) ∧ e ≠ b ∧ items.length ≤ 20 ∧ (∀ i ∈ items, TokOK i.t i.x) ∧
  ∀ (t : Str) (H' : Hp), Toks (tl t) (items.map fun i => i.t) → t.length ≤ 1000 → BoxAt H' b p → Kp b H H' → Q (.str t) H'
theorem blank_is : V.str (Str.ofString " ") = V.str ⟨#[32]⟩ := congrArg V.str (by decide +kernel)
theorem nostick_sp (n : Nat) : NoStick (List.replicate n 32) := fun c hc => by
  cases n with
  | zero => cases hc
  | succ n =>
    rw [List.replicate_succ] at hc
    have e : 32 = c := Option.some.inj hc
    rw [← e]; decide +kernel
theorem rep_len (n : Nat) : (⟨(List.replicate n 32).toArray⟩ : Str).length = n := by
  rw [len_tl, show tl (⟨(List.replicate n 32).toArray⟩ : Str) = List.replicate n 32 from rfl, List.length_replicate]
theorem atI_end {l : List Nat} {c : Nat} (h : l.getLast? = some c) : atI l (-1) = some c := by
  obtain ⟨h1, h2⟩ := List.getLast?_eq_some_iff.mp h
  rw [h2]; exact atI_last _ _
section
variable {P : Program} {w : World} {K : PySem.W.Frag} {mg : Str → Option Value} {base : Heap} {A : Nat → Addr} {D : Nat → FuncData}
def StAt (items : List Itm) (i : Nat) : Prop := ∃ j it, i = j + 1 ∧ items[j]? = some it ∧ LastL it.x
theorem ok_laid (T : Txt K mg A D) : FnOk P w K mg base CX0 2 (A 9) (D 9) ["box", "texts"] (yLaid K) := by
  refine T.F__law_laid.ok sc__law_laid (fun vs H Q E h => ?_) (fun cdv A' outer s H vs Q E hr h => ?_)
  · obtain ⟨b, p, e, items, rfl, _⟩ := h; rfl
  obtain ⟨b, p, e, items, rfl, B, he, heb, hn, hok, q⟩ := h
  have hnd := sc__law_laid.nd
  have G__law_draw := ok_draw (P := P) (w := w) (base := base) T
  have hge : ∀ i (hi : i < items.length), (items.map fun i => V.str i.x)[i]? = some (V.str items[i].x) := fun i hi => by
    rw [List.getElem?_map, List.getElem?_eq_getElem hi]; rfl
  refine ⟨_, (pss_cons (ps_set (i := 2) hnd rfl (Or.inl rfl) pe_str) (pss_cons (ps_set (i := 3) hnd rfl (Or.inl rfl) (pe_op op_mul_sp pe_str (pe_op op_fdiv (pe_call G__law_draw (hr.mono (by first | decide | omega)) rfl T.m__law_draw T.F__law_draw.kp T.b__law_draw .nil pass0 (pa_cons (pv 0) (pa_cons pe_int pa_nil))) pe_int))) (pss_cons (ps_for PassesOwn.never rfl (pi_range1 rfl T.z_range (pa_cons (pe_callB call_len_seq rfl T.z_len PySem.boot_len (pa_cons (pv 1) pa_nil)) pa_nil)) (pg_name (i := 4) hnd rfl (Or.inl rfl)) (pss_cons (ps_set (i := 5) hnd rfl (Or.inl rfl) (pe_op op_fdiv (pe_call G__law_draw (hr.mono (by first | decide | omega)) rfl T.m__law_draw T.F__law_draw.kp T.b__law_draw .nil pass0 (pa_cons (pv 0) (pa_cons pe_int pa_nil))) pe_int)) (pss_cons (ps_if (PW.pt (pw_and (pt_cmpR op_gt (pv 4) pe_int (nomark _)) (pw_and (pt_cmpR op_in_sign (pe_ix ix_str (pe_ix ix_list (pv 1) (pe_op op_sub (pv 4) pe_int) (fun _ _ => rfl)) (pe_un un_neg pe_int) (fun _ _ => rfl)) (pv 2) rfl) (pw_and1 (PW.pt (pw_or (pt_cmpR op_in_sign (pe_ix ix_str (pe_ix ix_list (pv 1) (pv 4) (fun _ _ => rfl)) pe_int (fun _ _ => rfl)) (pv 2) rfl) (pw_or1 (pt_cmpR op_eq (pe_ix (r := rIxL K) ix_list (pv 1) (pv 4) (fun _ _ => rfl)) pe_str (nomark _))))))))) (pss_one (ps_set (i := 5) hnd rfl (Or.inl rfl) (pe_callB (call_max2 rfl) rfl T.z_max (by decide +kernel) (pa_cons pe_int (pa_cons (pv 5) pa_nil))))) pss_nil) (pss_one (ps_set (i := 3) hnd rfl (Or.inl rfl) (pe_op op_add_str (pe_op op_add_str (pv 3) (pe_op op_mul_sp pe_str (pv 5))) (pe_ix (r := rIxL K) ix_list (pv 1) (pv 4) (fun _ _ => rfl)))))))) (pss_one (ps_ret (pe_op op_add_str (pv 3) (pe_op op_mul_sp pe_str (pe_op op_fdiv (pe_call G__law_draw (hr.mono (by first | decide | omega)) rfl T.m__law_draw T.F__law_draw.kp T.b__law_draw .nil pass0 (pa_cons (pv 0) (pa_cons pe_int pa_nil))) pe_int)))))))), ?_⟩
  refine ⟨_, rfl, b, p, _, rfl, B, (by decide), fun r1 H1 h10 h11 B1 k1 => ⟨_, _, rfl, rfl, ⟨by decide, by decide⟩, 32, (r1 / 3).toNat, blank_is, congrArg V.int (by omega), (by omega), ?_⟩⟩
  have he1 := k1 _ _ he heb
  refine ⟨_, rfl, e, _, rfl, .inl (SqL.of he1), _, rfl, (by rw [List.length_map]; omega), (by rw [List.length_map]; omega), ?_⟩
  rw [show (((items.map fun i => V.str i.x).length : Nat) : Int).toNat = items.length by rw [List.length_map]; omega]
  refine for_range (n := items.length) (fun i σ H' => ∃ (t : Str) (c4 c5 : Option V), σ = [some (.ref b), some (.ref e), some (.str smallL), some (.str t), c4, c5] ∧ BoxAt H' b p ∧ Kp b H H' ∧ Pre (tl t) ((items.take i).map fun i => i.t) (StAt items i) ∧ t.length ≤ 2 + 24 * i)
    ⟨_, _, _, rfl, B1, k1, fun r tr _ h => toks_sp _ h, by rw [rep_len]; omega⟩ ?_ ?_
  · rintro i σ H2 hi ⟨t, c4, c5, rfl, B2, k2, p2, l2⟩
    have he2 := k2 _ _ he heb
    have hoki := hok _ (List.getElem_mem hi)
    have hx := hoki.ne
    have hxl : items[i].x.length ≤ sizeLine := by show _ ≤ 16777216; omega
    refine ⟨_, rfl, b, p, _, rfl, B2, (by decide), fun r3 H3 h30 h31 B3 k3 => ⟨_, _, rfl, rfl, ⟨by decide, by decide⟩, ?_⟩⟩
    have he3 := k3 _ _ he2 heb
    obtain ⟨n, hnn⟩ : ∃ n : Nat, r3 / 3 = (n : Int) := ⟨(r3 / 3).toNat, by omega⟩
    have rest : ∀ (n : Nat) (z : Int), z = (n : Int) → n ≤ 2 → (StAt items i → 1 ≤ n ∨ ¬ Sticky items[i].x) →
        tAsg (tOp (fun x y H Q => ∃ i j, x = .str i ∧ y = .str j ∧ i.length + j.length ≤ sizeLine ∧ Q (.str (i ++ j)) H) (tOp (fun x y H Q => ∃ i j, x = .str i ∧ y = .str j ∧ i.length + j.length ≤ sizeLine ∧ Q (.str (i ++ j)) H) (tVar 3) (tOp rMulSp (tC (.str (Str.ofString " "))) (tVar 5))) (tOp (rIxL K) (tVar 1) (tVar 4))) (gName 3)
          { nx := fun σ H' => ∃ (t : Str) (c4 c5 : Option V), σ = [some (.ref b), some (.ref e), some (.str smallL), some (.str t), c4, c5] ∧ BoxAt H' b p ∧ Kp b H H' ∧ Pre (tl t) ((items.take (i + 1)).map fun i => i.t) (StAt items (i + 1)) ∧ t.length ≤ 2 + 24 * (i + 1), rt := Q }
          [some (.ref b), some (.ref e), some (.str smallL), some (.str t), some (.int (0 + (i : Int))), some (.int z)] H3 := by
      rintro n z rfl hn2 hst
      have e1 : (t ++ (⟨(List.replicate n 32).toArray⟩ : Str)).length = t.length + n := by
        rw [len_tl, tl_append, List.length_append, ← len_tl, ← len_tl, rep_len]
      refine ⟨_, rfl, _, rfl, 32, n, blank_is, rfl, (by omega), _, _, rfl, rfl, (by rw [rep_len]; show _ ≤ 16777216; omega), _, rfl, _, rfl, e, _, _, _, rfl, rfl, SqL.of he3, at_of (Int.zero_add _) (hge i hi), _, _, rfl, rfl, (by rw [e1]; show _ ≤ 16777216; omega), ?_⟩
      refine ⟨_, _, _, rfl, B3, k2.trans k3, ?_, ?_⟩
      · have h1 := p2.more hoki n hst
        rw [tl_append, tl_append, List.take_add_one, List.getElem?_eq_getElem hi, List.map_append]
        intro r tr hs hr2
        exact h1 r tr (fun hl => hs ⟨i, items[i], rfl, List.getElem?_eq_getElem hi, hl⟩) hr2
      · rw [len_tl, tl_append, List.length_append, ← len_tl, ← len_tl, e1]; omega
    refine ⟨_, rfl, _, _, rfl, rfl, _, rfl, ?_⟩
    refine ite2 (fun c1 => ?_) (fun c1 => ?_)
    · have hi0 : 0 < i := by
        have : (0 : Int) < 0 + (i : Int) := of_decide_eq_true c1
        omega
      obtain ⟨j, rfl⟩ : ∃ j, i = j + 1 := ⟨i - 1, by omega⟩
      have hj : j < items.length := by omega
      have hokj := hok _ (List.getElem_mem hj)
      have hxj := hokj.ne
      have hne : tl items[j].x ≠ [] := fun h => by rw [len_tl, h] at hxj; exact absurd hxj.1 (by decide)
      have hlast : (tl items[j].x).getLast? = some ((tl items[j].x).getLast hne) := List.getLast?_eq_some_getLast hne
      refine ⟨_, rfl, _, rfl, _, _, rfl, rfl, e, _, _, _, rfl, rfl, SqL.of he3, at_of (by omega) (hge j hj), _, rfl, _, _, _, rfl, rfl, (by show items[j].x.length ≤ 16777216; omega), atI_end hlast, _, rfl, _, _, rfl, rfl, _, rfl, ?_⟩
      refine ite2 (fun c2 => ?_) (fun c2 => ?_)
      · have hx0 : 0 < (tl items[j + 1].x).length := by rw [← len_tl]; omega
        have hh : (tl items[j + 1].x).head? = some (tl items[j + 1].x)[0] := by rw [List.head?_eq_getElem?, List.getElem?_eq_getElem hx0]
        have big : ∀ k : Prop, k → True := fun _ _ => trivial
        refine ⟨_, rfl, _, rfl, e, _, _, _, rfl, rfl, SqL.of he3, at_of (by omega) (hge (j + 1) hi), _, 0, _, rfl, rfl, hxl, atI_nat (j := 0) (List.getElem?_eq_getElem hx0), _, rfl, _, _, rfl, rfl, _, rfl, ?_⟩
        have one : tAsg (tCB (fun xs H Q => ∃ i j, xs = [V.int i, V.int j] ∧ Q (V.int (if j > i then j else i)) H) (tCons (tC (.int 1)) (tCons (tVar 5) tNil))) (gName 5)
            { nx := (tAsg (tOp (fun x y H Q => ∃ i j, x = .str i ∧ y = .str j ∧ i.length + j.length ≤ sizeLine ∧ Q (.str (i ++ j)) H) (tOp (fun x y H Q => ∃ i j, x = .str i ∧ y = .str j ∧ i.length + j.length ≤ sizeLine ∧ Q (.str (i ++ j)) H) (tVar 3) (tOp rMulSp (tC (.str (Str.ofString " "))) (tVar 5))) (tOp (rIxL K) (tVar 1) (tVar 4))) (gName 3)
          { nx := fun σ H' => ∃ (t : Str) (c4 c5 : Option V), σ = [some (.ref b), some (.ref e), some (.str smallL), some (.str t), c4, c5] ∧ BoxAt H' b p ∧ Kp b H H' ∧ Pre (tl t) ((items.take (j + 1 + 1)).map fun i => i.t) (StAt items (j + 1 + 1)) ∧ t.length ≤ 2 + 24 * (j + 1 + 1), rt := Q }), rt := Q }
            [some (.ref b), some (.ref e), some (.str smallL), some (.str t), some (.int (0 + ((j + 1 : Nat) : Int))), some (.int (r3 / 3))] H3 := by
          refine ⟨_, rfl, _, _, rfl, ?_⟩
          exact rest 1 _ (by split <;> omega) (by omega) (fun _ => .inl (Nat.le_refl _))
        refine ite2 (fun c3 => one) (fun c3 => ?_)
        refine ⟨_, rfl, _, rfl, e, _, _, _, rfl, rfl, SqL.of he3, at_of (by omega) (hge (j + 1) hi), rfl, _, rfl, ?_⟩
        refine ite2 (fun c4 => one) (fun c4 => ?_)
        refine rest n _ hnn (by omega) fun _ => .inr fun hs => ?_
        rcases hs with ⟨c, hc, hm⟩ | hs
        · rw [hh] at hc
          have e2 := Option.some.inj hc
          exact c3 (decide_eq_true (by rw [e2]; exact small_SL _ hm))
        · exact c4 (decide_eq_true (congrArg V.str hs))
      · refine rest n _ hnn (by omega) fun hst => ?_
        obtain ⟨j2, it, h1, h2, c, h3, h4⟩ := hst
        have ej : j2 = j := by omega
        subst ej
        rw [List.getElem?_eq_getElem hj] at h2
        have e2 := Option.some.inj h2
        subst e2
        rw [hlast] at h3
        have e3 := Option.some.inj h3
        exact absurd (decide_eq_true (by rw [e3]; exact small_SL _ h4)) c2
    · refine rest n _ hnn (by omega) fun hst => ?_
      obtain ⟨j2, it, h1, _⟩ := hst
      exact absurd (decide_eq_true (show (0 : Int) < 0 + (i : Int) by omega)) c1
  · rintro σ H2 ⟨t, c4, c5, rfl, B2, k2, p2, l2⟩
    rw [take_all (Nat.le_refl _)] at p2
    refine ⟨_, rfl, _, rfl, b, p, _, rfl, B2, (by decide), fun r3 H3 h30 h31 B3 k3 => ⟨_, _, rfl, rfl, ⟨by decide, by decide⟩, 32, (r3 / 3).toNat, blank_is, congrArg V.int (by omega), (by omega), _, _, rfl, rfl, (by rw [rep_len]; show _ ≤ 16777216; omega), ?_⟩⟩
    refine q _ H3 ?_ ?_ B3 (k2.trans k3)
    · rw [tl_append]
      have h1 := p2 (List.replicate (r3 / 3).toNat 32) [] (fun _ => nostick_sp _) (by have := toks_sp (r3 / 3).toNat Toks.nil; rw [List.append_nil] at this; exact this)
      rw [List.append_nil] at h1
      exact h1
    · rw [len_tl, tl_append, List.length_append, ← len_tl, ← len_tl, rep_len]; omega
end

theorem LAt.dp {K : PySem.W.Frag} {H : Hp} {d : Addr} {ds : List PyData} (h : LAt K H d ds) : Dp K H (.ref d) (.list ds) := by
  obtain ⟨vs, h1, h2, _⟩ := h
  exact .lst (SqL.of h1) h2
theorem fits_str {n : Nat} {z : Str} : Fits (n + 1) (.str z) := True.intro
theorem fits_encT {n : Nat} (t : Str × Str) : Fits (n + 2) (encT t) := ⟨(show 2 < 2 ^ 60 by decide), fun x hx => by
  rcases List.mem_cons.mp hx with rfl | hx
  · exact fits_str
  · rw [List.mem_singleton.mp hx]; exact fits_str⟩
def PsAt (H : Hp) (b D : Addr) (ps : List (Addr × Itm)) : Prop := H D = some (.lst (ps.map fun q => V.ref q.1)) ∧ D ≠ b ∧ ∀ q ∈ ps, H q.1 = some (.lst q.2.vs) ∧ q.1 ≠ b ∧ q.1 ≠ D
theorem PsAt.kp {H H' : Hp} {b D : Addr} {ps : List (Addr × Itm)} (h : PsAt H b D ps) (k : Kp b H H') : PsAt H' b D ps :=
  ⟨k _ _ h.1 h.2.1, h.2.1, fun q hq => ⟨k _ _ (h.2.2 q hq).1 (h.2.2 q hq).2.1, (h.2.2 q hq).2⟩⟩
theorem PsAt.same {H H' : Hp} {b D : Addr} {ps : List (Addr × Itm)} (h : PsAt H b D ps) (k : Same H H') : PsAt H' b D ps := h.kp (Kp.of k)
section
variable {P : Program} {w : World} {K : PySem.W.Frag} {mg : Str → Option Value} {base : Heap} {A : Nat → Addr} {D : Nat → FuncData}
theorem ok_law (T : Txt K mg A D) : FnOk P w K mg base CX0 6 (A 11) (D 11) ["script"] (ySpLaw K) := by
  refine T.F_law.ok sc_law (fun vs H Q E h => ?_) (fun cdv A' outer s H vs Q E hr h => ?_)
  · obtain ⟨a, ns, rfl, _⟩ := h; rfl
  obtain ⟨a, ns, rfl, hS, hn, q⟩ := h
  have hnd := sc_law.nd
  have G__law_draw := ok_draw (P := P) (w := w) (base := base) T
  have G__law_digits := ok_digits (P := P) (w := w) (base := base) T
  have G__law_same := ok_same (P := P) (w := w) (base := base) T 3
  have G__law_token := ok_ltoken (P := P) (w := w) (base := base) T
  have G__law_laid := ok_laid (P := P) (w := w) (base := base) T
  have G_tokens := ok_tokens (P := P) (w := w) (base := base) T
  refine ⟨_, (pss_cons (ps_set (i := 3) hnd rfl (Or.inr rfl) (pe_lst (pa_cons (pe_call G__law_digits (hr.mono (by first | decide | omega)) rfl T.m__law_digits T.F__law_digits.kp T.b__law_digits .nil pass0 (pa_cons (pv 0) (pa_cons pe_int (pa_cons pe_int pa_nil)))) (pa_cons pe_int pa_nil)))) (pss_cons (ps_setLc (i := 4) (own := [("k", 1)]) rfl hnd rfl rfl (sw_true rfl rfl rfl (by decide +kernel)) (pi_range1 rfl T.z_range (pa_cons (pe_call G__law_draw (hr.mono (by first | decide | omega)) rfl T.m__law_draw T.F__law_draw.kp T.b__law_draw .nil pass0 (pa_cons (pv 3) (pa_cons pe_int pa_nil))) pa_nil)) (blkOk_by (own := [("k", 1)]) (N := N_law) (sc := defScope s_law) (by decide +kernel)) (fun _ _ _ _ _ => (pg_name (i := 1) hnd rfl (Or.inl rfl))) (fun _ _ _ _ _ => pts_nil) (fun _ _ _ _ _ => (pe_call G__law_token (hr.mono (by first | decide | omega)) rfl T.m__law_token T.F__law_token.kp T.b__law_token .nil pass0 (pa_cons (pv 3) pa_nil)))) (pss_cons (ps_set (i := 5) hnd rfl (Or.inl rfl) (pe_call G__law_laid (hr.mono (by first | decide | omega)) rfl T.m__law_laid T.F__law_laid.kp T.b__law_laid .nil pass0 (pa_cons (pv 3) (pa_cons (pe_lc (own := [("token", 2)]) rfl hnd (pi_list (pv 4)) (blkOk_by (own := [("token", 2)]) (N := N_law) (sc := defScope s_law) (by decide +kernel)) (fun _ _ _ _ _ => (pg_name (i := 2) hnd rfl (Or.inl rfl))) (fun _ _ _ _ _ => pts_nil) (fun _ _ _ _ _ => (pe_ix (r := rIxL K) ix_list (pv 2) pe_int (fun _ _ => rfl)))) pa_nil)))) (pss_one (ps_ret (pe_call G__law_same (hr.mono (by first | decide | omega)) rfl T.m__law_same T.F__law_same.kp T.b__law_same .nil pass0 (pa_cons (pe_call G_tokens (hr.mono (by first | decide | omega)) rfl T.m_tokens T.F_tokens.kp T.b_tokens .nil pass0 (pa_cons (pv 5) pa_nil)) (pa_cons (pe_lc (own := [("token", 2)]) rfl hnd (pi_list (pv 4)) (blkOk_by (own := [("token", 2)]) (N := N_law) (sc := defScope s_law) (by decide +kernel)) (fun _ _ _ _ _ => (pg_name (i := 2) hnd rfl (Or.inl rfl))) (fun _ _ _ _ _ => pts_nil) (fun _ _ _ _ _ => (pe_tup (pa_cons (pe_ix (r := rIxL K) ix_list (pv 2) pe_int (fun _ _ => rfl)) (pa_cons (pe_ix (r := rIxL K) ix_list (pv 2) pe_int (fun _ _ => rfl)) pa_nil))))) pa_nil)))))))), ?_⟩
  refine ⟨_, rfl, a, ns, rfl, hS, fun p ds H1 s1 hp0 hp1 hl => ⟨(by show 2 ≤ sizeLine; decide), fun b hb => ?_⟩⟩
  have B1 := box_new hp1 hb
  refine ⟨_, rfl, b, p, _, rfl, B1, (by decide), fun r1 H2 h10 h11 B2 k2 => ⟨_, rfl, (by omega), (by omega), fun D hD => ?_⟩⟩
  obtain ⟨hDb, hDp⟩ := B2.ne hD
  refine lc_it (walk_range (n := r1.toNat)) (fun i H' => BoxAt H' b p ∧ ∃ ps : List (Addr × Itm), PsAt H' b D ps ∧ (∀ q ∈ ps, TokOK q.2.t q.2.x) ∧ ps.length = i)
    ⟨B2.updO hDb hDp, [], ⟨upd_same, hDb, fun q hq => nomatch hq⟩, (fun q hq => nomatch hq), rfl⟩ (fun _ _ _ _ => trivial) ?_ ?_
  · rintro i x H3 H4 hi ⟨B3, ps, p3, ok3, n3⟩ ⟨rfl, rfl⟩
    refine ⟨rfl, ?_⟩
    refine ⟨_, rfl, b, p, rfl, B3, fun l it H5 hl hl0 okit B5 k5 => ?_⟩
    have p5 := p3.kp k5
    have hlD : l ≠ D := fun e => by rw [e, p3.1] at hl0; cases hl0
    have hlb : l ≠ b := (B3.ne hl0).1
    refine ⟨_, p5.1, (by rw [List.length_map]; exact len_lt (by omega)), B5.updO hDb hDp, ps ++ [(l, it)], ⟨by rw [upd_same, List.map_append]; rfl, hDb, fun q hq => ?_⟩, fun q hq => ?_, by rw [List.length_append, List.length_singleton, n3]⟩
    · rcases List.mem_append.mp hq with hq | hq
      · have := p5.2.2 q hq
        exact ⟨by rw [upd_ne this.2.2]; exact this.1, this.2⟩
      · rw [List.mem_singleton.mp hq]
        exact ⟨by rw [upd_ne hlD]; exact hl, hlb, hlD⟩
    · rcases List.mem_append.mp hq with hq | hq
      · exact ok3 q hq
      · rw [List.mem_singleton.mp hq]; exact okit
  · rintro H3 ⟨B3, ps, p3, ok3, n3⟩
    have hpl : ps.length ≤ 16 := by omega
    have hgp : ∀ {i : Nat} {x : V}, (ps.map fun q => V.ref q.1)[i]? = some x → ∃ u, ps[i]? = some u ∧ x = .ref u.1 ∧ u ∈ ps := fun {i x} hx => by
      rw [List.getElem?_map] at hx
      obtain ⟨u, hu, rfl⟩ := Option.map_eq_some_iff.mp hx
      exact ⟨u, hu, rfl, List.mem_of_getElem? hu⟩
    refine ⟨_, rfl, _, rfl, D, rfl, ⟨_, SqL.of p3.1⟩, fun E hE => ?_⟩
    refine lc_it (walk_list (xs := ps.map fun q => V.ref q.1)) (fun i H' => Same H3 H' ∧ H' E = some (.lst ((ps.take i).map fun q => V.str q.2.x))) ⟨same_new hE, upd_same⟩ (fun i H' _ h => SqL.of (h.1 _ _ p3.1)) ?_ ?_
    · rintro i x H4 H5 hi ⟨s4, h4⟩ ⟨rfl, hx⟩
      obtain ⟨u, hu, rfl, hm⟩ := hgp hx
      refine ⟨rfl, ?_⟩
      refine ⟨_, rfl, u.1, _, 2, _, rfl, rfl, SqL.of (s4 _ _ (p3.2.2 u hm).1), rfl, _, h4, ?_, same_upd s4 hE, ?_⟩
      · rw [List.length_map, List.length_take]; exact len_lt (by omega)
      · rw [upd_same, ← take_succ_map hu]
    · rintro H4 ⟨s4, h4⟩
      rw [List.length_map, take_all (Nat.le_refl _)] at h4
      have B4 := B3.keep s4
      have p4 := p3.same s4
      have hEb : E ≠ b := (B3.ne hE).1
      refine ⟨b, p, E, ps.map (·.2), rfl, B4, by rw [h4, List.map_map]; rfl, hEb, by rw [List.length_map]; omega, fun it hit => ?_, fun t H5 ht hl5 B5 k5 => ?_⟩
      · obtain ⟨u, hu, rfl⟩ := List.mem_map.mp hit
        exact ok3 u hu
      have p5 := p4.kp k5
      rw [List.map_map] at ht
      refine ⟨_, rfl, t, _, rfl, by omega, ht, fun d H6 s6 hd0 L6 => ?_⟩
      have p6 := p5.same s6
      refine ⟨_, rfl, D, rfl, ⟨_, SqL.of p6.1⟩, fun F hF => ?_⟩
      refine lc_it (walk_list (xs := ps.map fun q => V.ref q.1)) (fun i H' => Same H6 H' ∧ LAt K H' F ((ps.take i).map fun q => encT q.2.t)) ⟨same_new hF, LAt.nil upd_same⟩ (fun i H' _ h => SqL.of (h.1 _ _ p6.1)) ?_ ?_
      · rintro i x H7 H8 hi ⟨s7, vs, e1, e2, e3⟩ ⟨rfl, hx⟩
        obtain ⟨u, hu, rfl, hm⟩ := hgp hx
        have hu7 := SqL.of (K := K) (s7 _ _ (p6.2.2 u hm).1)
        refine ⟨rfl, ?_⟩
        refine ⟨_, rfl, u.1, _, 0, _, rfl, rfl, hu7, rfl, _, rfl, u.1, _, 1, _, rfl, rfl, hu7, rfl, (by show 2 ≤ sizeLine; decide), fun q2 hq2 => ?_⟩
        have sq := same_new (o := .tup [.str u.2.t.1, .str u.2.t.2]) hq2
        refine ⟨vs, sq _ _ e1, (by rw [DpAll.len e2, List.length_map, List.length_take]; exact len_lt (by omega)), same_upd (s7.trans sq) hF, ?_⟩
        rw [← take_succ_map hu]
        exact LAt.push (sq _ _ e1) (DpAll.same sq e2) e3 (.tup (SqT.of upd_same) (.cons (.str _) (.cons (.str _) .nil))) (imm_encT _)
      · rintro H7 ⟨s7, L7⟩
        rw [List.length_map, take_all (Nat.le_refl _)] at L7
        have L6' := L6.same s7
        rw [List.map_map] at L6'
        refine ⟨.ref d, .ref F, .list (ps.map fun (q : Addr × Itm) => encT q.2.t), rfl, L6'.dp, L7.dp, ⟨by rw [List.length_map]; omega, fun x hx => ?_⟩, q _⟩
        obtain ⟨u, _, rfl⟩ := List.mem_map.mp hx
        exact fits_encT _
end

theorem all_mk {l : PySem.W.OpenLaw} {w : World} {K : PySem.W.Frag} {h : Heap} {mg : Str → Option Value} {fa f0 f1 f2 f3 f4 f5 f6 f7 f8 f9 f10 f11 : Addr} (X : K.In h) (G : h.Ns mainGlobals mg) (hfa : mg "law" = some (.ref fa))
    {od0 od1 od2 od3 od4 od5 od6 od7 od8 od9 od10 od11 an0 an1 an2 an3 an4 an5 an6 an7 an8 an9 an10 an11 : Option Addr} {sl0 sl1 sl2 sl3 sl4 sl5 sl6 sl7 sl8 sl9 sl10 sl11 : Array (Option Value)} {oc0 oc1 oc2 oc3 oc4 oc5 oc6 oc7 oc8 oc9 oc10 oc11 kV0 kV1 kV2 kV3 kV4 kV5 kV6 kV7 kV8 kV9 kV10 kV11 dc0 dc1 dc2 dc3 dc4 dc5 dc6 dc7 dc8 dc9 dc10 dc11 pm0 pm1 pm2 pm3 pm4 pm5 pm6 pm7 pm8 pm9 pm10 pm11 cd0 cd1 cd2 cd3 cd4 cd5 cd6 cd7 cd8 cd9 cd10 cd11 ct0 ct1 ct2 ct3 ct4 ct5 ct6 ct7 ct8 ct9 ct10 ct11 : Value} {t0 t1 t2 : Tok}
    (a0 : PySem.W.nsIn K mainGlobals "tokens" = some (some (.ref f0))) (l0 : K.lookup f0 = some ⟨oc0, od0, .func (PySem.W.fnOf "tokens" "tokens" (defArgs s_tokens) (defBody s_tokens) (defScope s_tokens) .none kV0 dc0 pm0 an0 cd0 ct0), sl0⟩) (c0 : PySem.W.codeIn K cd0 "tokens" = true) (k0 : PySem.W.keepIn K (.ref f0) = true)
    (a1 : PySem.W.nsIn K mainGlobals "tokens_of" = some (some (.ref f1))) (l1 : K.lookup f1 = some ⟨oc1, od1, .func (PySem.W.fnOf "tokens_of" "tokens_of" (defArgs s_tokens_of) (defBody s_tokens_of) (defScope s_tokens_of) .none kV1 dc1 pm1 an1 cd1 ct1), sl1⟩) (c1 : PySem.W.codeIn K cd1 "tokens_of" = true) (k1 : PySem.W.keepIn K (.ref f1) = true)
    (a2 : PySem.W.nsIn K mainGlobals "token_at" = some (some (.ref f2))) (l2 : K.lookup f2 = some ⟨oc2, od2, .func (PySem.W.fnOf "token_at" "token_at" (defArgs s_token_at) (defBody s_token_at) (defScope s_token_at) .none kV2 dc2 pm2 an2 cd2 ct2), sl2⟩) (c2 : PySem.W.codeIn K cd2 "token_at" = true) (k2 : PySem.W.keepIn K (.ref f2) = true)
    (a3 : PySem.W.nsIn K mainGlobals "end_of_run" = some (some (.ref f3))) (l3 : K.lookup f3 = some ⟨oc3, od3, .func (PySem.W.fnOf "end_of_run" "end_of_run" (defArgs s_end_of_run) (defBody s_end_of_run) (defScope s_end_of_run) .none kV3 dc3 pm3 an3 cd3 ct3), sl3⟩) (c3 : PySem.W.codeIn K cd3 "end_of_run" = true) (k3 : PySem.W.keepIn K (.ref f3) = true)
    (a4 : PySem.W.nsIn K mainGlobals "_law_cell" = some (some (.ref f4))) (l4 : K.lookup f4 = some ⟨oc4, od4, .func (PySem.W.fnOf "_law_cell" "_law_cell" (defArgs s__law_cell) (defBody s__law_cell) (defScope s__law_cell) .none kV4 dc4 pm4 an4 cd4 ct4), sl4⟩) (c4 : PySem.W.codeIn K cd4 "_law_cell" = true) (k4 : PySem.W.keepIn K (.ref f4) = true)
    (a5 : PySem.W.nsIn K mainGlobals "_law_digits" = some (some (.ref f5))) (l5 : K.lookup f5 = some ⟨oc5, od5, .func (PySem.W.fnOf "_law_digits" "_law_digits" (defArgs s__law_digits) (defBody s__law_digits) (defScope s__law_digits) .none kV5 dc5 pm5 an5 cd5 ct5), sl5⟩) (c5 : PySem.W.codeIn K cd5 "_law_digits" = true) (k5 : PySem.W.keepIn K (.ref f5) = true)
    (a6 : PySem.W.nsIn K mainGlobals "_law_draw" = some (some (.ref f6))) (l6 : K.lookup f6 = some ⟨oc6, od6, .func (PySem.W.fnOf "_law_draw" "_law_draw" (defArgs s__law_draw) (defBody s__law_draw) (defScope s__law_draw) .none kV6 dc6 pm6 an6 cd6 ct6), sl6⟩) (c6 : PySem.W.codeIn K cd6 "_law_draw" = true) (k6 : PySem.W.keepIn K (.ref f6) = true)
    (a7 : PySem.W.nsIn K mainGlobals "_law_same" = some (some (.ref f7))) (l7 : K.lookup f7 = some ⟨oc7, od7, .func (PySem.W.fnOf "_law_same" "_law_same" (defArgs s__law_same) (defBody s__law_same) (defScope s__law_same) .none kV7 dc7 pm7 an7 cd7 ct7), sl7⟩) (c7 : PySem.W.codeIn K cd7 "_law_same" = true) (k7 : PySem.W.keepIn K (.ref f7) = true)
    (a8 : PySem.W.nsIn K mainGlobals "_law_run" = some (some (.ref f8))) (l8 : K.lookup f8 = some ⟨oc8, od8, .func (PySem.W.fnOf "_law_run" "_law_run" (defArgs s__law_run) (defBody s__law_run) (defScope s__law_run) .none kV8 dc8 pm8 an8 cd8 ct8), sl8⟩) (c8 : PySem.W.codeIn K cd8 "_law_run" = true) (k8 : PySem.W.keepIn K (.ref f8) = true)
    (a9 : PySem.W.nsIn K mainGlobals "_law_laid" = some (some (.ref f9))) (l9 : K.lookup f9 = some ⟨oc9, od9, .func (PySem.W.fnOf "_law_laid" "_law_laid" (defArgs s__law_laid) (defBody s__law_laid) (defScope s__law_laid) .none kV9 dc9 pm9 an9 cd9 ct9), sl9⟩) (c9 : PySem.W.codeIn K cd9 "_law_laid" = true) (k9 : PySem.W.keepIn K (.ref f9) = true)
    (a10 : PySem.W.nsIn K mainGlobals "_law_token" = some (some (.ref f10))) (l10 : K.lookup f10 = some ⟨oc10, od10, .func (PySem.W.fnOf "_law_token" "_law_token" (defArgs s__law_token) (defBody s__law_token) (defScope s__law_token) .none kV10 dc10 pm10 an10 cd10 ct10), sl10⟩) (c10 : PySem.W.codeIn K cd10 "_law_token" = true) (k10 : PySem.W.keepIn K (.ref f10) = true)
    (a11 : PySem.W.nsIn K mainGlobals "law" = some (some (.ref f11))) (l11 : K.lookup f11 = some ⟨oc11, od11, .func (PySem.W.fnOf "law" "law" (defArgs s_law) (defBody s_law) (defScope s_law) .none kV11 dc11 pm11 an11 cd11 ct11), sl11⟩) (c11 : PySem.W.codeIn K cd11 "law" = true) (k11 : PySem.W.keepIn K (.ref f11) = true)
    (gc0 : PySem.W.nsIn K mainGlobals "SMALL" = some (some (.str "0123456789abcdefghijklmnopqrstuvwxyz" t0)))
    (gc1 : PySem.W.nsIn K mainGlobals "LONGEST" = some (some (.int 12 t1)))
    (gc2 : PySem.W.nsIn K mainGlobals "SIGNS" = some (some (.str "*\"<>()|-@" t2)))
    (z0 : PySem.W.nsIn K mainGlobals "bool" = some none)
    (z1 : PySem.W.nsIn K mainGlobals "int" = some none)
    (z2 : PySem.W.nsIn K mainGlobals "isinstance" = some none)
    (z3 : PySem.W.nsIn K mainGlobals "len" = some none)
    (z4 : PySem.W.nsIn K mainGlobals "list" = some none)
    (z5 : PySem.W.nsIn K mainGlobals "max" = some none)
    (z6 : PySem.W.nsIn K mainGlobals "range" = some none)
    (z7 : PySem.W.nsIn K mainGlobals "str" = some none)
    (z8 : PySem.W.nsIn K mainGlobals "tuple" = some none)
    : ∃ fd : FuncData, (∀ (s : Shared) (v : Value), BindsTo s fd ⟨[v], []⟩ [("script", v)]) ∧ ∀ base : Heap, K.In base → base.Ns mainGlobals mg → FnOk l.prog w K mg base CX0 6 fa fd ["script"] (ySpLaw K) := by
  have e := hfa.symm.trans (PySem.W.mg_of X G a11)
  cases e
  have F0 := fun_mk (st := s_tokens) l0 c0 k0
  have F1 := fun_mk (st := s_tokens_of) l1 c1 k1
  have F2 := fun_mk (st := s_token_at) l2 c2 k2
  have F3 := fun_mk (st := s_end_of_run) l3 c3 k3
  have F4 := fun_mk (st := s__law_cell) l4 c4 k4
  have F5 := fun_mk (st := s__law_digits) l5 c5 k5
  have F6 := fun_mk (st := s__law_draw) l6 c6 k6
  have F7 := fun_mk (st := s__law_same) l7 c7 k7
  have F8 := fun_mk (st := s__law_run) l8 c8 k8
  have F9 := fun_mk (st := s__law_laid) l9 c9 k9
  have F10 := fun_mk (st := s__law_token) l10 c10 k10
  have F11 := fun_mk (st := s_law) l11 c11 k11
  have b0 := F0.binds (ps := ["text"]) fun _ _ _ _ _ _ us hl => match us, hl with | [_], _ => rfl
  have b1 := F1.binds (ps := ["text"]) fun _ _ _ _ _ _ us hl => match us, hl with | [_], _ => rfl
  have b2 := F2.binds (ps := ["text", "at"]) fun _ _ _ _ _ _ us hl => match us, hl with | [_, _], _ => rfl
  have b3 := F3.binds (ps := ["text", "at"]) fun _ _ _ _ _ _ us hl => match us, hl with | [_, _], _ => rfl
  have b4 := F4.binds (ps := ["script", "k"]) fun _ _ _ _ _ _ us hl => match us, hl with | [_, _], _ => rfl
  have b5 := F5.binds (ps := ["script", "first", "last"]) fun _ _ _ _ _ _ us hl => match us, hl with | [_, _, _], _ => rfl
  have b6 := F6.binds (ps := ["box", "many"]) fun _ _ _ _ _ _ us hl => match us, hl with | [_, _], _ => rfl
  have b7 := F7.binds (ps := ["actual", "due"]) fun _ _ _ _ _ _ us hl => match us, hl with | [_, _], _ => rfl
  have b8 := F8.binds (ps := ["box", "many", "chars"]) fun _ _ _ _ _ _ us hl => match us, hl with | [_, _, _], _ => rfl
  have b9 := F9.binds (ps := ["box", "texts"]) fun _ _ _ _ _ _ us hl => match us, hl with | [_, _], _ => rfl
  have b10 := F10.binds (ps := ["box"]) fun _ _ _ _ _ _ us hl => match us, hl with | [_], _ => rfl
  have b11 := F11.binds (ps := ["script"]) fun _ _ _ _ _ _ us hl => match us, hl with | [_], _ => rfl
  let AA : Nat → Addr := fun i => match i with | 0 => f0 | 1 => f1 | 2 => f2 | 3 => f3 | 4 => f4 | 5 => f5 | 6 => f6 | 7 => f7 | 8 => f8 | 9 => f9 | 10 => f10 | 11 => fa | _ => fa
  let DD : Nat → FuncData := fun i => match i with | 0 => PySem.W.fnOf "tokens" "tokens" (defArgs s_tokens) (defBody s_tokens) (defScope s_tokens) .none kV0 dc0 pm0 an0 cd0 ct0 | 1 => PySem.W.fnOf "tokens_of" "tokens_of" (defArgs s_tokens_of) (defBody s_tokens_of) (defScope s_tokens_of) .none kV1 dc1 pm1 an1 cd1 ct1 | 2 => PySem.W.fnOf "token_at" "token_at" (defArgs s_token_at) (defBody s_token_at) (defScope s_token_at) .none kV2 dc2 pm2 an2 cd2 ct2 | 3 => PySem.W.fnOf "end_of_run" "end_of_run" (defArgs s_end_of_run) (defBody s_end_of_run) (defScope s_end_of_run) .none kV3 dc3 pm3 an3 cd3 ct3 | 4 => PySem.W.fnOf "_law_cell" "_law_cell" (defArgs s__law_cell) (defBody s__law_cell) (defScope s__law_cell) .none kV4 dc4 pm4 an4 cd4 ct4 | 5 => PySem.W.fnOf "_law_digits" "_law_digits" (defArgs s__law_digits) (defBody s__law_digits) (defScope s__law_digits) .none kV5 dc5 pm5 an5 cd5 ct5 | 6 => PySem.W.fnOf "_law_draw" "_law_draw" (defArgs s__law_draw) (defBody s__law_draw) (defScope s__law_draw) .none kV6 dc6 pm6 an6 cd6 ct6 | 7 => PySem.W.fnOf "_law_same" "_law_same" (defArgs s__law_same) (defBody s__law_same) (defScope s__law_same) .none kV7 dc7 pm7 an7 cd7 ct7 | 8 => PySem.W.fnOf "_law_run" "_law_run" (defArgs s__law_run) (defBody s__law_run) (defScope s__law_run) .none kV8 dc8 pm8 an8 cd8 ct8 | 9 => PySem.W.fnOf "_law_laid" "_law_laid" (defArgs s__law_laid) (defBody s__law_laid) (defScope s__law_laid) .none kV9 dc9 pm9 an9 cd9 ct9 | 10 => PySem.W.fnOf "_law_token" "_law_token" (defArgs s__law_token) (defBody s__law_token) (defScope s__law_token) .none kV10 dc10 pm10 an10 cd10 ct10 | 11 => PySem.W.fnOf "law" "law" (defArgs s_law) (defBody s_law) (defScope s_law) .none kV11 dc11 pm11 an11 cd11 ct11 | _ => PySem.W.fnOf "law" "law" (defArgs s_law) (defBody s_law) (defScope s_law) .none kV11 dc11 pm11 an11 cd11 ct11
  have T : Txt K mg AA DD := { F_tokens := F0, b_tokens := b0, m_tokens := PySem.W.mg_of X G a0, F_tokens_of := F1, b_tokens_of := b1, m_tokens_of := PySem.W.mg_of X G a1, F_token_at := F2, b_token_at := b2, m_token_at := PySem.W.mg_of X G a2, F_end_of_run := F3, b_end_of_run := b3, m_end_of_run := PySem.W.mg_of X G a3, F__law_cell := F4, b__law_cell := b4, m__law_cell := PySem.W.mg_of X G a4, F__law_digits := F5, b__law_digits := b5, m__law_digits := PySem.W.mg_of X G a5, F__law_draw := F6, b__law_draw := b6, m__law_draw := PySem.W.mg_of X G a6, F__law_same := F7, b__law_same := b7, m__law_same := PySem.W.mg_of X G a7, F__law_run := F8, b__law_run := b8, m__law_run := PySem.W.mg_of X G a8, F__law_laid := F9, b__law_laid := b9, m__law_laid := PySem.W.mg_of X G a9, F__law_token := F10, b__law_token := b10, m__law_token := PySem.W.mg_of X G a10, F_law := F11, b_law := b11, m_law := PySem.W.mg_of X G a11, c_SMALL := ⟨t0, PySem.W.mg_of X G gc0⟩, c_LONGEST := ⟨t1, PySem.W.mg_of X G gc1⟩, c_SIGNS := ⟨t2, PySem.W.mg_of X G gc2⟩, z_bool := PySem.W.mg_none_of X G z0, z_int := PySem.W.mg_none_of X G z1, z_isinstance := PySem.W.mg_none_of X G z2, z_len := PySem.W.mg_none_of X G z3, z_list := PySem.W.mg_none_of X G z4, z_max := PySem.W.mg_none_of X G z5, z_range := PySem.W.mg_none_of X G z6, z_str := PySem.W.mg_none_of X G z7, z_tuple := PySem.W.mg_none_of X G z8 }
  exact ⟨DD 11, fun s v => .of_eq rfl, fun base _ _ => ok_law (A := AA) (D := DD) T⟩
theorem walk {l : PySem.W.OpenLaw} {q : Program} {loose : List Str} {XP : (Str → Option Value) → Heap → Prop} {YP : World → Heap → Prop} {d : DefRec} {K : Params → PySem.W.Frag} (hn : l.most = some 63) (hdf : d.params.defaults = [])
    (hY : ∀ (w : World) (h : Heap), YP w h → (K w.params).In h)
    (F : ∀ (w : World) (mg : Str → Option Value) (fa : Addr) (h : Heap), (K w.params).In h → h.Ns mainGlobals mg → mg d.name = some (.ref fa) →
      ∃ fd : FuncData, (∀ (s : Shared) (u : Value), BindsTo s fd ⟨[u], []⟩ [("script", u)]) ∧ ∀ base : Heap, (K w.params).In base → base.Ns mainGlobals mg → FnOk l.prog w (K w.params) mg base CX0 6 fa fd ["script"] (ySpLaw (K w.params))) :
    PySem.W.WalkO q loose XP YP l.row.toRowW d [] (fun f vs => PySem.call f vs) :=
  L2.walk_of (n := 63) (k := 6) (x := "script") (CX := fun _ => CX0) (sp := fun w => ySpLaw (K w.params)) hn (by decide) hdf ⟨rfl, by decide, by decide⟩ hY F (fun _ _ a ns hl _ hS => ⟨a, ns, rfl, hS, hl, fun _ => rfl⟩) fun _ _ _ _ _ z => z
end Z
open PySem PySem.W PyProof.Rows
set_option maxRecDepth 100000 in
set_option maxHeartbeats 0 in
theorem PySem.Challenge.cw_timeshelf_k05_tokens_of_questions_holds : PySem.Challenge.rw_timeshelf_k05_tokens_of_questions.Holds := by
  w_on; o_law; k_head; (case hw => w_witness2)
  k_fill
  refine Z.walk (l := PySem.Challenge.rw_timeshelf_k05_tokens_of_questions) rfl rfl (fun w h Y => PySem.W.kIn_of Y) ?F
  case F =>
    intro w mg fa h KX G hmg
    refine' Z.all_mk KX G hmg ?a0 ?l0 ?c0 ?k0 ?a1 ?l1 ?c1 ?k1 ?a2 ?l2 ?c2 ?k2 ?a3 ?l3 ?c3 ?k3 ?a4 ?l4 ?c4 ?k4 ?a5 ?l5 ?c5 ?k5 ?a6 ?l6 ?c6 ?k6 ?a7 ?l7 ?c7 ?k7 ?a8 ?l8 ?c8 ?k8 ?a9 ?l9 ?c9 ?k9 ?a10 ?l10 ?c10 ?k10 ?a11 ?l11 ?c11 ?k11 ?gc0 ?gc1 ?gc2 ?z0 ?z1 ?z2 ?z3 ?z4 ?z5 ?z6 ?z7 ?z8
    (case a0 => first | k_is | rfl | decide +kernel)
    (case l0 => first | k_is | rfl | decide +kernel)
    (case c0 => first | k_is | rfl | decide +kernel)
    (case k0 => first | k_is | rfl | decide +kernel)
    (case a1 => first | k_is | rfl | decide +kernel)
    (case l1 => first | k_is | rfl | decide +kernel)
    (case c1 => first | k_is | rfl | decide +kernel)
    (case k1 => first | k_is | rfl | decide +kernel)
    (case a2 => first | k_is | rfl | decide +kernel)
    (case l2 => first | k_is | rfl | decide +kernel)
    (case c2 => first | k_is | rfl | decide +kernel)
    (case k2 => first | k_is | rfl | decide +kernel)
    (case a3 => first | k_is | rfl | decide +kernel)
    (case l3 => first | k_is | rfl | decide +kernel)
    (case c3 => first | k_is | rfl | decide +kernel)
    (case k3 => first | k_is | rfl | decide +kernel)
    (case a4 => first | k_is | rfl | decide +kernel)
    (case l4 => first | k_is | rfl | decide +kernel)
    (case c4 => first | k_is | rfl | decide +kernel)
    (case k4 => first | k_is | rfl | decide +kernel)
    (case a5 => first | k_is | rfl | decide +kernel)
    (case l5 => first | k_is | rfl | decide +kernel)
    (case c5 => first | k_is | rfl | decide +kernel)
    (case k5 => first | k_is | rfl | decide +kernel)
    (case a6 => first | k_is | rfl | decide +kernel)
    (case l6 => first | k_is | rfl | decide +kernel)
    (case c6 => first | k_is | rfl | decide +kernel)
    (case k6 => first | k_is | rfl | decide +kernel)
    (case a7 => first | k_is | rfl | decide +kernel)
    (case l7 => first | k_is | rfl | decide +kernel)
    (case c7 => first | k_is | rfl | decide +kernel)
    (case k7 => first | k_is | rfl | decide +kernel)
    (case a8 => first | k_is | rfl | decide +kernel)
    (case l8 => first | k_is | rfl | decide +kernel)
    (case c8 => first | k_is | rfl | decide +kernel)
    (case k8 => first | k_is | rfl | decide +kernel)
    (case a9 => first | k_is | rfl | decide +kernel)
    (case l9 => first | k_is | rfl | decide +kernel)
    (case c9 => first | k_is | rfl | decide +kernel)
    (case k9 => first | k_is | rfl | decide +kernel)
    (case a10 => first | k_is | rfl | decide +kernel)
    (case l10 => first | k_is | rfl | decide +kernel)
    (case c10 => first | k_is | rfl | decide +kernel)
    (case k10 => first | k_is | rfl | decide +kernel)
    (case a11 => first | k_is | rfl | decide +kernel)
    (case l11 => first | k_is | rfl | decide +kernel)
    (case c11 => first | k_is | rfl | decide +kernel)
    (case k11 => first | k_is | rfl | decide +kernel)
    (case gc0 => first | k_is | rfl | decide +kernel)
    (case gc1 => first | k_is | rfl | decide +kernel)
    (case gc2 => first | k_is | rfl | decide +kernel)
    (case z0 => first | k_is | rfl | decide +kernel)
    (case z1 => first | k_is | rfl | decide +kernel)
    (case z2 => first | k_is | rfl | decide +kernel)
    (case z3 => first | k_is | rfl | decide +kernel)
    (case z4 => first | k_is | rfl | decide +kernel)
    (case z5 => first | k_is | rfl | decide +kernel)
    (case z6 => first | k_is | rfl | decide +kernel)
    (case z7 => first | k_is | rfl | decide +kernel)
    (case z8 => first | k_is | rfl | decide +kernel)
