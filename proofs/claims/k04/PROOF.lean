import PyProof.Rows.All
import Wide.All
import OpenK.AllK
import Wide.FinOn
import HandS.ForMost
import HandS.IsInst
import HandS.Walk
import PySem.Challenge.RW_timeshelf_k04_cut_words
set_option Elab.async false
set_option linter.all false
set_option maxRecDepth 100000
set_option maxHeartbeats 2000000
namespace Z
open PySem L2
def top (i : Nat) : Stmt := PySem.Challenge.pw_timeshelf_k04_cut_words.main.body.getD i (.Pass ⟨0, 0, 0, 0⟩)
abbrev s_words_of : Stmt := top 3
abbrev N_words_of : List Str := ["text", "letter", "run", "letters"]
theorem sc_words_of : FnScope ["text", "letter", "run", "letters"] ["text"] (defScope s_words_of) := ⟨rfl, rfl, rfl, by decide +kernel, rfl, by decide +kernel, by decide +kernel⟩
abbrev s_cut : Stmt := top 4
abbrev N_cut : List Str := ["word", "endings", "taken", "ending", "least"]
theorem sc_cut : FnScope ["word", "endings", "taken", "ending", "least"] ["word", "endings"] (defScope s_cut) := ⟨rfl, rfl, rfl, by decide +kernel, rfl, by decide +kernel, by decide +kernel⟩
abbrev s_document_of : Stmt := top 5
abbrev N_document_of : List Str := ["text", "endings", "word"]
theorem sc_document_of : FnScope ["text", "endings", "word"] ["text", "endings"] (defScope s_document_of) := ⟨rfl, rfl, rfl, by decide +kernel, rfl, by decide +kernel, by decide +kernel⟩
abbrev s__law_cell : Stmt := top 7
abbrev N__law_cell : List Str := ["script", "k"]
theorem sc__law_cell : FnScope ["script", "k"] ["script", "k"] (defScope s__law_cell) := ⟨rfl, rfl, rfl, by decide +kernel, rfl, by decide +kernel, by decide +kernel⟩
abbrev s__law_digits : Stmt := top 8
abbrev N__law_digits : List Str := ["script", "first", "last", "digits", "k", "cell", "turn", "seed"]
theorem sc__law_digits : FnScope ["script", "first", "last", "digits", "k", "cell", "turn", "seed"] ["script", "first", "last"] (defScope s__law_digits) := ⟨rfl, rfl, rfl, by decide +kernel, rfl, by decide +kernel, by decide +kernel⟩
abbrev s__law_draw : Stmt := top 9
abbrev N__law_draw : List Str := ["box", "many", "at"]
theorem sc__law_draw : FnScope ["box", "many", "at"] ["box", "many"] (defScope s__law_draw) := ⟨rfl, rfl, rfl, by decide +kernel, rfl, by decide +kernel, by decide +kernel⟩
abbrev s__law_same : Stmt := top 10
abbrev N__law_same : List Str := ["actual", "due", "k"]
theorem sc__law_same : FnScope ["actual", "due", "k"] ["actual", "due"] (defScope s__law_same) := ⟨rfl, rfl, rfl, by decide +kernel, rfl, by decide +kernel, by decide +kernel⟩
abbrev s__law_run : Stmt := top 11
abbrev N__law_run : List Str := ["box", "many", "chars", "text", "k"]
theorem sc__law_run : FnScope ["box", "many", "chars", "text", "k"] ["box", "many", "chars"] (defScope s__law_run) := ⟨rfl, rfl, rfl, by decide +kernel, rfl, by decide +kernel, by decide +kernel⟩
abbrev s__law_endings : Stmt := top 12
abbrev N__law_endings : List Str := ["box", "endings", "k", "text"]
theorem sc__law_endings : FnScope ["box", "endings", "k", "text"] ["box"] (defScope s__law_endings) := ⟨rfl, rfl, rfl, by decide +kernel, rfl, by decide +kernel, by decide +kernel⟩
abbrev s__law_cut : Stmt := top 13
abbrev N__law_cut : List Str := ["word", "endings", "best", "size", "ending"]
theorem sc__law_cut : FnScope ["word", "endings", "best", "size", "ending"] ["word", "endings"] (defScope s__law_cut) := ⟨rfl, rfl, rfl, by decide +kernel, rfl, by decide +kernel, by decide +kernel⟩
abbrev s_law : Stmt := top 14
abbrev N_law : List Str := ["script", "word", "box", "endings", "words", "turn", "k", "due"]
theorem sc_law : FnScope ["script", "word", "box", "endings", "words", "turn", "k", "due"] ["script"] (defScope s_law) := ⟨rfl, rfl, rfl, by decide +kernel, rfl, by decide +kernel, by decide +kernel⟩
structure Txt (K : PySem.W.Frag) (mg : Str → Option Value) (A : Nat → Addr) (D : Nat → FuncData) : Prop where
  F_words_of : Fun K "words_of" "words_of" s_words_of (A 0) (D 0)
  b_words_of : Binds K (D 0) ["text"] []
  m_words_of : mg "words_of" = some (.ref (A 0))
  F_cut : Fun K "cut" "cut" s_cut (A 1) (D 1)
  b_cut : Binds K (D 1) ["word", "endings"] []
  m_cut : mg "cut" = some (.ref (A 1))
  F_document_of : Fun K "document_of" "document_of" s_document_of (A 2) (D 2)
  b_document_of : Binds K (D 2) ["text", "endings"] []
  m_document_of : mg "document_of" = some (.ref (A 2))
  F__law_cell : Fun K "_law_cell" "_law_cell" s__law_cell (A 3) (D 3)
  b__law_cell : Binds K (D 3) ["script", "k"] []
  m__law_cell : mg "_law_cell" = some (.ref (A 3))
  F__law_digits : Fun K "_law_digits" "_law_digits" s__law_digits (A 4) (D 4)
  b__law_digits : Binds K (D 4) ["script", "first", "last"] []
  m__law_digits : mg "_law_digits" = some (.ref (A 4))
  F__law_draw : Fun K "_law_draw" "_law_draw" s__law_draw (A 5) (D 5)
  b__law_draw : Binds K (D 5) ["box", "many"] []
  m__law_draw : mg "_law_draw" = some (.ref (A 5))
  F__law_same : Fun K "_law_same" "_law_same" s__law_same (A 6) (D 6)
  b__law_same : Binds K (D 6) ["actual", "due"] []
  m__law_same : mg "_law_same" = some (.ref (A 6))
  F__law_run : Fun K "_law_run" "_law_run" s__law_run (A 7) (D 7)
  b__law_run : Binds K (D 7) ["box", "many", "chars"] []
  m__law_run : mg "_law_run" = some (.ref (A 7))
  F__law_endings : Fun K "_law_endings" "_law_endings" s__law_endings (A 8) (D 8)
  b__law_endings : Binds K (D 8) ["box"] []
  m__law_endings : mg "_law_endings" = some (.ref (A 8))
  F__law_cut : Fun K "_law_cut" "_law_cut" s__law_cut (A 9) (D 9)
  b__law_cut : Binds K (D 9) ["word", "endings"] []
  m__law_cut : mg "_law_cut" = some (.ref (A 9))
  F_law : Fun K "law" "law" s_law (A 10) (D 10)
  b_law : Binds K (D 10) ["script"] []
  m_law : mg "law" = some (.ref (A 10))
  c_SMALL : ∃ t, mg "SMALL" = some (.str "0123456789abcdefghijklmnopqrstuvwxyz" t)
  c_LONGEST : ∃ t, mg "LONGEST" = some (.int 12 t)
  z_bool : mg "bool" = none
  z_int : mg "int" = none
  z_isinstance : mg "isinstance" = none
  z_len : mg "len" = none
  z_list : mg "list" = none
  z_max : mg "max" = none
  z_range : mg "range" = none
  z_str : mg "str" = none
  z_tuple : mg "tuple" = none
/-! ### what all laws share: cells, digits, draws -/
theorem same_upd {H H' : Hp} {p : Addr} {o : HO} (h : Same H H') (hp : H p = none) : Same H (upd H' p o) := fun b u q => by
  rw [upd_ne (ne_of_none q hp)]; exact h b u q
theorem same_new {H : Hp} {p : Addr} {o : HO} (h : H p = none) : Same H (upd H p o) := same_upd (Same.refl H) h
def yCell (K : PySem.W.Frag) : Sp := fun vs H Q _ => ∃ (l : Addr) (ns : List Int) (k : Nat), vs = [.ref l, .int (k : Int)] ∧ SqL K H l (ns.map V.int) ∧ ∀ z : Int, Q (.int z) H
theorem at_ints {ns : List Int} {k : Nat} (h : k < ns.length) : atI (ns.map V.int) (k : Int) = some (.int (ns.getD k 0)) := by
  apply atI_nat
  rw [List.getElem?_map, List.getElem?_eq_getElem h, List.getD_eq_getElem?_getD, List.getElem?_eq_getElem h]
  rfl
section
variable {P : Program} {w : World} {K : PySem.W.Frag} {mg : Str → Option Value} {base : Heap} {A : Nat → Addr} {D : Nat → FuncData}
theorem ok_cell (T : Txt K mg A D) : FnOk P w K mg base CX0 1 (A 3) (D 3) ["script", "k"] (yCell K) := by
  refine T.F__law_cell.ok sc__law_cell (fun vs H Q E h => ?_) (fun cdv A' outer s H vs Q E hr h => ?_)
  · obtain ⟨l, ns, k, rfl, _⟩ := h; rfl
  obtain ⟨l, ns, k, rfl, hS, q⟩ := h
  refine ⟨_, (pss_cons (ps_if (pt_cmpR op_lt (pv 1) (pe_callB call_len_seq rfl T.z_len PySem.boot_len (pa_cons (pv 0) pa_nil)) (nomark _)) (pss_one (ps_ret (pe_ix (r := rIxL K) ix_list (pv 0) (pv 1) (fun _ _ => rfl)))) pss_nil) (pss_one (ps_ret pe_int))), ?_⟩
  refine ⟨_, rfl, _, rfl, l, _, rfl, .inl hS, _, _, rfl, rfl, _, rfl, ?_⟩
  refine ite2 (fun c => ?_) (fun c => ?_)
  · have c' : (k : Int) < (((ns.map V.int).length : Nat) : Int) := of_decide_eq_true c
    rw [List.length_map] at c'
    exact ⟨_, rfl, _, rfl, l, _, _, _, rfl, rfl, hS, at_ints (by omega), q _⟩
  · exact q 0
def yDigits (K : PySem.W.Frag) : Sp := fun vs H Q _ => ∃ (l : Addr) (ns : List Int), vs = [.ref l, .int 0, .int 63] ∧ SqL K H l (ns.map V.int) ∧
  ∀ (p : Addr) (ds : List Int) (H' : Hp), Same H H' → H p = none → H' p = some (.lst (ds.map V.int)) → ds.length ≤ 3780 → Q (.ref p) H'
theorem len_lt {n : Nat} (h : n ≤ 1000000) : n < sizeLine := Nat.lt_of_le_of_lt h (by decide)
theorem app_map {ds : List Int} {z : Int} : ds.map V.int ++ [V.int z] = (ds ++ [z]).map V.int := by rw [List.map_append]; rfl
theorem ok_digits (T : Txt K mg A D) : FnOk P w K mg base CX0 2 (A 4) (D 4) ["script", "first", "last"] (yDigits K) := by
  refine T.F__law_digits.ok sc__law_digits (fun vs H Q E h => ?_) (fun cdv A' outer s H vs Q E hr h => ?_)
  · obtain ⟨l, ns, rfl, _⟩ := h; rfl
  obtain ⟨l, ns, rfl, hS, q⟩ := h
  have G__law_cell := ok_cell (P := P) (w := w) (base := base) T
  have hnd := sc__law_digits.nd
  refine ⟨_, (pss_cons (ps_set (i := 3) hnd rfl (Or.inl rfl) (pe_lst pa_nil)) (pss_cons (ps_for PassesOwn.never rfl (pi_range2 rfl T.z_range (pa_cons (pv 1) (pa_cons (pv 2) pa_nil))) (pg_name (i := 4) hnd rfl (Or.inl rfl)) (pss_cons (ps_set (i := 5) hnd rfl (Or.inl rfl) (pe_call G__law_cell (hr.mono (by first | decide | omega)) rfl T.m__law_cell T.F__law_cell.kp T.b__law_cell .nil pass0 (pa_cons (pv 0) (pa_cons (pv 4) pa_nil)))) (pss_cons (ps_if (pt_cmpR op_lt (pv 5) pe_int (nomark _)) (pss_one (ps_set (i := 5) hnd rfl (Or.inl rfl) (pe_op op_sub pe_int (pe_op op_mul pe_int (pv 5))))) pss_nil) (pss_one (ps_if (pt_cmpR op_ge (pv 5) (pe_op op_pow pe_int pe_int) (nomark _)) (pss_one (ps_for PassesOwn.never rfl (pi_range1 rfl T.z_range (pa_cons pe_int pa_nil)) (pg_name (i := 6) hnd rfl (Or.inl rfl)) (pss_one (ps_if (pt_cmpR op_gt (pv 5) pe_int (nomark _)) (pss_cons (ps_expr (pe_bm PySem.F.plainAttrs_list PySem.F.slot_list_append PySem.F.type_list_append mt_append (pv 3) (pa_cons (pe_op op_mod (pe_callTy call_int1 rfl T.z_int (by decide +kernel) (pa_cons (pv 5) pa_nil)) pe_int) pa_nil))) (pss_one (ps_set (i := 5) hnd rfl (Or.inl rfl) (pe_op op_fdiv (pv 5) pe_int)))) pss_nil)))) (pss_cons (ps_set (i := 7) hnd rfl (Or.inl rfl) (pe_op op_mod (pe_callTy call_int1 rfl T.z_int (by decide +kernel) (pa_cons (pe_op op_add (pe_op op_add (pe_op op_mul (pv 5) pe_int) (pe_op op_mul (pv 4) pe_int)) pe_int) pa_nil)) pe_int)) (pss_one (ps_for PassesOwn.never rfl (pi_range1 rfl T.z_range (pa_cons pe_int pa_nil)) (pg_name (i := 6) hnd rfl (Or.inl rfl)) (pss_cons (ps_set (i := 7) hnd rfl (Or.inl rfl) (pe_op op_mod (pe_callTy call_int1 rfl T.z_int (by decide +kernel) (pa_cons (pe_op op_add (pe_op op_add (pe_op op_mul (pv 7) pe_int) (pe_op op_mul pe_int (pv 6))) pe_int) pa_nil)) pe_int)) (pss_one (ps_expr (pe_bm PySem.F.plainAttrs_list PySem.F.slot_list_append PySem.F.type_list_append mt_append (pv 3) (pa_cons (pe_op op_mod (pe_callTy call_int1 rfl T.z_int (by decide +kernel) (pa_cons (pe_op op_fdiv (pv 7) pe_int) pa_nil)) pe_int) pa_nil))))))))))))) (pss_one (ps_ret (pv 3))))), ?_⟩
  refine ⟨(by decide), fun p hp => ?_⟩
  have sH := fun o => same_new (o := o) hp
  refine ⟨_, rfl, _, rfl, (0 : Int), (63 : Int), rfl, (by decide), ?_⟩
  refine for_range (lo := 0) (n := 63) (fun i σ H' => ∃ (ds : List Int) (c4 c5 c6 c7 : Option V), σ = [some (.ref l), some (.int 0), some (.int 63), some (.ref p), c4, c5, c6, c7] ∧ Same H H' ∧ H' p = some (.lst (ds.map V.int)) ∧ ds.length ≤ 60 * i)
    ⟨[], none, none, none, none, rfl, sH _, upd_same, Nat.zero_le _⟩ ?_ ?_
  · rintro i σ H1 hi ⟨ds, c4, c5, c6, c7, rfl, s1, hd, hl⟩
    refine ⟨_, rfl, _, rfl, l, ns, i, (by rw [Int.zero_add]; rfl), s1.seq hS, fun z => ?_⟩
    refine ⟨_, rfl, _, _, rfl, rfl, _, rfl, ?_⟩
    refine ite2 (fun c => ?_) (fun c => ?_)
    refine ⟨_, rfl, _, _, rfl, rfl, .inl ⟨by decide, by decide⟩, _, _, rfl, rfl, ?_⟩
    all_goals
      refine ⟨_, rfl, _, _, rfl, rfl, ⟨by decide, by decide, by decide⟩, _, _, rfl, rfl, _, rfl, ?_⟩
      refine ite2 (fun _ => ?_) (fun _ => ?_)
      · refine ⟨_, rfl, by decide, by decide, for_range (n := 60) (fun t σ H' => ∃ (ds : List Int) (c : Int) (c6 : Option V), σ = [some (.ref l), some (.int 0), some (.int 63), some (.ref p), some (.int (0 + (i : Int))), some (.int c), c6, c7] ∧ Same H H' ∧ H' p = some (.lst (ds.map V.int)) ∧ ds.length ≤ 60 * i + t)
          ⟨ds, _, c6, rfl, s1, hd, by omega⟩ ?_ ?_⟩
        · rintro t σ H2 ht ⟨ds2, c, c6, rfl, s2, hd2, hl2⟩
          refine ⟨_, rfl, _, _, rfl, rfl, _, rfl, ?_⟩
          refine ite2 (fun _ => ?_) (fun _ => ?_)
          · refine ⟨_, rfl, .inl ⟨rfl, _, SqL.of hd2⟩, _, rfl, .inl ⟨_, rfl, _, _, rfl, rfl, (by show (0 : Int) < _; decide), _, _, _, rfl, rfl, hd2, (by rw [List.length_map]; exact len_lt (by omega)), ?_⟩⟩
            refine ⟨_, rfl, _, _, rfl, rfl, ⟨by decide, by decide⟩, ?_⟩
            exact ⟨_, _, _, rfl, same_upd s2 hp, by rw [upd_same, app_map], by rw [List.length_append]; simp only [List.length_singleton]; omega⟩
          · exact ⟨_, _, _, rfl, s2, hd2, by omega⟩
        · rintro σ H2 ⟨ds2, c, c6, rfl, s2, hd2, hl2⟩
          exact ⟨_, _, _, _, _, rfl, s2, hd2, by omega⟩
      · refine ⟨_, rfl, _, _, rfl, rfl, .inr ⟨by decide, by decide⟩, _, rfl, _, _, rfl, rfl, .inr ⟨by decide, by decide⟩, _, _, rfl, rfl, _, _, rfl, rfl, .inl ⟨_, rfl, _, _, rfl, rfl, (by show (0 : Int) < _; decide), ?_⟩⟩
        refine ⟨_, rfl, by decide, by decide, for_range (n := 12) (fun t σ H' => ∃ (ds : List Int) (c : Int) (c5 c6 : Option V), σ = [some (.ref l), some (.int 0), some (.int 63), some (.ref p), some (.int (0 + (i : Int))), c5, c6, some (.int c)] ∧ Same H H' ∧ H' p = some (.lst (ds.map V.int)) ∧ ds.length ≤ 60 * i + t)
          ⟨ds, _, _, _, rfl, s1, hd, by omega⟩ ?_ ?_⟩
        · rintro t σ H2 ht ⟨ds2, c, c5, c6, rfl, s2, hd2, hl2⟩
          refine ⟨_, rfl, _, _, rfl, rfl, .inr ⟨by decide, by decide⟩, _, rfl, _, _, rfl, rfl, .inl ⟨by decide, by decide⟩, _, _, rfl, rfl, _, _, rfl, rfl, .inl ⟨_, rfl, _, _, rfl, rfl, (by show (0 : Int) < _; decide), ?_⟩⟩
          refine ⟨_, rfl, .inl ⟨rfl, _, SqL.of hd2⟩, _, rfl, _, _, rfl, rfl, ⟨by decide, by decide⟩, .inl ⟨_, rfl, _, _, rfl, rfl, (by show (0 : Int) < _; decide), _, _, _, rfl, rfl, hd2, (by rw [List.length_map]; exact len_lt (by omega)), ?_⟩⟩
          exact ⟨_, _, _, _, rfl, same_upd s2 hp, by rw [upd_same, app_map], by rw [List.length_append]; simp only [List.length_singleton]; omega⟩
        · rintro σ H2 ⟨ds2, c, c5, c6, rfl, s2, hd2, hl2⟩
          exact ⟨_, _, _, _, _, rfl, s2, hd2, by omega⟩
  · rintro σ H1 ⟨ds, c4, c5, c6, c7, rfl, s1, hd, hl⟩
    exact ⟨_, rfl, q p ds H1 s1 hp hd (by omega)⟩
end

/-- all but the object at b stand as before -/
def Kp (b : Addr) (H H' : Hp) : Prop := ∀ c o, H c = some o → c ≠ b → H' c = some o
theorem Kp.refl (b : Addr) (H : Hp) : Kp b H H := fun _ _ h _ => h
theorem Kp.trans {b : Addr} {H H1 H2 : Hp} (a : Kp b H H1) (c : Kp b H1 H2) : Kp b H H2 := fun x o h n => c x o (a x o h n) n
theorem Kp.upd {b : Addr} {H H' : Hp} {o : HO} (a : Kp b H H') : Kp b H (upd H' b o) := fun x u h n => by rw [upd_ne n]; exact a x u h n
theorem Kp.of {b : Addr} {H H' : Hp} (a : Same H H') : Kp b H H' := fun x o h _ => a x o h
/-- the box of draws: its digits at p, the place -/
def BoxAt (H : Hp) (b p : Addr) : Prop := ∃ (ns : List Int) (n : Nat), H b = some (.lst [.ref p, .int (n : Int)]) ∧ H p = some (.lst (ns.map V.int))
theorem BoxAt.keep {H H' : Hp} {b p : Addr} (h : BoxAt H b p) (k : Same H H') : BoxAt H' b p := by
  obtain ⟨ns, n, h1, h2⟩ := h
  exact ⟨ns, n, k _ _ h1, k _ _ h2⟩
theorem BoxAt.ne {H : Hp} {b p d : Addr} (h : BoxAt H b p) (hd : H d = none) : d ≠ b ∧ d ≠ p := by
  obtain ⟨ns, n, h1, h2⟩ := h
  exact ⟨fun e => (by rw [e, h1] at hd; cases hd), fun e => (by rw [e, h2] at hd; cases hd)⟩
theorem BoxAt.updO {H : Hp} {b p d : Addr} {o : HO} (h : BoxAt H b p) (n1 : d ≠ b) (n2 : d ≠ p) : BoxAt (upd H d o) b p := by
  obtain ⟨ns, n, h1, h2⟩ := h
  exact ⟨ns, n, by rw [upd_ne n1.symm]; exact h1, by rw [upd_ne n2.symm]; exact h2⟩
/-- tuples stand as before -/
def TK (H H' : Hp) : Prop := ∀ c u, (∃ xs, u = .tup xs) → Rd H c u → Rd H' c u
theorem TK.refl (H : Hp) : TK H H := fun _ _ _ h => h
theorem TK.trans {H H1 H2 : Hp} (a : TK H H1) (b : TK H1 H2) : TK H H2 := fun c u h r => b c u h (a c u h r)
theorem TK.same {H H' : Hp} (a : Same H H') : TK H H' := fun c u _ r => by
  rcases r with r | ⟨o, r⟩
  · exact .inl (a _ _ r)
  · exact .inr ⟨o, a _ _ r⟩
theorem TK.kp {b : Addr} {H H' : Hp} {xs : List V} (a : Kp b H H') (h : H b = some (.lst xs)) : TK H H' := fun c u ⟨ys, e⟩ r => by
  subst e
  have hn : c ≠ b := fun z => by subst z; rcases r with r | ⟨o, r⟩ <;> (rw [h] at r; cases r)
  rcases r with r | ⟨o, r⟩
  · exact .inl (a _ _ r hn)
  · exact .inr ⟨o, a _ _ r hn⟩
theorem TK.box {b p : Addr} {H H' : Hp} (h : BoxAt H b p) (a : Kp b H H') : TK H H' := by
  obtain ⟨ns, n, h1, h2⟩ := h
  exact TK.kp a h1
theorem TK.updL {H H' : Hp} {b : Addr} {xs ys : List V} (a : TK H H') (h : H' b = some (.lst xs)) : TK H (upd H' b (.lst ys)) :=
  a.trans (TK.kp (Kp.upd (Kp.refl b H')) h)
theorem TK.new {H H' : Hp} {b : Addr} {o : HO} (a : TK H H') (h : H' b = none) : TK H (upd H' b o) := a.trans (TK.same (same_new h))
theorem TK.seq {K : PySem.W.Frag} {H H' : Hp} (k : TK H H') {a : Addr} {xs : List V} (h : SqT K H a xs) : SqT K H' a xs := by
  rcases h with h | h
  · exact .inl (k _ _ ⟨_, rfl⟩ h)
  · exact .inr h
/-- data without lists -/
inductive Imm : PyData → Prop
  | non : Imm .none
  | bl (b : Bool) : Imm (.bool b)
  | int (i : Int) : Imm (.int i)
  | str (x : Str) : Imm (.str x)
  | tup {ds : List PyData} : (∀ d ∈ ds, Imm d) → Imm (.tuple ds)
mutual
theorem Dp.keep {K : PySem.W.Frag} {H H' : Hp} (k : TK H H') : ∀ {v : V} {d : PyData}, Dp K H v d → Imm d → Dp K H' v d
  | _, _, .non, _ => .non
  | _, _, .bl b, _ => .bl b
  | _, _, .int i, _ => .int i
  | _, _, .str x, _ => .str x
  | _, _, .lst h a, i => nomatch i
  | _, _, .tup h a, i => .tup (k.seq h) (DpAll.keep k a (match i with | .tup j => j))
theorem DpAll.keep {K : PySem.W.Frag} {H H' : Hp} (k : TK H H') : ∀ {vs : List V} {ds : List PyData}, DpAll K H vs ds → (∀ d ∈ ds, Imm d) → DpAll K H' vs ds
  | _, _, .nil, _ => .nil
  | _, _, .cons a b, i => .cons (Dp.keep k a (i _ List.mem_cons_self)) (DpAll.keep k b fun d hd => i d (List.mem_cons_of_mem _ hd))
end
mutual
theorem Dp.same {K : PySem.W.Frag} {H H' : Hp} (k : Same H H') : ∀ {v : V} {d : PyData}, Dp K H v d → Dp K H' v d
  | _, _, .non => .non
  | _, _, .bl b => .bl b
  | _, _, .int i => .int i
  | _, _, .str x => .str x
  | _, _, .lst h a => .lst (k.seq h) (DpAll.same k a)
  | _, _, .tup h a => .tup ((TK.same k).seq h) (DpAll.same k a)
theorem DpAll.same {K : PySem.W.Frag} {H H' : Hp} (k : Same H H') : ∀ {vs : List V} {ds : List PyData}, DpAll K H vs ds → DpAll K H' vs ds
  | _, _, .nil => .nil
  | _, _, .cons a b => .cons (Dp.same k a) (DpAll.same k b)
end
theorem DpAll.len {K : PySem.W.Frag} {H : Hp} : ∀ {vs : List V} {ds : List PyData}, DpAll K H vs ds → vs.length = ds.length
  | _, _, .nil => rfl
  | _, _, .cons a b => by rw [List.length_cons, List.length_cons, DpAll.len b]
theorem DpAll.get {K : PySem.W.Frag} {H : Hp} : ∀ {vs : List V} {ds : List PyData}, DpAll K H vs ds → ∀ {i : Nat} {d : PyData}, ds[i]? = some d → ∃ v, vs[i]? = some v ∧ Dp K H v d
  | _, _, .nil, i, d, h => by simp at h
  | _, _, .cons a b, 0, d, h => by
    have e := Option.some.inj h
    subst e
    exact ⟨_, rfl, a⟩
  | _, _, .cons a b, i + 1, d, h => DpAll.get b (i := i) (by simpa using h)
theorem DpAll.app {K : PySem.W.Frag} {H : Hp} : ∀ {vs ws : List V} {ds es : List PyData}, DpAll K H vs ds → DpAll K H ws es → DpAll K H (vs ++ ws) (ds ++ es)
  | _, _, _, _, .nil, h => h
  | _, _, _, _, .cons a b, h => .cons a (DpAll.app b h)
theorem DpAll.ints {K : PySem.W.Frag} {H : Hp} : ∀ (ns : List Int), DpAll K H (ns.map V.int) (ns.map PyData.int)
  | [] => .nil
  | n :: r => .cons (.int n) (DpAll.ints r)
theorem DpAll.strs {K : PySem.W.Frag} {H : Hp} : ∀ (ns : List Str), DpAll K H (ns.map V.str) (ns.map PyData.str)
  | [] => .nil
  | n :: r => .cons (.str n) (DpAll.strs r)
/-- depth below n, lists not too long -/
def Fits : Nat → PyData → Prop
  | 0, _ => False
  | n + 1, .list xs => xs.length < 2 ^ 60 ∧ ∀ x ∈ xs, Fits n x
  | n + 1, .tuple xs => xs.length < 2 ^ 60 ∧ ∀ x ∈ xs, Fits n x
  | _ + 1, .dict _ => False
  | _ + 1, _ => True
theorem ty_l {K : PySem.W.Frag} {H : Hp} {a : Addr} {xs : List V} (h : SqL K H a xs) : TyX K H (.ref a) (.type "list") := by
  rcases h with (h | ⟨o, h⟩) | ⟨o, its, n, h1, h2, _⟩
  · exact .base (.lst h)
  · exact .base (.frz h)
  · exact .kList h1 h2
theorem ty_t {K : PySem.W.Frag} {H : Hp} {a : Addr} {xs : List V} (h : SqT K H a xs) : TyX K H (.ref a) (.type "tuple") := by
  rcases h with (h | ⟨o, h⟩) | ⟨o, its, n, h1, h2, _⟩
  · exact .base (.tup h)
  · exact .fTuple h
  · exact .kTuple h1 h2
/-- the two are the same data: True -/
def ySame (K : PySem.W.Frag) (n : Nat) : Sp := fun vs H Q _ => ∃ (x y : V) (d : PyData), vs = [x, y] ∧ Dp K H x d ∧ Dp K H y d ∧ Fits n d ∧ Q (.bl true) H
def yDraw (K : PySem.W.Frag) : Sp := fun vs H Q _ => ∃ (b p : Addr) (m : Int), vs = [.ref b, .int m] ∧ BoxAt H b p ∧ 0 < m ∧
  ∀ (r : Int) (H' : Hp), 0 ≤ r → r < m → BoxAt H' b p → Kp b H H' → Q (.int r) H'
section
variable {P : Program} {w : World} {K : PySem.W.Frag} {mg : Str → Option Value} {base : Heap} {A : Nat → Addr} {D : Nat → FuncData}
theorem ok_draw (T : Txt K mg A D) : FnOk P w K mg base CX0 1 (A 5) (D 5) ["box", "many"] (yDraw K) := by
  refine T.F__law_draw.ok sc__law_draw (fun vs H Q E h => ?_) (fun cdv A' outer s H vs Q E hr h => ?_)
  · obtain ⟨b, d, m, rfl, _⟩ := h; rfl
  obtain ⟨b, d, m, rfl, ⟨ns, n, h1, h2⟩, hm, q⟩ := h
  have hnd := sc__law_draw.nd
  have ndb : d ≠ b := fun e => by
    rw [e, h1] at h2
    cases ns with
    | nil => simp at h2
    | cons a r => simp at h2
  refine ⟨_, (pss_cons (ps_set (i := 2) hnd rfl (Or.inl rfl) (pe_ix (r := rIxL K) ix_list (pv 0) pe_int (fun _ _ => rfl))) (pss_cons (ps_asg (pe_op op_add (pv 2) pe_int) (pg_sub (pv 0) pe_int set_list)) (pss_cons (ps_if (pt_cmpR op_lt (pv 2) (pe_callB call_len_seq rfl T.z_len PySem.boot_len (pa_cons (pe_ix (r := rIxL K) ix_list (pv 0) pe_int (fun _ _ => rfl)) pa_nil)) (nomark _)) (pss_one (ps_ret (pe_op op_modN (pe_callTy call_int1 rfl T.z_int (by decide +kernel) (pa_cons (pe_ix (r := rIxL K) ix_list (pe_ix (r := rIxL K) ix_list (pv 0) pe_int (fun _ _ => rfl)) (pv 2) (fun _ _ => rfl)) pa_nil)) (pv 1)))) pss_nil) (pss_one (ps_ret pe_int))))), ?_⟩
  refine ⟨_, rfl, b, _, _, _, rfl, rfl, SqL.of h1, rfl, ?_⟩
  refine ⟨_, rfl, _, _, rfl, rfl, _, rfl, b, _, _, 1, rfl, rfl, h1, rfl, ?_⟩
  have k1 : Kp b H (upd H b (.lst [.ref d, .int ((n : Int) + 1)])) := Kp.upd (Kp.refl b H)
  have e1 : upd H b (.lst [.ref d, .int ((n : Int) + 1)]) b = some (.lst [.ref d, .int ((n : Int) + 1)]) := upd_same
  have e2 : upd H b (.lst [.ref d, .int ((n : Int) + 1)]) d = some (.lst (ns.map V.int)) := k1 _ _ h2 ndb
  have B : BoxAt (upd H b (.lst [.ref d, .int ((n : Int) + 1)])) b d := ⟨ns, n + 1, upd_same, e2⟩
  refine ⟨_, rfl, _, rfl, b, _, _, _, rfl, rfl, SqL.of e1, rfl, d, _, rfl, .inl (SqL.of e2), _, _, rfl, rfl, _, rfl, ?_⟩
  refine ite2 (fun c => ?_) (fun c => ?_)
  · have c' : (n : Int) < (((ns.map V.int).length : Nat) : Int) := of_decide_eq_true c
    rw [List.length_map] at c'
    refine ⟨_, rfl, b, _, _, _, rfl, rfl, SqL.of e1, rfl, _, rfl, d, _, _, _, rfl, rfl, SqL.of e2, at_ints (by omega), .inl ⟨_, rfl, _, rfl, _, _, rfl, rfl, (by show m ≠ 0; omega), ?_⟩⟩
    have z1 := Int.fmod_nonneg_of_pos (ns.getD n 0) hm
    have z2 := Int.fmod_lt_of_pos (ns.getD n 0) hm
    exact q _ _ z1 z2 B k1
  · exact q 0 _ (Int.le_refl 0) hm B k1
theorem ok_same (T : Txt K mg A D) : ∀ n, FnOk P w K mg base CX0 n (A 6) (D 6) ["actual", "due"] (ySame K n)
  | 0 => by
    have no : ∀ vs H Q E, ¬ ySame K 0 vs H Q E := fun vs H Q E h => by
      obtain ⟨x, y, d, _, _, _, f, _⟩ := h
      cases d <;> exact f
    exact ⟨fun vs H Q E h => absurd h (no vs H Q E), fun A outer s H args us vs Q E _ _ _ _ h => absurd h (no vs H Q E)⟩
  | n + 1 => by
    have G__law_same := ok_same T n
    refine T.F__law_same.ok sc__law_same (fun vs H Q E h => ?_) (fun cdv A' outer s H vs Q E hr h => ?_)
    · obtain ⟨x, y, d, rfl, _⟩ := h; rfl
    obtain ⟨x, y, d, rfl, dx, dy, hf, q⟩ := h
    have hnd := sc__law_same.nd
    refine ⟨_, (pss_cons (ps_if (PW.pt (pw_or (pt_val (pe_callB call_isi rfl T.z_isinstance (by decide +kernel) (pa_cons (pv 1) (pa_cons (pe_bltn (v := .ty "list") rfl T.z_list (by decide +kernel) rfl) pa_nil)))) (pw_or1 (pt_val (pe_callB call_isi rfl T.z_isinstance (by decide +kernel) (pa_cons (pv 1) (pa_cons (pe_bltn (v := .ty "tuple") rfl T.z_tuple (by decide +kernel) rfl) pa_nil))))))) (pss_cons (ps_if (PW.pt (pw_or (pt_cmpR op_ne (pe_callB call_isi rfl T.z_isinstance (by decide +kernel) (pa_cons (pv 1) (pa_cons (pe_bltn (v := .ty "list") rfl T.z_list (by decide +kernel) rfl) pa_nil))) (pe_callB call_isi rfl T.z_isinstance (by decide +kernel) (pa_cons (pv 0) (pa_cons (pe_bltn (v := .ty "list") rfl T.z_list (by decide +kernel) rfl) pa_nil))) (nomark _)) (pw_or1 (pt_cmpR op_ne (pe_callB call_isi rfl T.z_isinstance (by decide +kernel) (pa_cons (pv 1) (pa_cons (pe_bltn (v := .ty "tuple") rfl T.z_tuple (by decide +kernel) rfl) pa_nil))) (pe_callB call_isi rfl T.z_isinstance (by decide +kernel) (pa_cons (pv 0) (pa_cons (pe_bltn (v := .ty "tuple") rfl T.z_tuple (by decide +kernel) rfl) pa_nil))) (nomark _))))) (pss_one (ps_ret pe_bl)) pss_nil) (pss_cons (ps_if (pt_cmpR op_ne (pe_callB call_len_seq rfl T.z_len PySem.boot_len (pa_cons (pv 0) pa_nil)) (pe_callB call_len_seq rfl T.z_len PySem.boot_len (pa_cons (pv 1) pa_nil)) (nomark _)) (pss_one (ps_ret pe_bl)) pss_nil) (pss_cons (ps_for PassesOwn.never rfl (pi_range1 rfl T.z_range (pa_cons (pe_callB call_len_seq rfl T.z_len PySem.boot_len (pa_cons (pv 1) pa_nil)) pa_nil)) (pg_name (i := 2) hnd rfl (Or.inl rfl)) (pss_one (ps_if (pt_not (pt_val (pe_call G__law_same (hr.mono (by first | decide | omega)) rfl T.m__law_same T.F__law_same.kp T.b__law_same .nil pass0 (pa_cons (pe_ix (r := rIx K) ix_seq (pv 0) (pv 2) (fun _ _ => rfl)) (pa_cons (pe_ix (r := rIx K) ix_seq (pv 1) (pv 2) (fun _ _ => rfl)) pa_nil))))) (pss_one (ps_ret pe_bl)) pss_nil))) (pss_one (ps_ret pe_bl))))) pss_nil) (pss_cons (ps_if (pt_cmpR op_isN (pv 1) pe_non (nomark _)) (pss_one (ps_ret (pe_cmpR op_isN (pv 0) pe_non (nomark _)))) pss_nil) (pss_cons (ps_if (pt_val (pe_callB call_isi rfl T.z_isinstance (by decide +kernel) (pa_cons (pv 1) (pa_cons (pe_bltn (v := .ty "bool") rfl T.z_bool (by decide +kernel) rfl) pa_nil)))) (pss_one (ps_ret (pe_and (pe_callB call_isi rfl T.z_isinstance (by decide +kernel) (pa_cons (pv 0) (pa_cons (pe_bltn (v := .ty "bool") rfl T.z_bool (by decide +kernel) rfl) pa_nil))) (pe_one (pe_cmpR op_eq (pv 0) (pv 1) (nomark _)))))) pss_nil) (pss_cons (ps_if (pt_val (pe_callB call_isi rfl T.z_isinstance (by decide +kernel) (pa_cons (pv 1) (pa_cons (pe_bltn (v := .ty "str") rfl T.z_str (by decide +kernel) rfl) pa_nil)))) (pss_one (ps_ret (pe_and (pe_callB call_isi rfl T.z_isinstance (by decide +kernel) (pa_cons (pv 0) (pa_cons (pe_bltn (v := .ty "str") rfl T.z_str (by decide +kernel) rfl) pa_nil))) (pe_one (pe_cmpR op_eq (pv 0) (pv 1) (nomark _)))))) pss_nil) (pss_one (ps_ret (pe_and (pe_callB call_isi rfl T.z_isinstance (by decide +kernel) (pa_cons (pv 0) (pa_cons (pe_bltn (v := .ty "int") rfl T.z_int (by decide +kernel) rfl) pa_nil))) (pe_and (pe_not (pe_callB call_isi rfl T.z_isinstance (by decide +kernel) (pa_cons (pv 0) (pa_cons (pe_bltn (v := .ty "bool") rfl T.z_bool (by decide +kernel) rfl) pa_nil)))) (pe_one (pe_cmpR op_eq (pv 0) (pv 1) (nomark _))))))))))), ?_⟩
    cases d with
    | dict _ => exact hf.elim
    | list ds =>
      obtain ⟨hf1, hf2⟩ := hf
      cases dx with | lst hx ax =>
      cases dy with | lst hy ay =>
      rename_i a vs a' vs'
      have l1 := DpAll.len ax
      have l2 := DpAll.len ay
      refine ⟨_, rfl, _, _, _, _, _, rfl, .ty _, ty_l hy, kit_ty (by decide +kernel), _, rfl, iteT (iteT ?_)⟩
      refine ⟨_, rfl, _, _, _, _, true, rfl, .ty _, ty_l hy, kit_ty (by decide +kernel), _, rfl, _, _, _, _, true, rfl, .ty _, ty_l hx, kit_ty (by decide +kernel), rfl, _, rfl, iteNS rfl ?_⟩
      refine ⟨_, rfl, _, _, _, _, false, rfl, .ty _, ty_l hy, kit_ty (by decide +kernel), _, rfl, _, _, _, _, false, rfl, .ty _, ty_l hx, kit_ty (by decide +kernel), rfl, _, rfl, iteNS rfl ?_⟩
      refine ⟨_, rfl, _, _, rfl, .inl hx, _, rfl, _, _, rfl, .inl hy, rfl, _, rfl, iteNS (by rw [l1, l2]) ?_⟩
      refine ⟨_, rfl, _, _, rfl, .inl hy, _, rfl, (by omega), (by omega), ?_⟩
      rw [show ((vs'.length : Nat) : Int).toNat = ds.length by omega]
      refine for_range (n := ds.length) (fun i σ H' => ∃ kv : Option V, σ = [some (.ref a), some (.ref a'), kv] ∧ H' = H) ⟨none, rfl, rfl⟩ ?_ ?_
      · rintro i σ H' hi ⟨kv, rfl, rfl⟩
        obtain ⟨v, ev, dv⟩ := DpAll.get ax (List.getElem?_eq_getElem hi)
        obtain ⟨v', ev', dv'⟩ := DpAll.get ay (List.getElem?_eq_getElem hi)
        have ev1 : atI vs (0 + (i : Int)) = some v := by rw [Int.zero_add]; exact atI_nat ev
        have ev2 : atI vs' (0 + (i : Int)) = some v' := by rw [Int.zero_add]; exact atI_nat ev'
        refine ⟨_, rfl, _, rfl, .inl ⟨_, _, _, _, rfl, rfl, hx, ev1, _, rfl, _, rfl, .inl ⟨_, _, _, _, rfl, rfl, hy, ev2, ?_⟩⟩⟩
        exact ⟨v, v', ds[i], rfl, dv, dv', hf2 _ (List.getElem_mem hi), _, rfl, iteF ⟨_, rfl, rfl⟩⟩
      · rintro σ H' ⟨kv, rfl, rfl⟩
        exact q
    | tuple ds =>
      obtain ⟨hf1, hf2⟩ := hf
      cases dx with | tup hx ax =>
      cases dy with | tup hy ay =>
      rename_i a vs a' vs'
      have l1 := DpAll.len ax
      have l2 := DpAll.len ay
      refine ⟨_, rfl, _, _, _, _, _, rfl, .ty _, ty_t hy, kit_ty (by decide +kernel), _, rfl, iteF ⟨_, rfl, _, _, _, _, _, rfl, .ty _, ty_t hy, kit_ty (by decide +kernel), _, rfl, iteT ?_⟩⟩
      refine ⟨_, rfl, _, _, _, _, false, rfl, .ty _, ty_t hy, kit_ty (by decide +kernel), _, rfl, _, _, _, _, false, rfl, .ty _, ty_t hx, kit_ty (by decide +kernel), rfl, _, rfl, iteNS rfl ?_⟩
      refine ⟨_, rfl, _, _, _, _, true, rfl, .ty _, ty_t hy, kit_ty (by decide +kernel), _, rfl, _, _, _, _, true, rfl, .ty _, ty_t hx, kit_ty (by decide +kernel), rfl, _, rfl, iteNS rfl ?_⟩
      refine ⟨_, rfl, _, _, rfl, .inr hx, _, rfl, _, _, rfl, .inr hy, rfl, _, rfl, iteNS (by rw [l1, l2]) ?_⟩
      refine ⟨_, rfl, _, _, rfl, .inr hy, _, rfl, (by omega), (by omega), ?_⟩
      rw [show ((vs'.length : Nat) : Int).toNat = ds.length by omega]
      refine for_range (n := ds.length) (fun i σ H' => ∃ kv : Option V, σ = [some (.ref a), some (.ref a'), kv] ∧ H' = H) ⟨none, rfl, rfl⟩ ?_ ?_
      · rintro i σ H' hi ⟨kv, rfl, rfl⟩
        obtain ⟨v, ev, dv⟩ := DpAll.get ax (List.getElem?_eq_getElem hi)
        obtain ⟨v', ev', dv'⟩ := DpAll.get ay (List.getElem?_eq_getElem hi)
        have ev1 : atI vs (0 + (i : Int)) = some v := by rw [Int.zero_add]; exact atI_nat ev
        have ev2 : atI vs' (0 + (i : Int)) = some v' := by rw [Int.zero_add]; exact atI_nat ev'
        refine ⟨_, rfl, _, rfl, .inr (.inl ⟨_, _, _, _, rfl, rfl, hx, ev1, _, rfl, _, rfl, .inr (.inl ⟨_, _, _, _, rfl, rfl, hy, ev2, ?_⟩)⟩)⟩
        exact ⟨v, v', ds[i], rfl, dv, dv', hf2 _ (List.getElem_mem hi), _, rfl, iteF ⟨_, rfl, rfl⟩⟩
      · rintro σ H' ⟨kv, rfl, rfl⟩
        exact q
    | none =>
      cases dx with | non =>
      cases dy with | non =>
      refine ⟨_, rfl, _, _, _, _, _, rfl, .ty _, .base (.non), kit_ty (by decide +kernel), _, rfl, iteF ⟨_, rfl, _, _, _, _, _, rfl, .ty _, .base (.non), kit_ty (by decide +kernel), _, rfl, iteF ?_⟩⟩
      refine ⟨_, rfl, rfl, _, rfl, iteT ?_⟩
      exact ⟨_, rfl, rfl, q⟩
    | bool b =>
      cases dx with | bl =>
      cases dy with | bl =>
      refine ⟨_, rfl, _, _, _, _, _, rfl, .ty _, .base (.bl _), kit_ty (by decide +kernel), _, rfl, iteF ⟨_, rfl, _, _, _, _, _, rfl, .ty _, .base (.bl _), kit_ty (by decide +kernel), _, rfl, iteF ?_⟩⟩
      refine ⟨_, rfl, rfl, _, rfl, iteF ?_⟩
      refine ⟨_, rfl, _, _, _, _, _, rfl, .ty _, .base (.bl _), kit_ty (by decide +kernel), _, rfl, iteT ?_⟩
      refine ⟨_, rfl, _, _, _, _, _, rfl, .ty _, .base (.bl _), kit_ty (by decide +kernel), _, rfl, iteT ⟨_, rfl, _, rfl, rfl, ?_⟩⟩
      rw [decide_eq_true rfl]
      exact q
    | str z =>
      cases dx with | str =>
      cases dy with | str =>
      refine ⟨_, rfl, _, _, _, _, _, rfl, .ty _, .base (.str _), kit_ty (by decide +kernel), _, rfl, iteF ⟨_, rfl, _, _, _, _, _, rfl, .ty _, .base (.str _), kit_ty (by decide +kernel), _, rfl, iteF ?_⟩⟩
      refine ⟨_, rfl, rfl, _, rfl, iteF ?_⟩
      refine ⟨_, rfl, _, _, _, _, _, rfl, .ty _, .base (.str _), kit_ty (by decide +kernel), _, rfl, iteF ⟨_, rfl, _, _, _, _, _, rfl, .ty _, .base (.str _), kit_ty (by decide +kernel), _, rfl, iteT ?_⟩⟩
      refine ⟨_, rfl, _, _, _, _, _, rfl, .ty _, .base (.str _), kit_ty (by decide +kernel), _, rfl, iteT ⟨_, rfl, _, rfl, rfl, ?_⟩⟩
      rw [decide_eq_true rfl]
      exact q
    | int i =>
      cases dx with | int =>
      cases dy with | int =>
      refine ⟨_, rfl, _, _, _, _, _, rfl, .ty _, .base (.int _), kit_ty (by decide +kernel), _, rfl, iteF ⟨_, rfl, _, _, _, _, _, rfl, .ty _, .base (.int _), kit_ty (by decide +kernel), _, rfl, iteF ?_⟩⟩
      refine ⟨_, rfl, rfl, _, rfl, iteF ?_⟩
      refine ⟨_, rfl, _, _, _, _, _, rfl, .ty _, .base (.int _), kit_ty (by decide +kernel), _, rfl, iteF ⟨_, rfl, _, _, _, _, _, rfl, .ty _, .base (.int _), kit_ty (by decide +kernel), _, rfl, iteF ?_⟩⟩
      refine ⟨_, rfl, _, _, _, _, _, rfl, .ty _, .base (.int _), kit_ty (by decide +kernel), _, rfl, iteT ⟨_, rfl, _, _, _, _, false, rfl, .ty _, .base (.int _), kit_ty (by decide +kernel), _, rfl, _, rfl, iteT ⟨_, rfl, _, rfl, rfl, ?_⟩⟩⟩
      rw [decide_eq_true rfl]
      exact q
end

/-! ### words of a text -/
open TL
open PyProof.Rows (lo1 lower_ascii)
def smallS : Str := "0123456789abcdefghijklmnopqrstuvwxyz"
def smallL : Str := "abcdefghijklmnopqrstuvwxyz0123456789"
theorem small_LS : ∀ c ∈ tl smallL, c ∈ tl smallS := by decide +kernel
theorem small_SL : ∀ c ∈ tl smallS, c ∈ tl smallL := by decide +kernel
theorem small_iff {c : Nat} : c ∈ tl smallL ↔ c ∈ tl smallS := ⟨small_LS c, small_SL c⟩
/-- how a sign is read: a small letter or digit, or a blank -/
def gw (c : Nat) : Nat := if c ∈ tl smallS then c else 32
def gl (c : Nat) : Nat := gw (lo1 c)
def wordsL (cs : List Nat) : List (List Nat) := (wfin ((cs.map gl).foldl wstep ([], []))).map (·.take 12)
def sgn (c : Nat) : Str := ⟨#[c]⟩
def jn (l : List Nat) : Str := Txt.join (Str.ofString "") (l.map sgn)
theorem joinL_nil : ∀ l : List Nat, joinL [] (l.map fun c => [c]) = l
  | [] => rfl
  | [c] => rfl
  | c :: d :: r => by
    show [c] ++ ([] ++ joinL [] ((d :: r).map fun c => [c])) = _
    rw [joinL_nil (d :: r)]
    rfl
theorem join_signs (l : List Nat) : tl (jn l) = l := by
  unfold jn
  rw [join_eq, tl_join, List.map_map, show tl (Str.ofString "") = [] by decide +kernel]
  exact joinL_nil l
theorem cut_take (z : Str) (k : Nat) : tl (cutS z none (some (k : Int))) = (tl z).take k := by
  show ((z.cps.toList.drop 0).take (HT.sIx z.length z.length (some (k : Int)) - 0)) = _
  have e : HT.sIx z.length z.length (some (k : Int)) = min k z.length := by
    show (if (k : Int) < 0 then ((k : Int) + (z.length : Int)).toNat else min (k : Int).toNat z.length) = _
    rw [if_neg (by omega), Int.toNat_natCast]
  have e2 : z.length = z.cps.toList.length := len_tl z
  rw [e, List.drop_zero, Nat.sub_zero]
  exact List.take_eq_take_iff.mpr (by omega)
theorem words_len {N : Nat} : ∀ (l : List Nat) (ws : List (List Nat)) (u : List Nat), (∀ x ∈ ws, x.length ≤ N) → u.length + l.length ≤ N → ∀ x ∈ wfin (l.foldl wstep (ws, u)), x.length ≤ N
  | [], ws, u, h, hu => by
    intro x hx
    show x.length ≤ N
    have e : wfin (List.foldl wstep (ws, u) []) = if u = [] then ws else ws ++ [u] := rfl
    rw [e] at hx
    by_cases hu0 : u = []
    · rw [if_pos hu0] at hx; exact h x hx
    · rw [if_neg hu0] at hx
      rcases List.mem_append.mp hx with hx | hx
      · exact h x hx
      · rw [List.mem_singleton.mp hx]; simpa using hu
  | c :: r, ws, u, h, hu => by
    rw [List.length_cons] at hu
    rw [List.foldl_cons]
    unfold wstep
    split
    · split
      · exact words_len r ws u h (by omega)
      · refine words_len r _ _ (fun x hx => ?_) (by simp only [List.length_nil]; omega)
        rcases List.mem_append.mp hx with hx | hx
        · exact h x hx
        · rw [List.mem_singleton.mp hx]; show u.length ≤ N; omega
    · exact words_len r ws (u ++ [c]) h (by rw [List.length_append, List.length_singleton]; omega)
theorem map_sgn (l : List Nat) : (l.map sgn).map (fun x => x.length) = l.map fun _ => 1 := by rw [List.map_map]; rfl
theorem sum_ones (l : List Nat) : (l.map fun _ => 1).sum = l.length := by
  induction l with
  | nil => rfl
  | cons a r ih => rw [List.map_cons, List.sum_cons, ih, List.length_cons]; omega
theorem take_succ_map {α β : Type} {f : α → β} {l : List α} {i : Nat} {x : α} (h : l[i]? = some x) : (l.take i).map f ++ [f x] = (l.take (i + 1)).map f := by
  rw [List.take_add_one, h, List.map_append]; rfl
theorem take_all {α : Type} {l : List α} {n : Nat} (h : l.length ≤ n) : l.take n = l := List.take_of_length_le h
def yWords (K : PySem.W.Frag) : Sp := fun vs H Q _ => ∃ z : Str, vs = [.str z] ∧ z.length ≤ 100000 ∧ (∀ c ∈ tl z, c < 128) ∧
  ∀ (r : Addr) (ws : List Str) (H' : Hp), Same H H' → H r = none → H' r = some (.lst (ws.map V.str)) → ws.map tl = wordsL (tl z) → Q (.ref r) H'
section
variable {P : Program} {w : World} {K : PySem.W.Frag} {mg : Str → Option Value} {base : Heap} {A : Nat → Addr} {D : Nat → FuncData}
theorem ok_words_of (T : Txt K mg A D) : FnOk P w K mg base CX0 1 (A 0) (D 0) ["text"] (yWords K) := by
  refine T.F_words_of.ok sc_words_of (fun vs H Q E h => ?_) (fun cdv A' outer s H vs Q E hr h => ?_)
  · obtain ⟨z, rfl, _⟩ := h; rfl
  obtain ⟨z, rfl, hz, ha, q⟩ := h
  have hnd := sc_words_of.nd
  obtain ⟨tS, hSMALL⟩ := T.c_SMALL
  obtain ⟨tL, hLONGEST⟩ := T.c_LONGEST
  refine ⟨_, (pss_cons (ps_setLc (i := 3) (own := [("letter", 1)]) rfl hnd rfl rfl (sw_true rfl rfl rfl (by decide +kernel)) (pi_str (pe_lower (pv 0))) (blkOk_by (own := [("letter", 1)]) (N := N_words_of) (sc := defScope s_words_of) (by decide +kernel)) (fun _ _ _ _ _ => (pg_name (i := 1) hnd rfl (Or.inl rfl))) (fun _ _ _ _ _ => pts_nil) (fun _ _ _ _ _ => (pe_ifExp (pt_cmpR op_in_sign (pv 1) (pe_glob (v := V.str _) rfl hSMALL ⟨_, rfl⟩) rfl) (pv 1) pe_str))) (pss_one (ps_ret (pe_lc (own := [("run", 2)]) rfl hnd (pi_list (pe_words (pe_join pe_str (pv 3)))) (blkOk_by (own := [("run", 2)]) (N := N_words_of) (sc := defScope s_words_of) (by decide +kernel)) (fun _ _ _ _ _ => (pg_name (i := 2) hnd rfl (Or.inl rfl))) (fun _ _ _ _ _ => pts_nil) (fun _ _ _ _ _ => (pe_slice sl_str (pv 2) po_none (po_some (pe_glob (v := V.int _) rfl hLONGEST ⟨_, rfl⟩)))))))), ?_⟩
  have elow : tl (Txt.lower z) = (tl z).map lo1 := by
    rw [lower_ascii ha]
    show (z.cps.map lo1).toList = _
    rw [Array.toList_map]
  have els : (tl (Txt.lower z)).map gw = (tl z).map gl := by
    rw [elow, List.map_map]; rfl
  have esz : (Txt.lower z).cps.size = (tl z).length := by
    have e := congrArg List.length elow
    rw [List.length_map] at e
    rw [← e]; simp
  have hz' : (tl z).length ≤ 100000 := by rw [← len_tl]; exact hz
  refine ⟨_, rfl, ⟨_, rfl⟩, z, rfl, rfl, (by omega), _, rfl, fun p hp => ?_⟩
  refine lc_it walk_str (fun i H' => Same H H' ∧ H' p = some (.lst ((((tl z).map gl).take i).map sgn |>.map V.str))) ⟨same_new hp, upd_same⟩ (fun _ _ _ _ => trivial) ?_ ?_
  · rintro i x H1 H2 hi ⟨s1, h1⟩ ⟨rfl, c, hc, rfl⟩
    have hcl : (tl (Txt.lower z))[i]? = some c := by
      show (Txt.lower z).cps.toList[i]? = _
      rw [Array.getElem?_toList]; exact hc
    have hcg : ((tl z).map gl)[i]? = some (gw c) := by rw [← els, List.getElem?_map, hcl]; rfl
    have fin : ∀ d, d = gw c → ∃ acc, H2 p = some (.lst acc) ∧ acc.length < sizeLine ∧ Same H (upd H2 p (.lst (acc ++ [V.str (sgn d)]))) ∧ upd H2 p (.lst (acc ++ [V.str (sgn d)])) p = some (.lst ((((tl z).map gl).take (i + 1)).map sgn |>.map V.str)) := by
      rintro d rfl
      refine ⟨_, h1, ?_, same_upd s1 hp, ?_⟩
      · rw [List.length_map, List.length_map, List.length_take, List.length_map]
        exact len_lt (by omega)
      · rw [upd_same, ← take_succ_map hcg, List.map_append]; rfl
    refine ⟨rfl, ?_⟩
    refine ⟨_, rfl, c, _, rfl, rfl, _, rfl, ?_⟩
    refine ite2 (fun hin => ?_) (fun hin => ?_)
    · have hin' : c ∈ tl smallS := of_decide_eq_true hin
      exact ⟨_, rfl, fin c (by unfold gw; rw [if_pos hin'])⟩
    · have hin' : ¬ c ∈ tl smallS := fun z => hin (decide_eq_true z)
      have e32 : Str.ofString " " = sgn 32 := by decide +kernel
      have := fin 32 (by unfold gw; rw [if_neg hin'])
      rw [← e32] at this
      exact this
  · rintro H1 ⟨s1, h1⟩
    rw [esz, take_all (by rw [List.length_map]; exact Nat.le_refl _)] at h1
    have ej : tl (jn ((tl z).map gl)) = (tl z).map gl := join_signs _
    have ewd : (Txt.words (jn ((tl z).map gl))).map tl = wfin (((tl z).map gl).foldl wstep ([], [])) := by rw [words_tl, ej]
    have jl : (jn ((tl z).map gl)).length ≤ 100000 := by rw [len_tl, ej, List.length_map]; exact hz'
    have hwl : ∀ u ∈ Txt.words (jn ((tl z).map gl)), u.length ≤ 100000 := fun u hu => by
      rw [len_tl]
      exact words_len (N := 100000) ((tl z).map gl) [] [] (fun _ h => nomatch h) (by simp only [List.length_nil, List.length_map]; omega) _ (by rw [← ewd]; exact List.mem_map_of_mem hu)
    have hwn : (Txt.words (jn ((tl z).map gl))).length ≤ 100001 := Nat.le_trans (words_le _) (by omega)
    refine ⟨⟨_, rfl⟩, _, rfl, _, p, ((tl z).map gl).map sgn, rfl, rfl, .inl (SqL.of h1), ?_, ?_⟩
    · rw [map_sgn, sum_ones, List.length_map, List.length_map]
      show _ + (tl z).length * 0 ≤ _
      omega
    refine ⟨⟨_, rfl⟩, jn ((tl z).map gl), rfl, rfl, (by show (jn ((tl z).map gl)).length + 2 ≤ 16777216; omega), fun p2 hp2 => ?_⟩
    have s2 : Same H (upd H1 p2 (.lst ((Txt.words (jn ((tl z).map gl))).map V.str))) := same_upd s1 (s1.free hp2)
    refine ⟨_, rfl, ⟨_, SqL.of upd_same⟩, fun r hr0 => ?_⟩
    have hn2 : p2 ≠ r := fun e => by rw [← e, upd_same] at hr0; cases hr0
    refine lc_it (walk_list (xs := (Txt.words (jn ((tl z).map gl))).map V.str)) (fun i H' => Same H H' ∧ H' p2 = some (.lst ((Txt.words (jn ((tl z).map gl))).map V.str)) ∧ H' r = some (.lst (((Txt.words (jn ((tl z).map gl))).take i).map fun u => V.str (cutS u none (some 12)))))
      ⟨same_upd s2 (s2.free hr0), by rw [upd_ne hn2, upd_same], upd_same⟩ (fun i H' _ h => SqL.of h.2.1) ?_ ?_
    · rintro i x H2 H3 hi ⟨s3, h2, h3⟩ ⟨rfl, hx⟩
      rw [List.getElem?_map] at hx
      obtain ⟨u, hu, rfl⟩ := Option.map_eq_some_iff.mp hx
      have hul := hwl u (List.mem_of_getElem? hu)
      refine ⟨rfl, ?_⟩
      refine ⟨_, rfl, 12, rfl, u, rfl, (by show u.length ≤ 16777216; omega), _, h3, ?_, same_upd s3 (s2.free hr0), by rw [upd_ne hn2]; exact h2, ?_⟩
      · rw [List.length_map, List.length_take]; exact len_lt (by omega)
      · rw [upd_same, ← take_succ_map hu]
    · rintro H2 ⟨s3, h2, h3⟩
      rw [List.length_map, take_all (Nat.le_refl _)] at h3
      refine q r ((Txt.words (jn ((tl z).map gl))).map fun u => cutS u none (some 12)) H2 s3 (s2.free hr0) (by rw [h3, List.map_map]; rfl) ?_
      rw [List.map_map, wordsL, ← ewd, List.map_map]
      exact List.map_congr_left fun u _ => cut_take u 12
end

theorem atI_mem {α : Type} {l : List α} {r : Int} (h0 : 0 ≤ r) (h1 : r < (l.length : Int)) : ∃ c, atI l r = some c ∧ c ∈ l := by
  obtain ⟨n, rfl⟩ := Int.eq_ofNat_of_zero_le h0
  have hn : n < l.length := by omega
  exact ⟨l[n], atI_nat (List.getElem?_eq_getElem hn), List.getElem_mem hn⟩
theorem tl_sgn (c : Nat) : tl (⟨#[c]⟩ : Str) = [c] := rfl
def yRun (K : PySem.W.Frag) : Sp := fun vs H Q _ => ∃ (b p : Addr) (m : Int) (z : Str), vs = [.ref b, .int m, .str z] ∧ BoxAt H b p ∧ 0 < z.length ∧ z.length ≤ 1000 ∧ 0 ≤ m ∧ m ≤ 1000 ∧
  ∀ (t : Str) (H' : Hp), (∀ c ∈ tl t, c ∈ tl z) → (t.length : Int) = m → BoxAt H' b p → Kp b H H' → Q (.str t) H'
section
variable {P : Program} {w : World} {K : PySem.W.Frag} {mg : Str → Option Value} {base : Heap} {A : Nat → Addr} {D : Nat → FuncData}
theorem ok_run (T : Txt K mg A D) : FnOk P w K mg base CX0 2 (A 7) (D 7) ["box", "many", "chars"] (yRun K) := by
  refine T.F__law_run.ok sc__law_run (fun vs H Q E h => ?_) (fun cdv A' outer s H vs Q E hr h => ?_)
  · obtain ⟨b, p, m, z, rfl, _⟩ := h; rfl
  obtain ⟨b, p, m, z, rfl, B, z0, z1, m0, m1, q⟩ := h
  have hnd := sc__law_run.nd
  have G__law_draw := ok_draw (P := P) (w := w) (base := base) T
  refine ⟨_, (pss_cons (ps_set (i := 3) hnd rfl (Or.inl rfl) pe_str) (pss_cons (ps_for PassesOwn.never rfl (pi_range1 rfl T.z_range (pa_cons (pv 1) pa_nil)) (pg_name (i := 4) hnd rfl (Or.inl rfl)) (pss_one (ps_set (i := 3) hnd rfl (Or.inl rfl) (pe_op op_add_str (pv 3) (pe_ix ix_str (pv 2) (pe_call G__law_draw (hr.mono (by first | decide | omega)) rfl T.m__law_draw T.F__law_draw.kp T.b__law_draw .nil pass0 (pa_cons (pv 0) (pa_cons (pe_callB call_len_str rfl T.z_len PySem.boot_len (pa_cons (pv 2) pa_nil)) pa_nil))) (fun _ _ => rfl)))))) (pss_one (ps_ret (pv 3))))), ?_⟩
  refine ⟨_, rfl, m, rfl, (by omega), (by omega), ?_⟩
  refine for_range (n := m.toNat) (fun i σ H' => ∃ (t : Str) (kv : Option V), σ = [some (.ref b), some (.int m), some (.str z), some (.str t), kv] ∧ BoxAt H' b p ∧ Kp b H H' ∧ (∀ c ∈ tl t, c ∈ tl z) ∧ t.length = i)
    ⟨_, none, rfl, B, Kp.refl _ _, (fun c hc => nomatch (show c ∈ ([] : List Nat) from hc)), rfl⟩ ?_ ?_
  · rintro i σ H1 hi ⟨t, kv, rfl, B1, k1, ht, hl⟩
    refine ⟨_, rfl, _, rfl, _, rfl, _, rfl, z, rfl, (by show z.length ≤ 16777216; omega), b, p, _, rfl, B1, (by omega), fun r H2 h0 h1 B2 k2 => ?_⟩
    obtain ⟨c, hc, hm⟩ := atI_mem (l := tl z) h0 (by rw [← len_tl]; exact h1)
    refine ⟨z, r, c, rfl, rfl, (by show z.length ≤ 16777216; omega), hc, _, _, rfl, rfl, (by show t.length + 1 ≤ 16777216; omega), ?_⟩
    refine ⟨_, _, rfl, B2, k1.trans k2, fun d hd => ?_, ?_⟩
    · rw [tl_append, tl_sgn] at hd
      rcases List.mem_append.mp hd with hd | hd
      · exact ht d hd
      · rw [List.mem_singleton.mp hd]; exact hm
    · rw [len_tl, tl_append, tl_sgn, List.length_append, List.length_singleton, ← len_tl, hl]
  · rintro σ H1 ⟨t, kv, rfl, B1, k1, ht, hl⟩
    exact ⟨_, rfl, q t H1 ht (by omega) B1 k1⟩
end

/-! ### cut words -/
theorem Kp.updN {b d : Addr} {H H' : Hp} {o : HO} (a : Kp b H H') (h : H d = none) : Kp b H (L2.upd H' d o) := fun x u e n => by
  rw [upd_ne (ne_of_none e h)]; exact a x u e n
theorem Dp.tupI {K : PySem.W.Frag} {H : Hp} {v : V} {ds : List PyData} (h : Dp K H v (.tuple ds)) : ∃ a xs, v = .ref a ∧ SqT K H a xs ∧ DpAll K H xs ds := by
  cases h with
  | tup h1 h2 => exact ⟨_, _, rfl, h1, h2⟩
theorem Dp.strI {K : PySem.W.Frag} {H : Hp} {v : V} {z : Str} (h : Dp K H v (.str z)) : v = .str z := by cases h; rfl
theorem Dp.intI {K : PySem.W.Frag} {H : Hp} {v : V} {z : Int} (h : Dp K H v (.int z)) : v = .int z := by cases h; rfl
theorem DpAll.consI {K : PySem.W.Frag} {H : Hp} {vs : List V} {d : PyData} {ds : List PyData} (h : DpAll K H vs (d :: ds)) : ∃ v r, vs = v :: r ∧ Dp K H v d ∧ DpAll K H r ds := by
  cases h with
  | cons a b => exact ⟨_, _, rfl, a, b⟩
theorem DpAll.nilI {K : PySem.W.Frag} {H : Hp} {vs : List V} (h : DpAll K H vs []) : vs = [] := by cases h; rfl
theorem DpAll.strsI {K : PySem.W.Frag} {H : Hp} : ∀ {vs : List V} {ss : List Str}, DpAll K H vs (ss.map PyData.str) → vs = ss.map V.str
  | _, [], h => DpAll.nilI h
  | _, s :: r, h => by
    obtain ⟨v, t, rfl, h1, h2⟩ := DpAll.consI h
    rw [Dp.strI h1, DpAll.strsI h2]; rfl
/-- an ending with its least number, as data -/
def encE (e : Str × Int) : PyData := .tuple [.str e.1, .int e.2]
theorem imm_encE (e : Str × Int) : Imm (encE e) := .tup fun d hd => by
  rcases List.mem_cons.mp hd with rfl | hd
  · exact .str _
  · rw [List.mem_singleton.mp hd]; exact .int _
theorem imm_es (es : List (Str × Int)) : ∀ d ∈ es.map encE, Imm d := fun d hd => by
  obtain ⟨e, _, rfl⟩ := List.mem_map.mp hd; exact imm_encE e
theorem dp_encE {K : PySem.W.Frag} {H : Hp} {v : V} {e : Str × Int} (h : Dp K H v (encE e)) : ∃ q, v = .ref q ∧ SqT K H q [.str e.1, .int e.2] := by
  obtain ⟨a, xs, rfl, h1, h2⟩ := Dp.tupI h
  obtain ⟨x, r, rfl, h3, h4⟩ := DpAll.consI h2
  obtain ⟨y, r2, rfl, h5, h6⟩ := DpAll.consI h4
  rw [Dp.strI h3, Dp.intI h5, DpAll.nilI h6] at h1
  exact ⟨a, rfl, h1⟩
def Good (w : Str) (e : Str × Int) : Prop := Txt.endswith w e.1 = true ∧ e.2 ≤ (w.length : Int) - (e.1.length : Int)
instance (w : Str) (e : Str × Int) : Decidable (Good w e) := inferInstanceAs (Decidable (_ ∧ _))
def bstep (w : Str) (t : Nat) (e : Str × Int) : Nat := if Good w e then max t e.1.length else t
def best (w : Str) (es : List (Str × Int)) : Nat := es.foldl (bstep w) 0
def cutW (es : List (Str × Int)) (w : Str) : Str := cutS w none (some ((w.length : Int) - (best w es : Int)))
structure Best (w : Str) (es : List (Str × Int)) (b : Nat) : Prop where
  ex : b = 0 ∨ ∃ e ∈ es, Good w e ∧ e.1.length = b
  le : ∀ e ∈ es, Good w e → e.1.length ≤ b
theorem Best.uniq {w : Str} {es : List (Str × Int)} {b c : Nat} (h : Best w es b) (k : Best w es c) : b = c := by
  have h1 : ∀ {b c}, Best w es b → Best w es c → b ≤ c := fun {b c} h k => by
    rcases h.ex with e | ⟨e, he, hg, hl⟩
    · omega
    · rw [← hl]; exact k.le e he hg
  exact Nat.le_antisymm (h1 h k) (h1 k h)
theorem best_app (w : Str) (es : List (Str × Int)) (e : Str × Int) : best w (es ++ [e]) = bstep w (best w es) e := by
  unfold best; rw [List.foldl_append]; rfl
theorem best_is (w : Str) : ∀ es, Best w es (best w es) := by
  have aux : ∀ es : List (Str × Int), Best w es.reverse (best w es.reverse) := by
    intro es
    induction es with
    | nil => exact ⟨.inl rfl, fun e he => nomatch he⟩
    | cons a r ih =>
      rw [List.reverse_cons, best_app]
      unfold bstep
      by_cases hg : Good w a
      · rw [if_pos hg]
        refine ⟨?_, fun e he hge => ?_⟩
        · by_cases hm : best w r.reverse ≤ a.1.length
          · exact .inr ⟨a, by simp, hg, by omega⟩
          · rcases ih.ex with h | ⟨e, he, h1, h2⟩
            · omega
            · exact .inr ⟨e, List.mem_append_left _ he, h1, by omega⟩
        · rcases List.mem_append.mp he with he | he
          · have := ih.le e he hge; omega
          · rw [List.mem_singleton.mp he]; omega
      · rw [if_neg hg]
        refine ⟨?_, fun e he hge => ?_⟩
        · rcases ih.ex with h | ⟨e, he, h1, h2⟩
          · exact .inl h
          · exact .inr ⟨e, List.mem_append_left _ he, h1, h2⟩
        · rcases List.mem_append.mp he with he | he
          · exact ih.le e he hge
          · rw [List.mem_singleton.mp he] at hge; exact absurd hge hg
  intro es
  have := aux es.reverse
  rwa [List.reverse_reverse] at this
theorem endswith_len {w e : Str} (h : Txt.endswith w e = true) : e.length ≤ w.length := by
  unfold Txt.endswith at h
  have := of_decide_eq_true (Bool.and_eq_true_iff.mp h).1
  omega
theorem best_le (w : Str) (es : List (Str × Int)) : best w es ≤ w.length := by
  rcases (best_is w es).ex with e | ⟨e, _, hg, hl⟩
  · omega
  · rw [← hl]; exact endswith_len hg.1
theorem endswith_iff {w e : Str} : Txt.endswith w e = true ↔ e.length ≤ w.length ∧ (tl w).drop (w.length - e.length) = tl e := by
  unfold Txt.endswith
  rw [Bool.and_eq_true_iff, decide_eq_true_iff, PySem.StrLaws.subAt_eq, beq_iff_eq]
  have hw := len_tl w
  constructor
  · rintro ⟨h1, h2⟩
    refine ⟨by omega, ?_⟩
    have h3 : List.take e.length ((tl w).drop (w.length - e.length)) = tl e := h2
    rw [← h3]
    exact (List.take_of_length_le (by rw [List.length_drop]; omega)).symm
  · rintro ⟨h1, h2⟩
    refine ⟨by omega, ?_⟩
    show List.take e.length ((tl w).drop (w.length - e.length)) = tl e
    rw [h2, len_tl e, List.take_length]
theorem cut_neg (w : Str) (s : Nat) : tl (cutS w (some (-(1 + (s : Int)))) none) = (tl w).drop (w.length - (s + 1)) := by
  have e : HT.sIx w.length 0 (some (-(1 + (s : Int)))) = w.length - (s + 1) := by
    show (if (-(1 + (s : Int))) < 0 then ((-(1 + (s : Int))) + (w.length : Int)).toNat else min (-(1 + (s : Int))).toNat w.length) = _
    rw [if_pos (by omega)]; omega
  show ((w.cps.toList.drop (HT.sIx w.length 0 (some (-(1 + (s : Int)))))).take (w.length - HT.sIx w.length 0 (some (-(1 + (s : Int)))))) = _
  rw [e]
  refine List.take_of_length_le ?_
  rw [List.length_drop]
  have : w.length = w.cps.toList.length := len_tl w
  omega
theorem good_iff {w : Str} {e : Str × Int} {s : Nat} (hs : e.1.length = s + 1) : Good w e ↔ cutS w (some (-(1 + (s : Int)))) none = e.1 ∧ e.2 ≤ (w.length : Int) - (1 + (s : Int)) := by
  unfold Good
  have hc : cutS w (some (-(1 + (s : Int)))) none = e.1 ↔ Txt.endswith w e.1 = true := by
    rw [endswith_iff]
    constructor
    · intro h
      have h1 := congrArg tl h
      rw [cut_neg] at h1
      have h2 := congrArg List.length h1
      rw [List.length_drop, ← len_tl, ← len_tl, hs] at h2
      exact ⟨by omega, by rw [hs]; exact h1⟩
    · rintro ⟨h1, h2⟩
      apply ext_tl
      rw [cut_neg, ← h2, hs]
  rw [hc]
  constructor
  · rintro ⟨a, b⟩; exact ⟨a, by omega⟩
  · rintro ⟨a, b⟩; exact ⟨a, by omega⟩
def yCut (K : PySem.W.Frag) : Sp := fun vs H Q _ => ∃ (w : Str) (v : V) (es : List (Str × Int)), vs = [.str w, v] ∧ Dp K H v (.tuple (es.map encE)) ∧ w.length ≤ 100000 ∧ (∀ e ∈ es, 1 ≤ e.1.length ∧ e.1.length ≤ 4) ∧ Q (.str (cutW es w)) H
def yDoc (K : PySem.W.Frag) : Sp := fun vs H Q _ => ∃ (z : Str) (v : V) (es : List (Str × Int)), vs = [.str z, v] ∧ Dp K H v (.tuple (es.map encE)) ∧ (∀ e ∈ es, 1 ≤ e.1.length ∧ e.1.length ≤ 4) ∧ z.length ≤ 100000 ∧ (∀ c ∈ tl z, c < 128) ∧
  ∀ (p : Addr) (ws : List Str) (H' : Hp), Same H H' → H p = none → ws.map tl = wordsL (tl z) → H' p = some (.tup ((ws.map (cutW es)).map V.str)) → Q (.ref p) H'
theorem wordsL_len12 (cs : List Nat) : ∀ x ∈ wordsL cs, x.length ≤ 12 := fun x hx => by
  unfold wordsL at hx
  obtain ⟨y, _, rfl⟩ := List.mem_map.mp hx
  rw [List.length_take]; omega
theorem wfin_len : ∀ (l : List Nat) (ws : List (List Nat)) (u : List Nat), (wfin (l.foldl wstep (ws, u))).length ≤ ws.length + l.length + 1
  | [], ws, u => by
    have e : wfin (List.foldl wstep (ws, u) []) = if u = [] then ws else ws ++ [u] := rfl
    rw [e]
    split
    · omega
    · rw [List.length_append, List.length_singleton]; omega
  | c :: r, ws, u => by
    have h : wstep (ws, u) c = (ws, u) ∨ wstep (ws, u) c = (ws ++ [u], []) ∨ wstep (ws, u) c = (ws, u ++ [c]) := by
      unfold wstep
      split
      · split
        · exact .inl rfl
        · exact .inr (.inl rfl)
      · exact .inr (.inr rfl)
    rw [List.foldl_cons, List.length_cons]
    rcases h with h | h | h <;> rw [h]
    · have := wfin_len r ws u; omega
    · have := wfin_len r (ws ++ [u]) []
      rw [List.length_append, List.length_singleton] at this; omega
    · have := wfin_len r ws (u ++ [c]); omega
theorem wordsL_len (cs : List Nat) : (wordsL cs).length ≤ cs.length + 1 := by
  unfold wordsL
  rw [List.length_map]
  have := wfin_len (cs.map gl) [] []
  rw [List.length_map, List.length_nil] at this
  omega
section
variable {P : Program} {w : World} {K : PySem.W.Frag} {mg : Str → Option Value} {base : Heap} {A : Nat → Addr} {D : Nat → FuncData}
theorem ok_cut (T : Txt K mg A D) : FnOk P w K mg base CX0 1 (A 1) (D 1) ["word", "endings"] (yCut K) := by
  refine T.F_cut.ok sc_cut (fun vs H Q E h => ?_) (fun cdv A' outer s H vs Q E hr h => ?_)
  · obtain ⟨w, v, es, rfl, _⟩ := h; rfl
  obtain ⟨w, v, es, rfl, hd, hw, hes, q⟩ := h
  obtain ⟨a, xs, rfl, ha, hx⟩ := Dp.tupI hd
  have hnd := sc_cut.nd
  refine ⟨_, (pss_cons (ps_set (i := 2) hnd rfl (Or.inl rfl) pe_int) (pss_cons (ps_for PassesOwn.never rfl (pi_tup (pv 1)) (pg_tup rfl (pgs_cons (pg_name (i := 3) hnd rfl (Or.inl rfl)) (pgs_cons (pg_name (i := 4) hnd rfl (Or.inl rfl)) pgs_nil))) (pss_one (ps_if (PW.pt (pw_and (pt_val (pe_m1 PySem.F.slot_str_endswith PySem.F.type_str_endswith mt_endswith (pv 0) (pv 3))) (pw_and1 (pt_cmpR op_ge (pe_op op_sub (pe_callB call_len_str rfl T.z_len PySem.boot_len (pa_cons (pv 0) pa_nil)) (pe_callB call_len_str rfl T.z_len PySem.boot_len (pa_cons (pv 3) pa_nil))) (pv 4) (nomark _))))) (pss_one (ps_set (i := 2) hnd rfl (Or.inl rfl) (pe_callB (call_max2 rfl) rfl T.z_max (by decide +kernel) (pa_cons (pv 2) (pa_cons (pe_callB call_len_str rfl T.z_len PySem.boot_len (pa_cons (pv 3) pa_nil)) pa_nil))))) pss_nil))) (pss_one (ps_ret (pe_slice sl_str (pv 0) po_none (po_some (pe_op op_sub (pe_callB call_len_str rfl T.z_len PySem.boot_len (pa_cons (pv 0) pa_nil)) (pv 2)))))))), ?_⟩
  refine ⟨_, rfl, a, rfl, ⟨_, ha⟩, ?_⟩
  have hxl : xs.length = es.length := by rw [DpAll.len hx, List.length_map]
  refine for_tup (xs := xs) (fun i σ H' => ∃ (c3 c4 : Option V), σ = [some (.str w), some (.ref a), some (.int (best w (es.take i) : Nat)), c3, c4] ∧ H' = H) ⟨none, none, rfl, rfl⟩ (fun i σ H' _ h => ?_) ?_ ?_
  · obtain ⟨_, _, _, rfl⟩ := h; exact ha
  · rintro i x σ H' hi ⟨c3, c4, rfl, rfl⟩
    have hil : i < es.length := by rw [← hxl]; exact (List.getElem?_eq_some_iff.mp hi).1
    obtain ⟨v2, hv2, dv⟩ := DpAll.get hx (i := i) (d := encE es[i]) (by rw [List.getElem?_map, List.getElem?_eq_getElem hil]; rfl)
    have e2 : x = v2 := Option.some.inj (hi.symm.trans hv2)
    subst e2
    obtain ⟨q2, rfl, hq2⟩ := dp_encE dv
    have hle := hes _ (List.getElem_mem hil)
    have step : best w (es.take (i + 1)) = bstep w (best w (es.take i)) es[i] := by
      rw [List.take_add_one, List.getElem?_eq_getElem hil]; exact best_app w _ _
    have hel : es[i].1.length ≤ 16777216 := by omega
    refine ⟨q2, _, rfl, hq2, rfl, _, _, rfl, _, _, rfl, rfl, ?_⟩
    refine ⟨_, rfl, ⟨_, rfl⟩, _, rfl, _, _, rfl, rfl, _, rfl, ?_⟩
    refine ite2 (fun c1 => ?_) (fun c1 => ?_)
    · refine ⟨_, rfl, _, rfl, (by show w.length ≤ 16777216; omega), _, rfl, _, rfl, hel, _, _, rfl, rfl, _, rfl, _, _, rfl, rfl, _, rfl, ?_⟩
      refine ite2 (fun c2 => ?_) (fun c2 => ?_)
      · have hg : Good w es[i] := ⟨c1, of_decide_eq_true c2⟩
        refine ⟨_, rfl, _, rfl, _, rfl, hel, _, _, rfl, ?_⟩
        have e3 : (if ((es[i].1.length : Nat) : Int) > ((best w (es.take i) : Nat) : Int) then ((es[i].1.length : Nat) : Int) else ((best w (es.take i) : Nat) : Int)) = ((best w (es.take (i + 1)) : Nat) : Int) := by
          rw [step]; unfold bstep; rw [if_pos hg]
          split <;> omega
        refine ⟨some (.str es[i].1), some (.int es[i].2), ?_, rfl⟩
        rw [← e3]; rfl
      · have hg : ¬ Good w es[i] := fun hg => c2 (decide_eq_true hg.2)
        exact ⟨some (.str es[i].1), some (.int es[i].2), by rw [step]; unfold bstep; rw [if_neg hg]; rfl, rfl⟩
    · have hg : ¬ Good w es[i] := fun hg => c1 hg.1
      refine iteF ?_
      exact ⟨some (.str es[i].1), some (.int es[i].2), by rw [step]; unfold bstep; rw [if_neg hg]; rfl, rfl⟩
  · rintro σ H' ⟨c3, c4, rfl, rfl⟩
    rw [take_all (by omega)]
    exact ⟨_, rfl, _, rfl, _, rfl, (by show w.length ≤ 16777216; omega), _, rfl, _, _, rfl, rfl, _, rfl, w, rfl, (by show w.length ≤ 16777216; omega), q⟩
end

/-! ### a list of immutable data that grows -/
def LAt (K : PySem.W.Frag) (H : Hp) (d : Addr) (ds : List PyData) : Prop := ∃ vs, H d = some (.lst vs) ∧ DpAll K H vs ds ∧ ∀ x ∈ ds, Imm x
theorem LAt.tk {K : PySem.W.Frag} {H H' : Hp} {d : Addr} {ds : List PyData} (h : LAt K H d ds) (k : TK H H') (e : ∀ o, H d = some o → H' d = some o) : LAt K H' d ds := by
  obtain ⟨vs, h1, h2, h3⟩ := h
  exact ⟨vs, e _ h1, DpAll.keep k h2 h3, h3⟩
theorem LAt.same {K : PySem.W.Frag} {H H' : Hp} {d : Addr} {ds : List PyData} (h : LAt K H d ds) (k : Same H H') : LAt K H' d ds := h.tk (TK.same k) fun o => k _ o
theorem LAt.kp {K : PySem.W.Frag} {H H' : Hp} {b p d : Addr} {ds : List PyData} (h : LAt K H d ds) (B : BoxAt H b p) (k : Kp b H H') (n : d ≠ b) : LAt K H' d ds := h.tk (TK.box B k) fun o e => k _ o e n
theorem LAt.push {K : PySem.W.Frag} {H : Hp} {d : Addr} {ds : List PyData} {vs : List V} {v : V} {x : PyData} (h1 : H d = some (.lst vs)) (h2 : DpAll K H vs ds) (h3 : ∀ x ∈ ds, Imm x) (hv : Dp K H v x) (hx : Imm x) : LAt K (upd H d (.lst (vs ++ [v]))) d (ds ++ [x]) := by
  have k : TK H (upd H d (.lst (vs ++ [v]))) := TK.updL (TK.refl H) h1
  have h4 : ∀ y ∈ ds ++ [x], Imm y := fun y hy => by
    rcases List.mem_append.mp hy with hy | hy
    · exact h3 y hy
    · rw [List.mem_singleton.mp hy]; exact hx
  exact ⟨_, upd_same, DpAll.keep k (DpAll.app h2 (.cons hv .nil)) h4, h4⟩
theorem LAt.nil {K : PySem.W.Frag} {H : Hp} {d : Addr} (h : H d = some (.lst [])) : LAt K H d [] := ⟨[], h, .nil, fun x hx => nomatch hx⟩

def ySpLaw (K : PySem.W.Frag) : Sp := fun vs H Q _ => ∃ (a : Addr) (ns : List Int), vs = [.ref a] ∧ SqL K H a (ns.map V.int) ∧ ns.length ≤ 63 ∧ ∀ H', Q (.bl true) H'
theorem box_new {H1 : Hp} {p bx : Addr} {ds : List Int} (hp : H1 p = some (.lst (ds.map V.int))) (hb : H1 bx = none) : BoxAt (upd H1 bx (.lst [.ref p, .int 0])) bx p :=
  ⟨ds, 0, upd_same, by rw [upd_ne (ne_of_none hp hb)]; exact hp⟩
theorem pick2 {a b : V} {r : Int} (h0 : 0 ≤ r) (h1 : r < 2) : atI [a, b] r = some (if r = 0 then a else b) := by
  by_cases e : r = 0
  · subst e; rfl
  · have e1 : r = 1 := by omega
    subst e1; rfl
theorem pick2i {x y r : Int} (h0 : 0 ≤ r) (h1 : r < 2) : atI [V.int x, V.int y] r = some (V.int (if r = 0 then x else y)) := by
  rw [pick2 h0 h1]; split <;> rfl
theorem pick2s {x y : Str} {r : Int} (h0 : 0 ≤ r) (h1 : r < 2) : atI [V.str x, V.str y] r = some (V.str (if r = 0 then x else y)) := by
  rw [pick2 h0 h1]; split <;> rfl
theorem atI_map {α β : Type} {f : α → β} {l : List α} {r : Int} {x : α} (h0 : 0 ≤ r) (h : atI l r = some x) : atI (l.map f) r = some (f x) := by
  obtain ⟨n, rfl⟩ := Int.eq_ofNat_of_zero_le h0
  by_cases hn : n < l.length
  · have e : atI l (n : Int) = some l[n] := atI_nat (List.getElem?_eq_getElem hn)
    have e2 : l[n] = x := Option.some.inj (e.symm.trans h)
    exact atI_nat (by rw [List.getElem?_map, List.getElem?_eq_getElem hn, e2]; rfl)
  · unfold atI ixN at h
    rw [if_pos h0, if_neg (by omega)] at h
    cases h

def OkE (e : Str × Int) : Prop := (1 ≤ e.1.length ∧ e.1.length ≤ 4) ∧ ∀ c ∈ tl e.1, c ∈ tl smallS
def yEndings (K : PySem.W.Frag) : Sp := fun vs H Q _ => ∃ (b p : Addr), vs = [.ref b] ∧ BoxAt H b p ∧
  ∀ (v : V) (es : List (Str × Int)) (H' : Hp), Dp K H' v (.tuple (es.map encE)) → (∀ e ∈ es, OkE e) → es.length ≤ 4 → BoxAt H' b p → Kp b H H' → Q v H'
structure BestB (w : Str) (es : List (Str × Int)) (i b : Nat) : Prop where
  ex : b = 0 ∨ ∃ e ∈ es, Good w e ∧ e.1.length = b
  le : ∀ e ∈ es, Good w e → e.1.length ≤ i → e.1.length ≤ b
  bd : b ≤ i
def menuS : List Str := ["s", "es", "ing", "ed", "a", "b1", "ngs", "s"]
theorem menu_ok : ∀ e ∈ menuS, (1 ≤ e.length ∧ e.length ≤ 4) ∧ ∀ c ∈ tl e, c ∈ tl smallS := by decide +kernel
section
variable {P : Program} {w : World} {K : PySem.W.Frag} {mg : Str → Option Value} {base : Heap} {A : Nat → Addr} {D : Nat → FuncData}
theorem ok_document_of (T : Txt K mg A D) : FnOk P w K mg base CX0 2 (A 2) (D 2) ["text", "endings"] (yDoc K) := by
  refine T.F_document_of.ok sc_document_of (fun vs H Q E h => ?_) (fun cdv A' outer s H vs Q E hr h => ?_)
  · obtain ⟨z, v, es, rfl, _⟩ := h; rfl
  obtain ⟨z, v, es, rfl, hd, hes, hz, ha, q⟩ := h
  have hnd := sc_document_of.nd
  have G_words_of := ok_words_of (P := P) (w := w) (base := base) T
  have G_cut := ok_cut (P := P) (w := w) (base := base) T
  refine ⟨_, (pss_one (ps_ret (pe_callTy call_tuple_of rfl T.z_tuple (by decide +kernel) (pa_cons (pe_lc (own := [("word", 2)]) rfl hnd (pi_list (pe_call G_words_of (hr.mono (by first | decide | omega)) rfl T.m_words_of T.F_words_of.kp T.b_words_of .nil pass0 (pa_cons (pv 0) pa_nil))) (blkOk_by (own := [("word", 2)]) (N := N_document_of) (sc := defScope s_document_of) (by decide +kernel)) (fun _ _ _ _ _ => (pg_name (i := 2) hnd rfl (Or.inl rfl))) (fun _ _ _ _ _ => pts_nil) (fun _ _ _ _ _ => (pe_call G_cut (hr.mono (by first | decide | omega)) rfl T.m_cut T.F_cut.kp T.b_cut .nil pass0 (pa_cons (pv 2) (pa_cons (pv 1) pa_nil))))) pa_nil)))), ?_⟩
  refine ⟨_, rfl, z, rfl, hz, ha, fun r ws H1 s1 hr0 hr1 hw => ⟨r, rfl, ⟨_, SqL.of hr1⟩, fun D hD => ?_⟩⟩
  have hrD : r ≠ D := fun e => by rw [← e, hr1] at hD; cases hD
  have hwl : ∀ u ∈ ws, u.length ≤ 100000 := fun u hu => by
    have := wordsL_len12 (tl z) (tl u) (by rw [← hw]; exact List.mem_map_of_mem hu)
    rw [len_tl]; omega
  have hwn : ws.length ≤ 100001 := by
    have e1 := congrArg List.length hw
    have e2 := wordsL_len (tl z)
    rw [List.length_map] at e1
    rw [len_tl] at hz; omega
  refine lc_it (walk_list (xs := ws.map V.str)) (fun i H' => Same H H' ∧ H' r = some (.lst (ws.map V.str)) ∧ H' D = some (.lst (((ws.take i).map (cutW es)).map V.str)))
    ⟨same_upd s1 (s1.free hD), by rw [upd_ne hrD]; exact hr1, upd_same⟩ (fun i H' _ h => SqL.of h.2.1) ?_ ?_
  · rintro i x H2 H3 hi ⟨s3, h2, h3⟩ ⟨rfl, hx⟩
    rw [List.getElem?_map] at hx
    obtain ⟨u, hu, rfl⟩ := Option.map_eq_some_iff.mp hx
    refine ⟨rfl, ?_⟩
    refine ⟨_, rfl, _, rfl, u, v, es, rfl, Dp.same s3 hd, hwl u (List.mem_of_getElem? hu), hes, _, h3, ?_, same_upd s3 (s1.free hD), by rw [upd_ne hrD]; exact h2, ?_⟩
    · rw [List.length_map, List.length_map, List.length_take]; exact len_lt (by omega)
    · rw [upd_same, ← take_succ_map hu, List.map_append]; rfl
  · rintro H2 ⟨s3, h2, h3⟩
    rw [List.length_map, take_all (Nat.le_refl _)] at h3
    refine ⟨D, _, rfl, .inl ⟨SqL.of h3, fun p hp => ?_⟩⟩
    exact q p ws _ (same_upd s3 (s3.free hp)) (s3.free hp) hw upd_same
theorem ok_endings (T : Txt K mg A D) : FnOk P w K mg base CX0 3 (A 8) (D 8) ["box"] (yEndings K) := by
  refine T.F__law_endings.ok sc__law_endings (fun vs H Q E h => ?_) (fun cdv A' outer s H vs Q E hr h => ?_)
  · obtain ⟨b, p, rfl, _⟩ := h; rfl
  obtain ⟨b, p, rfl, B, q⟩ := h
  have hnd := sc__law_endings.nd
  have G__law_draw := ok_draw (P := P) (w := w) (base := base) T
  have G__law_run := ok_run (P := P) (w := w) (base := base) T
  refine ⟨_, (pss_cons (ps_set (i := 1) hnd rfl (Or.inl rfl) (pe_lst pa_nil)) (pss_cons (ps_for PassesOwn.never rfl (pi_range1 rfl T.z_range (pa_cons (pe_call G__law_draw (hr.mono (by first | decide | omega)) rfl T.m__law_draw T.F__law_draw.kp T.b__law_draw .nil pass0 (pa_cons (pv 0) (pa_cons pe_int pa_nil))) pa_nil)) (pg_name (i := 2) hnd rfl (Or.inl rfl)) (pss_cons (ps_set (i := 3) hnd rfl (Or.inl rfl) (pe_ix (r := rIxL K) ix_list (pe_lst (pa_cons pe_str (pa_cons pe_str (pa_cons pe_str (pa_cons pe_str (pa_cons pe_str (pa_cons pe_str (pa_cons pe_str (pa_cons pe_str pa_nil))))))))) (pe_call G__law_draw (hr.mono (by first | decide | omega)) rfl T.m__law_draw T.F__law_draw.kp T.b__law_draw .nil pass0 (pa_cons (pv 0) (pa_cons pe_int pa_nil))) (fun _ _ => rfl))) (pss_cons (ps_if (pt_cmpR op_eq (pe_call G__law_draw (hr.mono (by first | decide | omega)) rfl T.m__law_draw T.F__law_draw.kp T.b__law_draw .nil pass0 (pa_cons (pv 0) (pa_cons pe_int pa_nil))) pe_int (nomark _)) (pss_one (ps_set (i := 3) hnd rfl (Or.inl rfl) (pe_call G__law_run (hr.mono (by first | decide | omega)) rfl T.m__law_run T.F__law_run.kp T.b__law_run .nil pass0 (pa_cons (pv 0) (pa_cons (pe_op op_add pe_int (pe_call G__law_draw (hr.mono (by first | decide | omega)) rfl T.m__law_draw T.F__law_draw.kp T.b__law_draw .nil pass0 (pa_cons (pv 0) (pa_cons pe_int pa_nil)))) (pa_cons pe_str pa_nil)))))) pss_nil) (pss_one (ps_expr (pe_bm PySem.F.plainAttrs_list PySem.F.slot_list_append PySem.F.type_list_append mt_append (pv 1) (pa_cons (pe_tup (pa_cons (pv 3) (pa_cons (pe_op op_add pe_int (pe_call G__law_draw (hr.mono (by first | decide | omega)) rfl T.m__law_draw T.F__law_draw.kp T.b__law_draw .nil pass0 (pa_cons (pv 0) (pa_cons pe_int pa_nil)))) pa_nil))) pa_nil))))))) (pss_one (ps_ret (pe_callTy call_tuple_of rfl T.z_tuple (by decide +kernel) (pa_cons (pv 1) pa_nil)))))), ?_⟩
  refine ⟨(by decide), fun d hd => ?_⟩
  obtain ⟨hdb, hdp⟩ := B.ne hd
  refine ⟨_, rfl, b, p, _, rfl, B.keep (same_new hd), (by decide), fun r1 H1 h10 h11 B1 k1 => ⟨_, rfl, (by omega), (by omega), ?_⟩⟩
  have L1 : LAt K H1 d ([].map encE) := LAt.nil (k1 _ _ upd_same hdb)
  have kk1 : Kp b H H1 := (Kp.updN (Kp.refl b H) hd).trans k1
  refine for_range (n := r1.toNat) (fun i σ H' => ∃ (es : List (Str × Int)) (c2 c3 : Option V), σ = [some (.ref b), some (.ref d), c2, c3] ∧ BoxAt H' b p ∧ Kp b H H' ∧ LAt K H' d (es.map encE) ∧ (∀ e ∈ es, OkE e) ∧ es.length ≤ i)
    ⟨[], _, _, rfl, B1, kk1, L1, (fun e he => nomatch he), Nat.le_refl _⟩ ?_ ?_
  · rintro i σ H2 hi ⟨es, c2, c3, rfl, B2, kk2, L2, ok2, n2⟩
    refine ⟨(by show 8 ≤ sizeLine; decide), fun l hl => ⟨_, rfl, b, p, _, rfl, B2.keep (same_new hl), (by decide), fun r2 H3 h20 h21 B3 k3 => ?_⟩⟩
    obtain ⟨t0, ht0, hm0⟩ := atI_mem (l := menuS) h20 h21
    have ok0 := menu_ok t0 hm0
    have hll := k3 l _ upd_same (B2.ne hl).1
    have L3 := (L2.same (same_new (o := .lst (menuS.map V.str)) hl)).kp (B2.keep (same_new hl)) k3 hdb
    have kk3 : Kp b H H3 := (kk2.trans (Kp.of (same_new hl))).trans k3
    refine ⟨l, menuS.map V.str, r2, _, rfl, rfl, SqL.of hll, atI_map h20 ht0, ?_⟩
    refine ⟨_, rfl, b, p, _, rfl, B3, (by decide), fun r3 H4 h30 h31 B4 k4 => ⟨rfl, _, rfl, ?_⟩⟩
    have L4 := L3.kp B3 k4 hdb
    have kk4 := kk3.trans k4
    have rest : ∀ (t : Str) (H5 : Hp), ((1 ≤ t.length ∧ t.length ≤ 4) ∧ ∀ c ∈ tl t, c ∈ tl smallS) → BoxAt H5 b p → LAt K H5 d (es.map encE) → Kp b H H5 →
        tDrop (tBM K "list" rAppend (tVar 1) (tCons (tTup (tCons (tVar 3) (tCons (tOp (rI0 fun i j => V.int (i + j)) (tC (.int 1)) (tCall (yDraw K) [] E0 (tCons (tVar 0) (tCons (tC (.int 5)) tNil)))) tNil))) tNil))
          { nx := fun σ H' => ∃ (es : List (Str × Int)) (c2 c3 : Option V), σ = [some (.ref b), some (.ref d), c2, c3] ∧ BoxAt H' b p ∧ Kp b H H' ∧ LAt K H' d (es.map encE) ∧ (∀ e ∈ es, OkE e) ∧ es.length ≤ i + 1, rt := Q }
          [some (.ref b), some (.ref d), some (.int (0 + (i : Int))), some (.str t)] H5 := by
      rintro t H5 okt B5 ⟨vs, e1, e2, e3⟩ kk5
      refine ⟨_, rfl, .inl ⟨rfl, _, SqL.of e1⟩, _, rfl, _, rfl, b, p, _, rfl, B5, (by decide), fun r5 H6 h50 h51 B6 k6 => ⟨_, _, rfl, rfl, (by show 2 ≤ sizeLine; decide), fun q hq => ?_⟩⟩
      have e4 := k6 _ _ e1 hdb
      have e5 : upd H6 q (.tup [.str t, .int (1 + r5)]) d = some (.lst vs) := by rw [upd_ne (ne_of_none e4 hq)]; exact e4
      have e6 : DpAll K (upd H6 q (.tup [.str t, .int (1 + r5)])) vs (es.map encE) := DpAll.keep ((TK.box B5 k6).new hq) e2 e3
      refine ⟨d, _, _, rfl, rfl, e5, (by rw [DpAll.len e2, List.length_map]; exact len_lt (by omega)), ?_⟩
      refine ⟨es ++ [(t, 1 + r5)], _, _, rfl, (B6.keep (same_new hq)).updO hdb hdp, ((kk5.trans k6).trans (Kp.of (same_new hq))).updN hd, ?_, ?_, by rw [List.length_append, List.length_singleton]; omega⟩
      · rw [List.map_append]
        exact LAt.push e5 e6 e3 (.tup (SqT.of upd_same) (.cons (.str _) (.cons (.int _) .nil))) (imm_encE _)
      · intro e he
        rcases List.mem_append.mp he with he | he
        · exact ok2 e he
        · rw [List.mem_singleton.mp he]; exact okt
    refine ite2 (fun _ => ?_) (fun _ => ?_)
    · refine ⟨_, rfl, _, rfl, b, p, _, rfl, B4, (by decide), fun r4 H5 h40 h41 B5 k5 => ⟨_, _, rfl, rfl, b, p, _, smallL, rfl, B5, (by decide +kernel), (by decide +kernel), (by omega), (by omega), fun t1 H6 ht1 hl1 B6 k6 => ?_⟩⟩
      exact rest t1 H6 ⟨by omega, fun c hc => small_LS c (ht1 c hc)⟩ B6 ((L4.kp B4 k5 hdb).kp B5 k6 hdb) ((kk4.trans k5).trans k6)
    · exact rest t0 H4 ok0 B4 L4 kk4
  · rintro σ H2 ⟨es, c2, c3, rfl, B2, kk2, ⟨vs, h1, h2, h3⟩, ok2, n2⟩
    refine ⟨_, rfl, d, _, rfl, .inl ⟨SqL.of h1, fun l hl => ?_⟩⟩
    refine q _ es _ (.tup (SqT.of upd_same) (DpAll.keep (TK.new (TK.refl _) hl) h2 h3)) ok2 (by omega) (B2.keep (same_new hl)) (kk2.trans (Kp.of (same_new hl)))
theorem ok_lcut (T : Txt K mg A D) : FnOk P w K mg base CX0 1 (A 9) (D 9) ["word", "endings"] (yCut K) := by
  refine T.F__law_cut.ok sc__law_cut (fun vs H Q E h => ?_) (fun cdv A' outer s H vs Q E hr h => ?_)
  · obtain ⟨w, v, es, rfl, _⟩ := h; rfl
  obtain ⟨w, v, es, rfl, hd, hw, hes, q⟩ := h
  obtain ⟨a, xs, rfl, ha, hx⟩ := Dp.tupI hd
  have hnd := sc__law_cut.nd
  have hxl : xs.length = es.length := by rw [DpAll.len hx, List.length_map]
  have hwl : w.length ≤ sizeLine := by show w.length ≤ 16777216; omega
  refine ⟨_, (pss_cons (ps_set (i := 2) hnd rfl (Or.inl rfl) pe_int) (pss_cons (ps_for PassesOwn.never rfl (pi_range2 rfl T.z_range (pa_cons pe_int (pa_cons pe_int pa_nil))) (pg_name (i := 3) hnd rfl (Or.inl rfl)) (pss_one (ps_for PassesOwn.never rfl (pi_tup (pv 1)) (pg_name (i := 4) hnd rfl (Or.inl rfl)) (pss_one (ps_if (PW.pt (pw_and (pt_cmpR op_eq (pe_callB call_len_str rfl T.z_len PySem.boot_len (pa_cons (pe_ix (r := rIxT K) ix_tup (pv 4) pe_int (fun _ _ => rfl)) pa_nil)) (pv 3) (nomark _)) (pw_and (pt_cmpR op_eq (pe_slice sl_str (pv 0) (po_some (pe_un un_neg (pv 3))) po_none) (pe_ix (r := rIxT K) ix_tup (pv 4) pe_int (fun _ _ => rfl)) (nomark _)) (pw_and1 (pt_cmpR op_ge (pe_op op_sub (pe_callB call_len_str rfl T.z_len PySem.boot_len (pa_cons (pv 0) pa_nil)) (pv 3)) (pe_ix (r := rIxT K) ix_tup (pv 4) pe_int (fun _ _ => rfl)) (nomark _)))))) (pss_one (ps_set (i := 2) hnd rfl (Or.inl rfl) (pv 3))) pss_nil))))) (pss_one (ps_ret (pe_slice sl_str (pv 0) po_none (po_some (pe_op op_sub (pe_callB call_len_str rfl T.z_len PySem.boot_len (pa_cons (pv 0) pa_nil)) (pv 2)))))))), ?_⟩
  refine ⟨(1 : Int), (5 : Int), rfl, (by decide), ?_⟩
  refine for_range (lo := 1) (n := 4) (fun i σ H' => ∃ (b : Nat) (c3 c4 : Option V), σ = [some (.str w), some (.ref a), some (.int (b : Int)), c3, c4] ∧ H' = H ∧ BestB w es i b)
    ⟨0, _, _, rfl, rfl, .inl rfl, (fun e he _ hl => by have := (hes e he).1; omega), Nat.le_refl _⟩ ?_ ?_
  · rintro i σ H1 hi ⟨b, c3, c4, rfl, rfl, hb⟩
    refine ⟨_, rfl, a, rfl, ⟨_, ha⟩, ?_⟩
    refine for_tup (xs := xs) (fun j σ H' => ∃ (bj : Nat) (c4 : Option V), σ = [some (.str w), some (.ref a), some (.int (bj : Int)), some (.int (1 + (i : Int))), c4] ∧ H' = H1 ∧
        ((bj = b ∧ ∀ e ∈ es.take j, Good w e → e.1.length ≠ i + 1) ∨ (bj = i + 1 ∧ ∃ e ∈ es, Good w e ∧ e.1.length = i + 1)))
      ⟨b, _, rfl, rfl, .inl ⟨rfl, fun e he => nomatch he⟩⟩ (fun j σ H' _ h => ?_) ?_ ?_
    · obtain ⟨_, _, _, rfl, _⟩ := h; exact ha
    · rintro j x σ H' hj ⟨bj, c4, rfl, rfl, hbj⟩
      have hjl : j < es.length := by rw [← hxl]; exact (List.getElem?_eq_some_iff.mp hj).1
      obtain ⟨v2, hv2, dv⟩ := DpAll.get hx (i := j) (d := encE es[j]) (by rw [List.getElem?_map, List.getElem?_eq_getElem hjl]; rfl)
      have e2 : x = v2 := Option.some.inj (hj.symm.trans hv2)
      subst e2
      obtain ⟨q2, rfl, hq2⟩ := dp_encE dv
      have hle := hes _ (List.getElem_mem hjl)
      have hel : es[j].1.length ≤ sizeLine := by show _ ≤ 16777216; omega
      have no : ¬ (Good w es[j] ∧ es[j].1.length = i + 1) → ∃ (bj' : Nat) (c4 : Option V), ([some (.str w), some (.ref a), some (.int (bj : Int)), some (.int (1 + (i : Int))), some (V.ref q2)] : St) = [some (.str w), some (.ref a), some (.int (bj' : Int)), some (.int (1 + (i : Int))), c4] ∧ H' = H' ∧
          ((bj' = b ∧ ∀ e ∈ es.take (j + 1), Good w e → e.1.length ≠ i + 1) ∨ (bj' = i + 1 ∧ ∃ e ∈ es, Good w e ∧ e.1.length = i + 1)) := fun hn => by
        refine ⟨bj, _, rfl, rfl, ?_⟩
        rcases hbj with ⟨h1, h2⟩ | h1
        · refine .inl ⟨h1, fun e he hg hl => ?_⟩
          rw [List.take_add_one, List.getElem?_eq_getElem hjl] at he
          rcases List.mem_append.mp he with he | he
          · exact h2 e he hg hl
          · rw [Option.toList_some, List.mem_singleton] at he
            subst he
            exact hn ⟨hg, hl⟩
        · exact .inr h1
      refine ⟨_, rfl, q2, _, 0, _, rfl, rfl, hq2, rfl, _, rfl, hel, _, rfl, rfl, _, rfl, ?_⟩
      refine ite2 (fun c1 => ?_) (fun c1 => ?_)
      · have hl : es[j].1.length = i + 1 := by
          have := of_decide_eq_true c1
          injection this with this
          omega
        refine ⟨_, rfl, _, rfl, _, rfl, _, rfl, w, rfl, hwl, _, rfl, q2, _, 0, _, rfl, rfl, hq2, rfl, rfl, _, rfl, ?_⟩
        refine ite2 (fun c2 => ?_) (fun c2 => ?_)
        · have hs : cutS w (some (-(1 + (i : Int)))) none = es[j].1 := by
            have := of_decide_eq_true c2
            injection this
          refine ⟨_, rfl, _, rfl, hwl, _, rfl, _, _, rfl, rfl, _, rfl, q2, _, 1, _, rfl, rfl, hq2, rfl, _, _, rfl, rfl, _, rfl, ?_⟩
          refine ite2 (fun c3 => ?_) (fun c3 => ?_)
          · have hg : Good w es[j] := (good_iff hl).mpr ⟨hs, of_decide_eq_true c3⟩
            refine ⟨_, rfl, ?_⟩
            exact ⟨i + 1, some (.ref q2), by rw [show ((i + 1 : Nat) : Int) = 1 + (i : Int) by omega]; rfl, rfl, .inr ⟨rfl, es[j], List.getElem_mem hjl, hg, hl⟩⟩
          · exact no fun hh => c3 (decide_eq_true ((good_iff hl).mp hh.1).2)
        · exact no fun hh => c2 (decide_eq_true (congrArg V.str ((good_iff hl).mp hh.1).1))
      · refine no fun hh => c1 (decide_eq_true ?_)
        show V.int _ = V.int _
        rw [hh.2]
        exact congrArg V.int (by omega)
    · rintro σ H' ⟨bj, c4, rfl, rfl, hbj⟩
      rw [hxl, take_all (Nat.le_refl _)] at hbj
      refine ⟨bj, _, _, rfl, rfl, ?_⟩
      rcases hbj with ⟨rfl, h2⟩ | ⟨rfl, h2⟩
      · refine ⟨hb.ex, fun e he hg hl => ?_, by have := hb.bd; omega⟩
        by_cases hl2 : e.1.length = i + 1
        · exact absurd hl2 (h2 e he hg)
        · exact hb.le e he hg (by omega)
      · exact ⟨.inr h2, fun e he hg hl => hl, Nat.le_refl _⟩
  · rintro σ H1 ⟨b, c3, c4, rfl, rfl, hb⟩
    have hbb : b = best w es := Best.uniq ⟨hb.ex, fun e he hg => hb.le e he hg (hes e he).2⟩ (best_is w es)
    subst hbb
    exact ⟨_, rfl, _, rfl, _, rfl, hwl, _, rfl, _, _, rfl, rfl, _, rfl, w, rfl, hwl, q⟩
end

theorem small_gl1 : ∀ c ∈ tl smallS, gl c = c := by decide +kernel
theorem small_lt : ∀ c ∈ tl smallS, c < 128 := by decide +kernel
theorem small_sp : ∀ c ∈ tl smallS, Unicode.isSpace c = false := by decide +kernel
theorem sp32 : Unicode.isSpace 32 = true := by decide +kernel
theorem gl59 : gl 59 = 32 := by decide +kernel
theorem gl32 : gl 32 = 32 := by decide +kernel
def OkW (w : Str) : Prop := (0 < w.length ∧ w.length ≤ 12) ∧ ∀ c ∈ tl w, c ∈ tl smallS
theorem join_words : ∀ (L acc : List (List Nat)), (∀ p ∈ L, p ≠ [] ∧ ∀ c ∈ p, c ∈ tl smallS) → wfin (((joinL [59, 32] L).map gl).foldl wstep (acc, [])) = acc ++ L
  | [], acc, _ => by
    show wfin (acc, []) = acc ++ []
    rw [List.append_nil]; rfl
  | [p], acc, h => by
    obtain ⟨h1, h2⟩ := h p List.mem_cons_self
    show wfin ((p.map gl).foldl wstep (acc, [])) = _
    have e : p.map gl = p := by
      conv => rhs; rw [← List.map_id p]
      exact List.map_congr_left fun c hc => small_gl1 c (h2 c hc)
    rw [e, wfold_word p acc [] fun c hc => small_sp c (h2 c hc), List.nil_append]
    exact if_neg h1
  | p :: q :: r, acc, h => by
    obtain ⟨h1, h2⟩ := h p List.mem_cons_self
    show wfin (((p ++ ([59, 32] ++ joinL [59, 32] (q :: r))).map gl).foldl wstep (acc, [])) = _
    have e : p.map gl = p := by
      conv => rhs; rw [← List.map_id p]
      exact List.map_congr_left fun c hc => small_gl1 c (h2 c hc)
    rw [List.map_append, List.map_append, List.foldl_append, List.foldl_append, e, wfold_word p acc [] fun c hc => small_sp c (h2 c hc), List.nil_append]
    have e2 : ([59, 32].map gl).foldl wstep (acc, p) = (acc ++ [p], []) := by
      rw [List.map_cons, List.map_cons, gl59, gl32]
      have a1 : wstep (acc, p) 32 = (acc ++ [p], []) := by unfold wstep; rw [if_pos sp32]; exact if_neg h1
      have a2 : wstep (acc ++ [p], []) 32 = (acc ++ [p], []) := by unfold wstep; rw [if_pos sp32]; rfl
      rw [List.foldl_cons, a1, List.map_nil, List.foldl_cons, a2]; rfl
    rw [e2, join_words (q :: r) (acc ++ [p]) fun x hx => h x (List.mem_cons_of_mem _ hx), List.append_assoc]
    rfl
theorem joined {ws : List Str} (h : ∀ w ∈ ws, OkW w) : wordsL (tl (Txt.join "; " ws)) = ws.map tl := by
  rw [join_eq, tl_join, wordsL, show tl ("; " : Str) = [59, 32] by decide +kernel, join_words (ws.map tl) [] ?_, List.nil_append]
  · rw [List.map_map]
    exact List.map_congr_left fun w hw => take_all (by rw [← len_tl]; exact (h w hw).1.2)
  · intro p hp
    obtain ⟨w, hw, rfl⟩ := List.mem_map.mp hp
    refine ⟨fun e => ?_, (h w hw).2⟩
    have := (h w hw).1.1
    rw [len_tl, e] at this
    exact absurd this (Nat.lt_irrefl _)
theorem joinL_mem {S : List Nat} : ∀ {L : List (List Nat)} {c : Nat}, c ∈ joinL S L → c ∈ S ∨ ∃ p ∈ L, c ∈ p
  | [], c, h => nomatch (show c ∈ ([] : List Nat) from h)
  | [p], c, h => .inr ⟨p, List.mem_cons_self, h⟩
  | p :: q :: r, c, h => by
    rcases List.mem_append.mp (show c ∈ p ++ (S ++ joinL S (q :: r)) from h) with h | h
    · exact .inr ⟨p, List.mem_cons_self, h⟩
    · rcases List.mem_append.mp h with h | h
      · exact .inl h
      · rcases joinL_mem h with h | ⟨x, hx, h⟩
        · exact .inl h
        · exact .inr ⟨x, List.mem_cons_of_mem _ hx, h⟩
theorem joinL_len {S : List Nat} {n : Nat} : ∀ {L : List (List Nat)}, (∀ p ∈ L, p.length ≤ n) → (joinL S L).length ≤ L.length * (n + S.length)
  | [], _ => Nat.zero_le _
  | [p], h => by
    have := h p List.mem_cons_self
    show p.length ≤ 1 * _
    omega
  | p :: q :: r, h => by
    have h1 := h p List.mem_cons_self
    have h2 := joinL_len (S := S) (L := q :: r) fun x hx => h x (List.mem_cons_of_mem _ hx)
    show (p ++ (S ++ joinL S (q :: r))).length ≤ ((q :: r).length + 1) * _
    rw [List.length_append, List.length_append, Nat.add_mul, Nat.one_mul]
    omega
theorem sum_le {n : Nat} : ∀ {l : List Nat}, (∀ x ∈ l, x ≤ n) → l.sum ≤ l.length * n
  | [], _ => Nat.zero_le _
  | a :: r, h => by
    have h1 := h a List.mem_cons_self
    have h2 := sum_le (l := r) fun x hx => h x (List.mem_cons_of_mem _ hx)
    rw [List.sum_cons, List.length_cons, Nat.add_mul, Nat.one_mul]
    omega
structure EsAt (K : PySem.W.Frag) (H : Hp) (va : Addr) (vxs : List V) (es : List (Str × Int)) : Prop where
  sq : SqT K H va vxs
  al : DpAll K H vxs (es.map encE)
theorem EsAt.tk {K : PySem.W.Frag} {H H' : Hp} {va : Addr} {vxs : List V} {es : List (Str × Int)} (e : EsAt K H va vxs es) (k : TK H H') : EsAt K H' va vxs es := ⟨k.seq e.sq, DpAll.keep k e.al (imm_es es)⟩
theorem EsAt.dp {K : PySem.W.Frag} {H : Hp} {va : Addr} {vxs : List V} {es : List (Str × Int)} (e : EsAt K H va vxs es) : Dp K H (.ref va) (.tuple (es.map encE)) := .tup e.sq e.al
section
variable {P : Program} {w : World} {K : PySem.W.Frag} {mg : Str → Option Value} {base : Heap} {A : Nat → Addr} {D : Nat → FuncData}
theorem ok_law (T : Txt K mg A D) : FnOk P w K mg base CX0 5 (A 10) (D 10) ["script"] (ySpLaw K) := by
  refine T.F_law.ok sc_law (fun vs H Q E h => ?_) (fun cdv A' outer s H vs Q E hr h => ?_)
  · obtain ⟨a, ns, rfl, _⟩ := h; rfl
  obtain ⟨a, ns, rfl, hS, hn, q⟩ := h
  have hnd := sc_law.nd
  have G__law_draw := ok_draw (P := P) (w := w) (base := base) T
  have G__law_digits := ok_digits (P := P) (w := w) (base := base) T
  have G__law_run := ok_run (P := P) (w := w) (base := base) T
  have G__law_same := ok_same (P := P) (w := w) (base := base) T 2
  have G__law_endings := ok_endings (P := P) (w := w) (base := base) T
  have G__law_cut := ok_lcut (P := P) (w := w) (base := base) T
  have G_cut := ok_cut (P := P) (w := w) (base := base) T
  have G_document_of := ok_document_of (P := P) (w := w) (base := base) T
  refine ⟨_, (pss_cons (ps_set (i := 2) hnd rfl (Or.inl rfl) (pe_lst (pa_cons (pe_call G__law_digits (hr.mono (by first | decide | omega)) rfl T.m__law_digits T.F__law_digits.kp T.b__law_digits .nil pass0 (pa_cons (pv 0) (pa_cons pe_int (pa_cons pe_int pa_nil)))) (pa_cons pe_int pa_nil)))) (pss_cons (ps_set (i := 3) hnd rfl (Or.inr rfl) (pe_call G__law_endings (hr.mono (by first | decide | omega)) rfl T.m__law_endings T.F__law_endings.kp T.b__law_endings .nil pass0 (pa_cons (pv 2) pa_nil))) (pss_cons (ps_set (i := 4) hnd rfl (Or.inl rfl) (pe_lst pa_nil)) (pss_cons (ps_for PassesOwn.never rfl (pi_range1 rfl T.z_range (pa_cons pe_int pa_nil)) (pg_name (i := 5) hnd rfl (Or.inl rfl)) (pss_cons (ps_set (i := 1) hnd rfl (Or.inl rfl) (pe_call G__law_run (hr.mono (by first | decide | omega)) rfl T.m__law_run T.F__law_run.kp T.b__law_run .nil pass0 (pa_cons (pv 2) (pa_cons (pe_op op_add pe_int (pe_call G__law_draw (hr.mono (by first | decide | omega)) rfl T.m__law_draw T.F__law_draw.kp T.b__law_draw .nil pass0 (pa_cons (pv 2) (pa_cons pe_int pa_nil)))) (pa_cons pe_str pa_nil))))) (pss_cons (ps_for PassesOwn.never rfl (pi_range1 rfl T.z_range (pa_cons (pe_call G__law_draw (hr.mono (by first | decide | omega)) rfl T.m__law_draw T.F__law_draw.kp T.b__law_draw .nil pass0 (pa_cons (pv 2) (pa_cons pe_int pa_nil))) pa_nil)) (pg_name (i := 6) hnd rfl (Or.inl rfl)) (pss_one (ps_if (pt_cmpR op_gt (pe_callB call_len_seq rfl T.z_len PySem.boot_len (pa_cons (pv 3) pa_nil)) pe_int (nomark _)) (pss_one (ps_set (i := 1) hnd rfl (Or.inl rfl) (pe_op op_add_str (pv 1) (pe_ix (r := rIxT K) ix_tup (pe_ix (r := rIxT K) ix_tup (pv 3) (pe_call G__law_draw (hr.mono (by first | decide | omega)) rfl T.m__law_draw T.F__law_draw.kp T.b__law_draw .nil pass0 (pa_cons (pv 2) (pa_cons (pe_callB call_len_seq rfl T.z_len PySem.boot_len (pa_cons (pv 3) pa_nil)) pa_nil))) (fun _ _ => rfl)) pe_int (fun _ _ => rfl))))) pss_nil))) (pss_cons (ps_set (i := 1) hnd rfl (Or.inl rfl) (pe_slice sl_str (pv 1) po_none (po_some pe_int))) (pss_cons (ps_if (pt_not (pt_val (pe_call G__law_same (hr.mono (by first | decide | omega)) rfl T.m__law_same T.F__law_same.kp T.b__law_same .nil pass0 (pa_cons (pe_call G_cut (hr.mono (by first | decide | omega)) rfl T.m_cut T.F_cut.kp T.b_cut .nil pass0 (pa_cons (pv 1) (pa_cons (pv 3) pa_nil))) (pa_cons (pe_call G__law_cut (hr.mono (by first | decide | omega)) rfl T.m__law_cut T.F__law_cut.kp T.b__law_cut .nil pass0 (pa_cons (pv 1) (pa_cons (pv 3) pa_nil))) pa_nil))))) (pss_one (ps_ret pe_bl)) pss_nil) (pss_one (ps_expr (pe_bm PySem.F.plainAttrs_list PySem.F.slot_list_append PySem.F.type_list_append mt_append (pv 4) (pa_cons (pv 1) pa_nil))))))))) (pss_cons (ps_set (i := 7) hnd rfl (Or.inl rfl) (pe_callTy call_tuple_of rfl T.z_tuple (by decide +kernel) (pa_cons (pe_lc (own := [("word", 1)]) rfl hnd (pi_list (pv 4)) (blkOk_by (own := [("word", 1)]) (N := N_law) (sc := defScope s_law) (by decide +kernel)) (fun _ _ _ _ _ => (pg_name (i := 1) hnd rfl (Or.inl rfl))) (fun _ _ _ _ _ => pts_nil) (fun _ _ _ _ _ => (pe_call G__law_cut (hr.mono (by first | decide | omega)) rfl T.m__law_cut T.F__law_cut.kp T.b__law_cut .nil pass0 (pa_cons (pv 1) (pa_cons (pv 3) pa_nil))))) pa_nil))) (pss_one (ps_ret (pe_call G__law_same (hr.mono (by first | decide | omega)) rfl T.m__law_same T.F__law_same.kp T.b__law_same .nil pass0 (pa_cons (pe_call G_document_of (hr.mono (by first | decide | omega)) rfl T.m_document_of T.F_document_of.kp T.b_document_of .nil pass0 (pa_cons (pe_join pe_str (pv 4)) (pa_cons (pv 3) pa_nil))) (pa_cons (pv 7) pa_nil)))))))))), ?_⟩
  refine ⟨_, rfl, a, ns, rfl, hS, fun p ds H1 s1 hp0 hp1 hl => ⟨(by show 2 ≤ sizeLine; decide), fun b hb => ?_⟩⟩
  have B1 := box_new hp1 hb
  refine ⟨_, rfl, b, p, rfl, B1, fun v es H2 dv okes nes B2 k2 => ?_⟩
  obtain ⟨va, vxs, rfl, hva, hvx⟩ := Dp.tupI dv
  have ev : EsAt K H2 va vxs es := ⟨hva, hvx⟩
  have hvl : vxs.length = es.length := by rw [DpAll.len hvx, List.length_map]
  have hes : ∀ e ∈ es, 1 ≤ e.1.length ∧ e.1.length ≤ 4 := fun e he => (okes e he).1
  refine ⟨(by decide), fun d hd => ?_⟩
  obtain ⟨hdb, hdp⟩ := B2.ne hd
  refine ⟨_, rfl, by decide, by decide, ?_⟩
  refine for_range (n := 5) (fun i σ H' => ∃ (ws : List Str) (c1 c5 c6 c7 : Option V), σ = [some (.ref a), c1, some (.ref b), some (.ref va), some (.ref d), c5, c6, c7] ∧ BoxAt H' b p ∧ H' d = some (.lst (ws.map V.str)) ∧ EsAt K H' va vxs es ∧ (∀ w ∈ ws, OkW w) ∧ ws.length ≤ i)
    ⟨[], _, _, _, _, rfl, B2.keep (same_new hd), upd_same, ev.tk ((TK.refl H2).new hd), (fun w hw => nomatch hw), Nat.le_refl _⟩ ?_ ?_
  · rintro i σ H3 hi ⟨ws, c1, c5, c6, c7, rfl, B3, hd3, dv3, okw, nw⟩
    refine ⟨_, rfl, _, rfl, b, p, _, rfl, B3, (by decide), fun r3 H4 h30 h31 B4 k4 => ⟨_, _, rfl, rfl, b, p, _, smallL, rfl, B4, (by decide +kernel), (by decide +kernel), (by omega), (by omega), fun w0 H5 hw0L hl0 B5 k5 => ?_⟩⟩
    have hw0 : ∀ c ∈ tl w0, c ∈ tl smallS := fun c hc => small_LS c (hw0L c hc)
    have hd5 := k5 _ _ (k4 _ _ hd3 hdb) hdb
    have dv5 := dv3.tk ((TK.box B3 k4).trans (TK.box B4 k5))
    refine ⟨_, rfl, b, p, _, rfl, B5, (by decide), fun r4 H6 h40 h41 B6 k6 => ⟨_, rfl, (by omega), (by omega), ?_⟩⟩
    have hd6 := k6 _ _ hd5 hdb
    have dv6 := dv5.tk (TK.box B5 k6)
    refine for_range (n := r4.toNat) (fun j σ H' => ∃ (ww : Str) (c6 : Option V), σ = [some (.ref a), some (.str ww), some (.ref b), some (.ref va), some (.ref d), some (.int (0 + (i : Int))), c6, c7] ∧ BoxAt H' b p ∧ H' d = some (.lst (ws.map V.str)) ∧ EsAt K H' va vxs es ∧ 0 < ww.length ∧ ww.length ≤ 5 + 4 * j ∧ ∀ c ∈ tl ww, c ∈ tl smallS)
      ⟨w0, _, rfl, B6, hd6, dv6, by omega, by omega, hw0⟩ ?_ ?_
    · rintro j σ H7 hj ⟨ww, c6, rfl, B7, hd7, dv7, lw1, lw2, hsm⟩
      refine ⟨_, rfl, va, _, rfl, .inr dv7.sq, _, _, rfl, rfl, _, rfl, ?_⟩
      refine ite2 (fun cc => ?_) (fun _ => ?_)
      · have cc' : (0 : Int) < ((vxs.length : Nat) : Int) := of_decide_eq_true cc
        refine ⟨_, rfl, _, rfl, _, rfl, _, rfl, va, _, rfl, .inr dv7.sq, b, p, _, rfl, B7, cc', fun r5 H8 h50 h51 B8 k8 => ?_⟩
        have dv8 := dv7.tk (TK.box B7 k8)
        obtain ⟨n5, rfl⟩ := Int.eq_ofNat_of_zero_le h50
        have hn5 : n5 < es.length := by omega
        obtain ⟨y, hy, dy⟩ := DpAll.get dv8.al (i := n5) (d := encE es[n5]) (by rw [List.getElem?_map, List.getElem?_eq_getElem hn5]; rfl)
        obtain ⟨q2, rfl, hq2⟩ := dp_encE dy
        have ok5 := okes _ (List.getElem_mem hn5)
        have ok51 := ok5.1.2
        refine ⟨va, _, _, _, rfl, rfl, dv8.sq, atI_nat hy, q2, _, 0, _, rfl, rfl, hq2, rfl, _, _, rfl, rfl, (by show ww.length + es[n5].1.length ≤ 16777216; omega), ?_⟩
        refine ⟨ww ++ es[n5].1, _, rfl, B8, k8 _ _ hd7 hdb, dv8, ?_, ?_, fun c hc => ?_⟩
        · rw [len_tl, tl_append, List.length_append, ← len_tl]; omega
        · rw [len_tl, tl_append, List.length_append, ← len_tl, ← len_tl]; omega
        · rw [tl_append] at hc
          rcases List.mem_append.mp hc with hc | hc
          · exact hsm c hc
          · exact ok5.2 c hc
      · exact ⟨ww, _, rfl, B7, hd7, dv7, lw1, by omega, hsm⟩
    · rintro σ H7 ⟨ww, c6, rfl, B7, hd7, dv7, lw1, lw2, hsm⟩
      have okc : OkW (cutS ww none (some 12)) := by
        have e := cut_take ww 12
        refine ⟨?_, fun c hc => ?_⟩
        · rw [len_tl, show tl (cutS ww none (some 12)) = (tl ww).take 12 from e, List.length_take, ← len_tl]; omega
        · rw [show tl (cutS ww none (some 12)) = (tl ww).take 12 from e] at hc
          exact hsm c (List.mem_of_mem_take hc)
      refine ⟨_, rfl, 12, rfl, ww, rfl, (by show ww.length ≤ 16777216; omega), ?_⟩
      refine ⟨_, rfl, _, rfl, _, _, es, rfl, dv7.dp, (by have := okc.1.2; omega), hes, _, rfl, _, rfl, _, _, es, rfl, dv7.dp, (by have := okc.1.2; omega), hes, _, _, _, rfl, .str _, .str _, True.intro, _, rfl, ?_⟩
      refine iteF ?_
      refine ⟨_, rfl, .inl ⟨rfl, _, SqL.of hd7⟩, _, rfl, d, _, _, rfl, rfl, hd7, (by rw [List.length_map]; exact len_lt (by omega)), ?_⟩
      refine ⟨ws ++ [cutS ww none (some 12)], _, _, _, _, rfl, B7.updO hdb hdp, by rw [upd_same, List.map_append]; rfl, dv7.tk (TK.updL (TK.refl H7) hd7), fun w hw => ?_, by rw [List.length_append, List.length_singleton]; omega⟩
      rcases List.mem_append.mp hw with hw | hw
      · exact okw w hw
      · rw [List.mem_singleton.mp hw]; exact okc
  · rintro σ H3 ⟨ws, c1, c5, c6, c7, rfl, B3, hd3, dv3, okw, nw⟩
    refine ⟨_, rfl, d, rfl, ⟨_, SqL.of hd3⟩, fun D1 hD1 => ?_⟩
    have hdD : d ≠ D1 := ne_of_none hd3 hD1
    refine lc_it (walk_list (xs := ws.map V.str)) (fun i H' => Same H3 H' ∧ H' D1 = some (.lst (((ws.take i).map (cutW es)).map V.str))) ⟨same_new hD1, upd_same⟩ (fun i H' _ h => SqL.of (h.1 _ _ hd3)) ?_ ?_
    · rintro i x H4 H5 hi ⟨s4, h4⟩ ⟨rfl, hx⟩
      rw [List.getElem?_map] at hx
      obtain ⟨u, hu, rfl⟩ := Option.map_eq_some_iff.mp hx
      have hul := (okw u (List.mem_of_getElem? hu)).1.2
      refine ⟨rfl, ?_⟩
      refine ⟨_, rfl, _, rfl, u, _, es, rfl, Dp.same s4 dv3.dp, by omega, hes, _, h4, ?_, same_upd s4 hD1, ?_⟩
      · rw [List.length_map, List.length_map, List.length_take]; exact len_lt (by omega)
      · rw [upd_same, ← take_succ_map hu, List.map_append]; rfl
    · rintro H4 ⟨s4, h4⟩
      rw [List.length_map, take_all (Nat.le_refl _)] at h4
      refine ⟨D1, _, rfl, .inl ⟨SqL.of h4, fun p2 hp2 => ?_⟩⟩
      have s5 : Same H3 (upd H4 p2 (.tup ((ws.map (cutW es)).map V.str))) := same_upd s4 (s4.free hp2)
      have jl : tl (Txt.join "; " ws) = joinL [59, 32] (ws.map tl) := by rw [join_eq, tl_join]; rfl
      refine ⟨⟨_, rfl⟩, _, rfl, _, d, ws, rfl, rfl, .inl (SqL.of (s5 _ _ hd3)), ?_, _, rfl, _, _, es, rfl, Dp.same s5 dv3.dp, hes, ?_, ?_, fun p6 ws6 H6 s6 hp60 hw6 hp6 => ?_⟩
      · have e1 := sum_le (n := 12) (l := ws.map (fun x => x.length)) fun x hx => by
          obtain ⟨y, hy, rfl⟩ := List.mem_map.mp hx
          exact (okw y hy).1.2
        rw [List.length_map] at e1
        show _ + ws.length * 2 ≤ 16777216
        omega
      · have e1 := joinL_len (S := [59, 32]) (n := 12) (L := ws.map tl) fun x hx => by
          obtain ⟨y, hy, rfl⟩ := List.mem_map.mp hx
          rw [← len_tl]; exact (okw y hy).1.2
        rw [List.length_map, ← jl, ← len_tl] at e1
        have e2 : ws.length * (12 + [59, 32].length) ≤ 5 * 14 := Nat.mul_le_mul nw (Nat.le_refl _)
        omega
      · intro c hc
        rw [jl] at hc
        rcases joinL_mem hc with hc | ⟨x, hx, hc⟩
        · rcases List.mem_cons.mp hc with rfl | hc
          · decide
          · rw [List.mem_singleton.mp hc]; decide
        · obtain ⟨y, hy, rfl⟩ := List.mem_map.mp hx
          exact small_lt c ((okw y hy).2 c hc)
      · rw [joined okw] at hw6
        have e6 : ws6 = ws := map_tl_inj hw6
        subst e6
        refine ⟨_, rfl, .ref p6, .ref p2, .tuple ((ws6.map (cutW es)).map .str), rfl, .tup (SqT.of hp6) (DpAll.strs _), .tup (SqT.of (s6 _ _ upd_same)) (DpAll.strs _), ⟨by rw [List.length_map, List.length_map]; omega, fun x hx => ?_⟩, q _⟩
        obtain ⟨y, _, rfl⟩ := List.mem_map.mp hx
        exact True.intro
end

theorem all_mk {l : PySem.W.OpenLaw} {w : World} {K : PySem.W.Frag} {h : Heap} {mg : Str → Option Value} {fa f0 f1 f2 f3 f4 f5 f6 f7 f8 f9 f10 : Addr} (X : K.In h) (G : h.Ns mainGlobals mg) (hfa : mg "law" = some (.ref fa))
    {od0 od1 od2 od3 od4 od5 od6 od7 od8 od9 od10 an0 an1 an2 an3 an4 an5 an6 an7 an8 an9 an10 : Option Addr} {sl0 sl1 sl2 sl3 sl4 sl5 sl6 sl7 sl8 sl9 sl10 : Array (Option Value)} {oc0 oc1 oc2 oc3 oc4 oc5 oc6 oc7 oc8 oc9 oc10 kV0 kV1 kV2 kV3 kV4 kV5 kV6 kV7 kV8 kV9 kV10 dc0 dc1 dc2 dc3 dc4 dc5 dc6 dc7 dc8 dc9 dc10 pm0 pm1 pm2 pm3 pm4 pm5 pm6 pm7 pm8 pm9 pm10 cd0 cd1 cd2 cd3 cd4 cd5 cd6 cd7 cd8 cd9 cd10 ct0 ct1 ct2 ct3 ct4 ct5 ct6 ct7 ct8 ct9 ct10 : Value} {t0 t1 : Tok}
    (a0 : PySem.W.nsIn K mainGlobals "words_of" = some (some (.ref f0))) (l0 : K.lookup f0 = some ⟨oc0, od0, .func (PySem.W.fnOf "words_of" "words_of" (defArgs s_words_of) (defBody s_words_of) (defScope s_words_of) .none kV0 dc0 pm0 an0 cd0 ct0), sl0⟩) (c0 : PySem.W.codeIn K cd0 "words_of" = true) (k0 : PySem.W.keepIn K (.ref f0) = true)
    (a1 : PySem.W.nsIn K mainGlobals "cut" = some (some (.ref f1))) (l1 : K.lookup f1 = some ⟨oc1, od1, .func (PySem.W.fnOf "cut" "cut" (defArgs s_cut) (defBody s_cut) (defScope s_cut) .none kV1 dc1 pm1 an1 cd1 ct1), sl1⟩) (c1 : PySem.W.codeIn K cd1 "cut" = true) (k1 : PySem.W.keepIn K (.ref f1) = true)
    (a2 : PySem.W.nsIn K mainGlobals "document_of" = some (some (.ref f2))) (l2 : K.lookup f2 = some ⟨oc2, od2, .func (PySem.W.fnOf "document_of" "document_of" (defArgs s_document_of) (defBody s_document_of) (defScope s_document_of) .none kV2 dc2 pm2 an2 cd2 ct2), sl2⟩) (c2 : PySem.W.codeIn K cd2 "document_of" = true) (k2 : PySem.W.keepIn K (.ref f2) = true)
    (a3 : PySem.W.nsIn K mainGlobals "_law_cell" = some (some (.ref f3))) (l3 : K.lookup f3 = some ⟨oc3, od3, .func (PySem.W.fnOf "_law_cell" "_law_cell" (defArgs s__law_cell) (defBody s__law_cell) (defScope s__law_cell) .none kV3 dc3 pm3 an3 cd3 ct3), sl3⟩) (c3 : PySem.W.codeIn K cd3 "_law_cell" = true) (k3 : PySem.W.keepIn K (.ref f3) = true)
    (a4 : PySem.W.nsIn K mainGlobals "_law_digits" = some (some (.ref f4))) (l4 : K.lookup f4 = some ⟨oc4, od4, .func (PySem.W.fnOf "_law_digits" "_law_digits" (defArgs s__law_digits) (defBody s__law_digits) (defScope s__law_digits) .none kV4 dc4 pm4 an4 cd4 ct4), sl4⟩) (c4 : PySem.W.codeIn K cd4 "_law_digits" = true) (k4 : PySem.W.keepIn K (.ref f4) = true)
    (a5 : PySem.W.nsIn K mainGlobals "_law_draw" = some (some (.ref f5))) (l5 : K.lookup f5 = some ⟨oc5, od5, .func (PySem.W.fnOf "_law_draw" "_law_draw" (defArgs s__law_draw) (defBody s__law_draw) (defScope s__law_draw) .none kV5 dc5 pm5 an5 cd5 ct5), sl5⟩) (c5 : PySem.W.codeIn K cd5 "_law_draw" = true) (k5 : PySem.W.keepIn K (.ref f5) = true)
    (a6 : PySem.W.nsIn K mainGlobals "_law_same" = some (some (.ref f6))) (l6 : K.lookup f6 = some ⟨oc6, od6, .func (PySem.W.fnOf "_law_same" "_law_same" (defArgs s__law_same) (defBody s__law_same) (defScope s__law_same) .none kV6 dc6 pm6 an6 cd6 ct6), sl6⟩) (c6 : PySem.W.codeIn K cd6 "_law_same" = true) (k6 : PySem.W.keepIn K (.ref f6) = true)
    (a7 : PySem.W.nsIn K mainGlobals "_law_run" = some (some (.ref f7))) (l7 : K.lookup f7 = some ⟨oc7, od7, .func (PySem.W.fnOf "_law_run" "_law_run" (defArgs s__law_run) (defBody s__law_run) (defScope s__law_run) .none kV7 dc7 pm7 an7 cd7 ct7), sl7⟩) (c7 : PySem.W.codeIn K cd7 "_law_run" = true) (k7 : PySem.W.keepIn K (.ref f7) = true)
    (a8 : PySem.W.nsIn K mainGlobals "_law_endings" = some (some (.ref f8))) (l8 : K.lookup f8 = some ⟨oc8, od8, .func (PySem.W.fnOf "_law_endings" "_law_endings" (defArgs s__law_endings) (defBody s__law_endings) (defScope s__law_endings) .none kV8 dc8 pm8 an8 cd8 ct8), sl8⟩) (c8 : PySem.W.codeIn K cd8 "_law_endings" = true) (k8 : PySem.W.keepIn K (.ref f8) = true)
    (a9 : PySem.W.nsIn K mainGlobals "_law_cut" = some (some (.ref f9))) (l9 : K.lookup f9 = some ⟨oc9, od9, .func (PySem.W.fnOf "_law_cut" "_law_cut" (defArgs s__law_cut) (defBody s__law_cut) (defScope s__law_cut) .none kV9 dc9 pm9 an9 cd9 ct9), sl9⟩) (c9 : PySem.W.codeIn K cd9 "_law_cut" = true) (k9 : PySem.W.keepIn K (.ref f9) = true)
    (a10 : PySem.W.nsIn K mainGlobals "law" = some (some (.ref f10))) (l10 : K.lookup f10 = some ⟨oc10, od10, .func (PySem.W.fnOf "law" "law" (defArgs s_law) (defBody s_law) (defScope s_law) .none kV10 dc10 pm10 an10 cd10 ct10), sl10⟩) (c10 : PySem.W.codeIn K cd10 "law" = true) (k10 : PySem.W.keepIn K (.ref f10) = true)
    (gc0 : PySem.W.nsIn K mainGlobals "SMALL" = some (some (.str "0123456789abcdefghijklmnopqrstuvwxyz" t0)))
    (gc1 : PySem.W.nsIn K mainGlobals "LONGEST" = some (some (.int 12 t1)))
    (z0 : PySem.W.nsIn K mainGlobals "bool" = some none)
    (z1 : PySem.W.nsIn K mainGlobals "int" = some none)
    (z2 : PySem.W.nsIn K mainGlobals "isinstance" = some none)
    (z3 : PySem.W.nsIn K mainGlobals "len" = some none)
    (z4 : PySem.W.nsIn K mainGlobals "list" = some none)
    (z5 : PySem.W.nsIn K mainGlobals "max" = some none)
    (z6 : PySem.W.nsIn K mainGlobals "range" = some none)
    (z7 : PySem.W.nsIn K mainGlobals "str" = some none)
    (z8 : PySem.W.nsIn K mainGlobals "tuple" = some none)
    : ∃ fd : FuncData, (∀ (s : Shared) (v : Value), BindsTo s fd ⟨[v], []⟩ [("script", v)]) ∧ ∀ base : Heap, K.In base → base.Ns mainGlobals mg → FnOk l.prog w K mg base CX0 5 fa fd ["script"] (ySpLaw K) := by
  have e := hfa.symm.trans (PySem.W.mg_of X G a10)
  cases e
  have F0 := fun_mk (st := s_words_of) l0 c0 k0
  have F1 := fun_mk (st := s_cut) l1 c1 k1
  have F2 := fun_mk (st := s_document_of) l2 c2 k2
  have F3 := fun_mk (st := s__law_cell) l3 c3 k3
  have F4 := fun_mk (st := s__law_digits) l4 c4 k4
  have F5 := fun_mk (st := s__law_draw) l5 c5 k5
  have F6 := fun_mk (st := s__law_same) l6 c6 k6
  have F7 := fun_mk (st := s__law_run) l7 c7 k7
  have F8 := fun_mk (st := s__law_endings) l8 c8 k8
  have F9 := fun_mk (st := s__law_cut) l9 c9 k9
  have F10 := fun_mk (st := s_law) l10 c10 k10
  have b0 := F0.binds (ps := ["text"]) fun _ _ _ _ _ _ us hl => match us, hl with | [_], _ => rfl
  have b1 := F1.binds (ps := ["word", "endings"]) fun _ _ _ _ _ _ us hl => match us, hl with | [_, _], _ => rfl
  have b2 := F2.binds (ps := ["text", "endings"]) fun _ _ _ _ _ _ us hl => match us, hl with | [_, _], _ => rfl
  have b3 := F3.binds (ps := ["script", "k"]) fun _ _ _ _ _ _ us hl => match us, hl with | [_, _], _ => rfl
  have b4 := F4.binds (ps := ["script", "first", "last"]) fun _ _ _ _ _ _ us hl => match us, hl with | [_, _, _], _ => rfl
  have b5 := F5.binds (ps := ["box", "many"]) fun _ _ _ _ _ _ us hl => match us, hl with | [_, _], _ => rfl
  have b6 := F6.binds (ps := ["actual", "due"]) fun _ _ _ _ _ _ us hl => match us, hl with | [_, _], _ => rfl
  have b7 := F7.binds (ps := ["box", "many", "chars"]) fun _ _ _ _ _ _ us hl => match us, hl with | [_, _, _], _ => rfl
  have b8 := F8.binds (ps := ["box"]) fun _ _ _ _ _ _ us hl => match us, hl with | [_], _ => rfl
  have b9 := F9.binds (ps := ["word", "endings"]) fun _ _ _ _ _ _ us hl => match us, hl with | [_, _], _ => rfl
  have b10 := F10.binds (ps := ["script"]) fun _ _ _ _ _ _ us hl => match us, hl with | [_], _ => rfl
  let AA : Nat → Addr := fun i => match i with | 0 => f0 | 1 => f1 | 2 => f2 | 3 => f3 | 4 => f4 | 5 => f5 | 6 => f6 | 7 => f7 | 8 => f8 | 9 => f9 | 10 => fa | _ => fa
  let DD : Nat → FuncData := fun i => match i with | 0 => PySem.W.fnOf "words_of" "words_of" (defArgs s_words_of) (defBody s_words_of) (defScope s_words_of) .none kV0 dc0 pm0 an0 cd0 ct0 | 1 => PySem.W.fnOf "cut" "cut" (defArgs s_cut) (defBody s_cut) (defScope s_cut) .none kV1 dc1 pm1 an1 cd1 ct1 | 2 => PySem.W.fnOf "document_of" "document_of" (defArgs s_document_of) (defBody s_document_of) (defScope s_document_of) .none kV2 dc2 pm2 an2 cd2 ct2 | 3 => PySem.W.fnOf "_law_cell" "_law_cell" (defArgs s__law_cell) (defBody s__law_cell) (defScope s__law_cell) .none kV3 dc3 pm3 an3 cd3 ct3 | 4 => PySem.W.fnOf "_law_digits" "_law_digits" (defArgs s__law_digits) (defBody s__law_digits) (defScope s__law_digits) .none kV4 dc4 pm4 an4 cd4 ct4 | 5 => PySem.W.fnOf "_law_draw" "_law_draw" (defArgs s__law_draw) (defBody s__law_draw) (defScope s__law_draw) .none kV5 dc5 pm5 an5 cd5 ct5 | 6 => PySem.W.fnOf "_law_same" "_law_same" (defArgs s__law_same) (defBody s__law_same) (defScope s__law_same) .none kV6 dc6 pm6 an6 cd6 ct6 | 7 => PySem.W.fnOf "_law_run" "_law_run" (defArgs s__law_run) (defBody s__law_run) (defScope s__law_run) .none kV7 dc7 pm7 an7 cd7 ct7 | 8 => PySem.W.fnOf "_law_endings" "_law_endings" (defArgs s__law_endings) (defBody s__law_endings) (defScope s__law_endings) .none kV8 dc8 pm8 an8 cd8 ct8 | 9 => PySem.W.fnOf "_law_cut" "_law_cut" (defArgs s__law_cut) (defBody s__law_cut) (defScope s__law_cut) .none kV9 dc9 pm9 an9 cd9 ct9 | 10 => PySem.W.fnOf "law" "law" (defArgs s_law) (defBody s_law) (defScope s_law) .none kV10 dc10 pm10 an10 cd10 ct10 | _ => PySem.W.fnOf "law" "law" (defArgs s_law) (defBody s_law) (defScope s_law) .none kV10 dc10 pm10 an10 cd10 ct10
  have T : Txt K mg AA DD := { F_words_of := F0, b_words_of := b0, m_words_of := PySem.W.mg_of X G a0, F_cut := F1, b_cut := b1, m_cut := PySem.W.mg_of X G a1, F_document_of := F2, b_document_of := b2, m_document_of := PySem.W.mg_of X G a2, F__law_cell := F3, b__law_cell := b3, m__law_cell := PySem.W.mg_of X G a3, F__law_digits := F4, b__law_digits := b4, m__law_digits := PySem.W.mg_of X G a4, F__law_draw := F5, b__law_draw := b5, m__law_draw := PySem.W.mg_of X G a5, F__law_same := F6, b__law_same := b6, m__law_same := PySem.W.mg_of X G a6, F__law_run := F7, b__law_run := b7, m__law_run := PySem.W.mg_of X G a7, F__law_endings := F8, b__law_endings := b8, m__law_endings := PySem.W.mg_of X G a8, F__law_cut := F9, b__law_cut := b9, m__law_cut := PySem.W.mg_of X G a9, F_law := F10, b_law := b10, m_law := PySem.W.mg_of X G a10, c_SMALL := ⟨t0, PySem.W.mg_of X G gc0⟩, c_LONGEST := ⟨t1, PySem.W.mg_of X G gc1⟩, z_bool := PySem.W.mg_none_of X G z0, z_int := PySem.W.mg_none_of X G z1, z_isinstance := PySem.W.mg_none_of X G z2, z_len := PySem.W.mg_none_of X G z3, z_list := PySem.W.mg_none_of X G z4, z_max := PySem.W.mg_none_of X G z5, z_range := PySem.W.mg_none_of X G z6, z_str := PySem.W.mg_none_of X G z7, z_tuple := PySem.W.mg_none_of X G z8 }
  exact ⟨DD 10, fun s v => .of_eq rfl, fun base _ _ => ok_law (A := AA) (D := DD) T⟩
theorem walk {l : PySem.W.OpenLaw} {q : Program} {loose : List Str} {XP : (Str → Option Value) → Heap → Prop} {YP : World → Heap → Prop} {d : DefRec} {K : Params → PySem.W.Frag} (hn : l.most = some 63) (hdf : d.params.defaults = [])
    (hY : ∀ (w : World) (h : Heap), YP w h → (K w.params).In h)
    (F : ∀ (w : World) (mg : Str → Option Value) (fa : Addr) (h : Heap), (K w.params).In h → h.Ns mainGlobals mg → mg d.name = some (.ref fa) →
      ∃ fd : FuncData, (∀ (s : Shared) (u : Value), BindsTo s fd ⟨[u], []⟩ [("script", u)]) ∧ ∀ base : Heap, (K w.params).In base → base.Ns mainGlobals mg → FnOk l.prog w (K w.params) mg base CX0 5 fa fd ["script"] (ySpLaw (K w.params))) :
    PySem.W.WalkO q loose XP YP l.row.toRowW d [] (fun f vs => PySem.call f vs) :=
  L2.walk_of (n := 63) (k := 5) (x := "script") (CX := fun _ => CX0) (sp := fun w => ySpLaw (K w.params)) hn (by decide) hdf ⟨rfl, by decide, by decide⟩ hY F (fun _ _ a ns hl _ hS => ⟨a, ns, rfl, hS, hl, fun _ => rfl⟩) fun _ _ _ _ _ z => z
end Z
open PySem PySem.W PyProof.Rows
set_option maxRecDepth 100000 in
set_option maxHeartbeats 0 in
theorem PySem.Challenge.cw_timeshelf_k04_cut_words_holds : PySem.Challenge.rw_timeshelf_k04_cut_words.Holds := by
  w_on; o_law; k_head; (case hw => w_witness2)
  k_fill
  refine Z.walk (l := PySem.Challenge.rw_timeshelf_k04_cut_words) rfl rfl (fun w h Y => PySem.W.kIn_of Y) ?F
  case F =>
    intro w mg fa h KX G hmg
    refine' Z.all_mk KX G hmg ?a0 ?l0 ?c0 ?k0 ?a1 ?l1 ?c1 ?k1 ?a2 ?l2 ?c2 ?k2 ?a3 ?l3 ?c3 ?k3 ?a4 ?l4 ?c4 ?k4 ?a5 ?l5 ?c5 ?k5 ?a6 ?l6 ?c6 ?k6 ?a7 ?l7 ?c7 ?k7 ?a8 ?l8 ?c8 ?k8 ?a9 ?l9 ?c9 ?k9 ?a10 ?l10 ?c10 ?k10 ?gc0 ?gc1 ?z0 ?z1 ?z2 ?z3 ?z4 ?z5 ?z6 ?z7 ?z8
    (case a0 => first | k_is | rfl | decide +kernel)
    (case l0 => first | k_is | rfl | decide +kernel)
    (case c0 => first | k_is | rfl | decide +kernel)
    (case k0 => first | k_is | rfl | decide +kernel)
    (case a1 => first | k_is | rfl | decide +kernel)
    (case l1 => first | k_is | rfl | decide +kernel)
    (case c1 => first | k_is | rfl | decide +kernel)
    (case k1 => first | k_is | rfl | decide +kernel)
    (case a2 => first | k_is | rfl | decide +kernel)
    (case l2 => first | k_is | rfl | decide +kernel)
    (case c2 => first | k_is | rfl | decide +kernel)
    (case k2 => first | k_is | rfl | decide +kernel)
    (case a3 => first | k_is | rfl | decide +kernel)
    (case l3 => first | k_is | rfl | decide +kernel)
    (case c3 => first | k_is | rfl | decide +kernel)
    (case k3 => first | k_is | rfl | decide +kernel)
    (case a4 => first | k_is | rfl | decide +kernel)
    (case l4 => first | k_is | rfl | decide +kernel)
    (case c4 => first | k_is | rfl | decide +kernel)
    (case k4 => first | k_is | rfl | decide +kernel)
    (case a5 => first | k_is | rfl | decide +kernel)
    (case l5 => first | k_is | rfl | decide +kernel)
    (case c5 => first | k_is | rfl | decide +kernel)
    (case k5 => first | k_is | rfl | decide +kernel)
    (case a6 => first | k_is | rfl | decide +kernel)
    (case l6 => first | k_is | rfl | decide +kernel)
    (case c6 => first | k_is | rfl | decide +kernel)
    (case k6 => first | k_is | rfl | decide +kernel)
    (case a7 => first | k_is | rfl | decide +kernel)
    (case l7 => first | k_is | rfl | decide +kernel)
    (case c7 => first | k_is | rfl | decide +kernel)
    (case k7 => first | k_is | rfl | decide +kernel)
    (case a8 => first | k_is | rfl | decide +kernel)
    (case l8 => first | k_is | rfl | decide +kernel)
    (case c8 => first | k_is | rfl | decide +kernel)
    (case k8 => first | k_is | rfl | decide +kernel)
    (case a9 => first | k_is | rfl | decide +kernel)
    (case l9 => first | k_is | rfl | decide +kernel)
    (case c9 => first | k_is | rfl | decide +kernel)
    (case k9 => first | k_is | rfl | decide +kernel)
    (case a10 => first | k_is | rfl | decide +kernel)
    (case l10 => first | k_is | rfl | decide +kernel)
    (case c10 => first | k_is | rfl | decide +kernel)
    (case k10 => first | k_is | rfl | decide +kernel)
    (case gc0 => first | k_is | rfl | decide +kernel)
    (case gc1 => first | k_is | rfl | decide +kernel)
    (case z0 => first | k_is | rfl | decide +kernel)
    (case z1 => first | k_is | rfl | decide +kernel)
    (case z2 => first | k_is | rfl | decide +kernel)
    (case z3 => first | k_is | rfl | decide +kernel)
    (case z4 => first | k_is | rfl | decide +kernel)
    (case z5 => first | k_is | rfl | decide +kernel)
    (case z6 => first | k_is | rfl | decide +kernel)
    (case z7 => first | k_is | rfl | decide +kernel)
    (case z8 => first | k_is | rfl | decide +kernel)
