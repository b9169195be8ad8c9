import PyProof.Rows.All
import Wide.All
import OpenK.AllK
import Wide.FinOn
import HandS.ForMost
import HandS.IsInst
import HandS.Walk
import PySem.Challenge.RW_timeshelf_k03_words_of_texts
set_option Elab.async false
set_option linter.all false
set_option maxRecDepth 100000
set_option maxHeartbeats 2000000
namespace Z
open PySem L2
def top (i : Nat) : Stmt := PySem.Challenge.pw_timeshelf_k03_words_of_texts.main.body.getD i (.Pass ⟨0, 0, 0, 0⟩)
abbrev s_words_of : Stmt := top 3
abbrev N_words_of : List Str := ["text", "letter", "run", "letters"]
theorem sc_words_of : FnScope ["text", "letter", "run", "letters"] ["text"] (defScope s_words_of) := ⟨rfl, rfl, rfl, by decide +kernel, rfl, by decide +kernel, by decide +kernel⟩
abbrev s__law_cell : Stmt := top 5
abbrev N__law_cell : List Str := ["script", "k"]
theorem sc__law_cell : FnScope ["script", "k"] ["script", "k"] (defScope s__law_cell) := ⟨rfl, rfl, rfl, by decide +kernel, rfl, by decide +kernel, by decide +kernel⟩
abbrev s__law_digits : Stmt := top 6
abbrev N__law_digits : List Str := ["script", "first", "last", "digits", "k", "cell", "turn", "seed"]
theorem sc__law_digits : FnScope ["script", "first", "last", "digits", "k", "cell", "turn", "seed"] ["script", "first", "last"] (defScope s__law_digits) := ⟨rfl, rfl, rfl, by decide +kernel, rfl, by decide +kernel, by decide +kernel⟩
abbrev s__law_draw : Stmt := top 7
abbrev N__law_draw : List Str := ["box", "many", "at"]
theorem sc__law_draw : FnScope ["box", "many", "at"] ["box", "many"] (defScope s__law_draw) := ⟨rfl, rfl, rfl, by decide +kernel, rfl, by decide +kernel, by decide +kernel⟩
abbrev s__law_same : Stmt := top 8
abbrev N__law_same : List Str := ["actual", "due", "k"]
theorem sc__law_same : FnScope ["actual", "due", "k"] ["actual", "due"] (defScope s__law_same) := ⟨rfl, rfl, rfl, by decide +kernel, rfl, by decide +kernel, by decide +kernel⟩
abbrev s__law_run : Stmt := top 9
abbrev N__law_run : List Str := ["box", "many", "chars", "text", "k"]
theorem sc__law_run : FnScope ["box", "many", "chars", "text", "k"] ["box", "many", "chars"] (defScope s__law_run) := ⟨rfl, rfl, rfl, by decide +kernel, rfl, by decide +kernel, by decide +kernel⟩
abbrev s_law : Stmt := top 10
abbrev N_law : List Str := ["script", "box", "others", "text", "due", "k", "small", "large", "run", "word", "j", "at"]
theorem sc_law : FnScope ["script", "box", "others", "text", "due", "k", "small", "large", "run", "word", "j", "at"] ["script"] (defScope s_law) := ⟨rfl, rfl, rfl, by decide +kernel, rfl, by decide +kernel, by decide +kernel⟩
structure Txt (K : PySem.W.Frag) (mg : Str → Option Value) (A : Nat → Addr) (D : Nat → FuncData) : Prop where
  F_words_of : Fun K "words_of" "words_of" s_words_of (A 0) (D 0)
  b_words_of : Binds K (D 0) ["text"] []
  m_words_of : mg "words_of" = some (.ref (A 0))
  F__law_cell : Fun K "_law_cell" "_law_cell" s__law_cell (A 1) (D 1)
  b__law_cell : Binds K (D 1) ["script", "k"] []
  m__law_cell : mg "_law_cell" = some (.ref (A 1))
  F__law_digits : Fun K "_law_digits" "_law_digits" s__law_digits (A 2) (D 2)
  b__law_digits : Binds K (D 2) ["script", "first", "last"] []
  m__law_digits : mg "_law_digits" = some (.ref (A 2))
  F__law_draw : Fun K "_law_draw" "_law_draw" s__law_draw (A 3) (D 3)
  b__law_draw : Binds K (D 3) ["box", "many"] []
  m__law_draw : mg "_law_draw" = some (.ref (A 3))
  F__law_same : Fun K "_law_same" "_law_same" s__law_same (A 4) (D 4)
  b__law_same : Binds K (D 4) ["actual", "due"] []
  m__law_same : mg "_law_same" = some (.ref (A 4))
  F__law_run : Fun K "_law_run" "_law_run" s__law_run (A 5) (D 5)
  b__law_run : Binds K (D 5) ["box", "many", "chars"] []
  m__law_run : mg "_law_run" = some (.ref (A 5))
  F_law : Fun K "law" "law" s_law (A 6) (D 6)
  b_law : Binds K (D 6) ["script"] []
  m_law : mg "law" = some (.ref (A 6))
  c_SMALL : ∃ t, mg "SMALL" = some (.str "0123456789abcdefghijklmnopqrstuvwxyz" t)
  c_LONGEST : ∃ t, mg "LONGEST" = some (.int 12 t)
  z_bool : mg "bool" = none
  z_int : mg "int" = none
  z_isinstance : mg "isinstance" = none
  z_len : mg "len" = none
  z_list : mg "list" = none
  z_range : mg "range" = none
  z_str : mg "str" = none
  z_tuple : mg "tuple" = none
/-! ### what all laws share: cells, digits, draws -/
theorem same_upd {H H' : Hp} {p : Addr} {o : HO} (h : Same H H') (hp : H p = none) : Same H (upd H' p o) := fun b u q => by
  rw [upd_ne (ne_of_none q hp)]; exact h b u q
theorem same_new {H : Hp} {p : Addr} {o : HO} (h : H p = none) : Same H (upd H p o) := same_upd (Same.refl H) h
def yCell (K : PySem.W.Frag) : Sp := fun vs H Q _ => ∃ (l : Addr) (ns : List Int) (k : Nat), vs = [.ref l, .int (k : Int)] ∧ SqL K H l (ns.map V.int) ∧ ∀ z : Int, Q (.int z) H
theorem at_ints {ns : List Int} {k : Nat} (h : k < ns.length) : atI (ns.map V.int) (k : Int) = some (.int (ns.getD k 0)) := by
  apply atI_nat
  rw [List.getElem?_map, List.getElem?_eq_getElem h, List.getD_eq_getElem?_getD, List.getElem?_eq_getElem h]
  rfl
section
variable {P : Program} {w : World} {K : PySem.W.Frag} {mg : Str → Option Value} {base : Heap} {A : Nat → Addr} {D : Nat → FuncData}
theorem ok_cell (T : Txt K mg A D) : FnOk P w K mg base CX0 1 (A 1) (D 1) ["script", "k"] (yCell K) := by
  refine T.F__law_cell.ok sc__law_cell (fun vs H Q E h => ?_) (fun cdv A' outer s H vs Q E hr h => ?_)
  · obtain ⟨l, ns, k, rfl, _⟩ := h; rfl
  obtain ⟨l, ns, k, rfl, hS, q⟩ := h
  refine ⟨_, (pss_cons (ps_if (pt_cmpR op_lt (pv 1) (pe_callB call_len_seq rfl T.z_len PySem.boot_len (pa_cons (pv 0) pa_nil)) (nomark _)) (pss_one (ps_ret (pe_ix (r := rIxL K) ix_list (pv 0) (pv 1) (fun _ _ => rfl)))) pss_nil) (pss_one (ps_ret pe_int))), ?_⟩
  refine ⟨_, rfl, _, rfl, l, _, rfl, .inl hS, _, _, rfl, rfl, _, rfl, ?_⟩
  refine ite2 (fun c => ?_) (fun c => ?_)
  · have c' : (k : Int) < (((ns.map V.int).length : Nat) : Int) := of_decide_eq_true c
    rw [List.length_map] at c'
    exact ⟨_, rfl, _, rfl, l, _, _, _, rfl, rfl, hS, at_ints (by omega), q _⟩
  · exact q 0
def yDigits (K : PySem.W.Frag) : Sp := fun vs H Q _ => ∃ (l : Addr) (ns : List Int), vs = [.ref l, .int 0, .int 63] ∧ SqL K H l (ns.map V.int) ∧
  ∀ (p : Addr) (ds : List Int) (H' : Hp), Same H H' → H p = none → H' p = some (.lst (ds.map V.int)) → ds.length ≤ 3780 → Q (.ref p) H'
theorem len_lt {n : Nat} (h : n ≤ 1000000) : n < sizeLine := Nat.lt_of_le_of_lt h (by decide)
theorem app_map {ds : List Int} {z : Int} : ds.map V.int ++ [V.int z] = (ds ++ [z]).map V.int := by rw [List.map_append]; rfl
theorem ok_digits (T : Txt K mg A D) : FnOk P w K mg base CX0 2 (A 2) (D 2) ["script", "first", "last"] (yDigits K) := by
  refine T.F__law_digits.ok sc__law_digits (fun vs H Q E h => ?_) (fun cdv A' outer s H vs Q E hr h => ?_)
  · obtain ⟨l, ns, rfl, _⟩ := h; rfl
  obtain ⟨l, ns, rfl, hS, q⟩ := h
  have G__law_cell := ok_cell (P := P) (w := w) (base := base) T
  have hnd := sc__law_digits.nd
  refine ⟨_, (pss_cons (ps_set (i := 3) hnd rfl (Or.inl rfl) (pe_lst pa_nil)) (pss_cons (ps_for PassesOwn.never rfl (pi_range2 rfl T.z_range (pa_cons (pv 1) (pa_cons (pv 2) pa_nil))) (pg_name (i := 4) hnd rfl (Or.inl rfl)) (pss_cons (ps_set (i := 5) hnd rfl (Or.inl rfl) (pe_call G__law_cell (hr.mono (by first | decide | omega)) rfl T.m__law_cell T.F__law_cell.kp T.b__law_cell .nil pass0 (pa_cons (pv 0) (pa_cons (pv 4) pa_nil)))) (pss_cons (ps_if (pt_cmpR op_lt (pv 5) pe_int (nomark _)) (pss_one (ps_set (i := 5) hnd rfl (Or.inl rfl) (pe_op op_sub pe_int (pe_op op_mul pe_int (pv 5))))) pss_nil) (pss_one (ps_if (pt_cmpR op_ge (pv 5) (pe_op op_pow pe_int pe_int) (nomark _)) (pss_one (ps_for PassesOwn.never rfl (pi_range1 rfl T.z_range (pa_cons pe_int pa_nil)) (pg_name (i := 6) hnd rfl (Or.inl rfl)) (pss_one (ps_if (pt_cmpR op_gt (pv 5) pe_int (nomark _)) (pss_cons (ps_expr (pe_bm PySem.F.plainAttrs_list PySem.F.slot_list_append PySem.F.type_list_append mt_append (pv 3) (pa_cons (pe_op op_mod (pe_callTy call_int1 rfl T.z_int (by decide +kernel) (pa_cons (pv 5) pa_nil)) pe_int) pa_nil))) (pss_one (ps_set (i := 5) hnd rfl (Or.inl rfl) (pe_op op_fdiv (pv 5) pe_int)))) pss_nil)))) (pss_cons (ps_set (i := 7) hnd rfl (Or.inl rfl) (pe_op op_mod (pe_callTy call_int1 rfl T.z_int (by decide +kernel) (pa_cons (pe_op op_add (pe_op op_add (pe_op op_mul (pv 5) pe_int) (pe_op op_mul (pv 4) pe_int)) pe_int) pa_nil)) pe_int)) (pss_one (ps_for PassesOwn.never rfl (pi_range1 rfl T.z_range (pa_cons pe_int pa_nil)) (pg_name (i := 6) hnd rfl (Or.inl rfl)) (pss_cons (ps_set (i := 7) hnd rfl (Or.inl rfl) (pe_op op_mod (pe_callTy call_int1 rfl T.z_int (by decide +kernel) (pa_cons (pe_op op_add (pe_op op_add (pe_op op_mul (pv 7) pe_int) (pe_op op_mul pe_int (pv 6))) pe_int) pa_nil)) pe_int)) (pss_one (ps_expr (pe_bm PySem.F.plainAttrs_list PySem.F.slot_list_append PySem.F.type_list_append mt_append (pv 3) (pa_cons (pe_op op_mod (pe_callTy call_int1 rfl T.z_int (by decide +kernel) (pa_cons (pe_op op_fdiv (pv 7) pe_int) pa_nil)) pe_int) pa_nil))))))))))))) (pss_one (ps_ret (pv 3))))), ?_⟩
  refine ⟨(by decide), fun p hp => ?_⟩
  have sH := fun o => same_new (o := o) hp
  refine ⟨_, rfl, _, rfl, (0 : Int), (63 : Int), rfl, (by decide), ?_⟩
  refine for_range (lo := 0) (n := 63) (fun i σ H' => ∃ (ds : List Int) (c4 c5 c6 c7 : Option V), σ = [some (.ref l), some (.int 0), some (.int 63), some (.ref p), c4, c5, c6, c7] ∧ Same H H' ∧ H' p = some (.lst (ds.map V.int)) ∧ ds.length ≤ 60 * i)
    ⟨[], none, none, none, none, rfl, sH _, upd_same, Nat.zero_le _⟩ ?_ ?_
  · rintro i σ H1 hi ⟨ds, c4, c5, c6, c7, rfl, s1, hd, hl⟩
    refine ⟨_, rfl, _, rfl, l, ns, i, (by rw [Int.zero_add]; rfl), s1.seq hS, fun z => ?_⟩
    refine ⟨_, rfl, _, _, rfl, rfl, _, rfl, ?_⟩
    refine ite2 (fun c => ?_) (fun c => ?_)
    refine ⟨_, rfl, _, _, rfl, rfl, .inl ⟨by decide, by decide⟩, _, _, rfl, rfl, ?_⟩
    all_goals
      refine ⟨_, rfl, _, _, rfl, rfl, ⟨by decide, by decide, by decide⟩, _, _, rfl, rfl, _, rfl, ?_⟩
      refine ite2 (fun _ => ?_) (fun _ => ?_)
      · refine ⟨_, rfl, by decide, by decide, for_range (n := 60) (fun t σ H' => ∃ (ds : List Int) (c : Int) (c6 : Option V), σ = [some (.ref l), some (.int 0), some (.int 63), some (.ref p), some (.int (0 + (i : Int))), some (.int c), c6, c7] ∧ Same H H' ∧ H' p = some (.lst (ds.map V.int)) ∧ ds.length ≤ 60 * i + t)
          ⟨ds, _, c6, rfl, s1, hd, by omega⟩ ?_ ?_⟩
        · rintro t σ H2 ht ⟨ds2, c, c6, rfl, s2, hd2, hl2⟩
          refine ⟨_, rfl, _, _, rfl, rfl, _, rfl, ?_⟩
          refine ite2 (fun _ => ?_) (fun _ => ?_)
          · refine ⟨_, rfl, .inl ⟨rfl, _, SqL.of hd2⟩, _, rfl, .inl ⟨_, rfl, _, _, rfl, rfl, (by show (0 : Int) < _; decide), _, _, _, rfl, rfl, hd2, (by rw [List.length_map]; exact len_lt (by omega)), ?_⟩⟩
            refine ⟨_, rfl, _, _, rfl, rfl, ⟨by decide, by decide⟩, ?_⟩
            exact ⟨_, _, _, rfl, same_upd s2 hp, by rw [upd_same, app_map], by rw [List.length_append]; simp only [List.length_singleton]; omega⟩
          · exact ⟨_, _, _, rfl, s2, hd2, by omega⟩
        · rintro σ H2 ⟨ds2, c, c6, rfl, s2, hd2, hl2⟩
          exact ⟨_, _, _, _, _, rfl, s2, hd2, by omega⟩
      · refine ⟨_, rfl, _, _, rfl, rfl, .inr ⟨by decide, by decide⟩, _, rfl, _, _, rfl, rfl, .inr ⟨by decide, by decide⟩, _, _, rfl, rfl, _, _, rfl, rfl, .inl ⟨_, rfl, _, _, rfl, rfl, (by show (0 : Int) < _; decide), ?_⟩⟩
        refine ⟨_, rfl, by decide, by decide, for_range (n := 12) (fun t σ H' => ∃ (ds : List Int) (c : Int) (c5 c6 : Option V), σ = [some (.ref l), some (.int 0), some (.int 63), some (.ref p), some (.int (0 + (i : Int))), c5, c6, some (.int c)] ∧ Same H H' ∧ H' p = some (.lst (ds.map V.int)) ∧ ds.length ≤ 60 * i + t)
          ⟨ds, _, _, _, rfl, s1, hd, by omega⟩ ?_ ?_⟩
        · rintro t σ H2 ht ⟨ds2, c, c5, c6, rfl, s2, hd2, hl2⟩
          refine ⟨_, rfl, _, _, rfl, rfl, .inr ⟨by decide, by decide⟩, _, rfl, _, _, rfl, rfl, .inl ⟨by decide, by decide⟩, _, _, rfl, rfl, _, _, rfl, rfl, .inl ⟨_, rfl, _, _, rfl, rfl, (by show (0 : Int) < _; decide), ?_⟩⟩
          refine ⟨_, rfl, .inl ⟨rfl, _, SqL.of hd2⟩, _, rfl, _, _, rfl, rfl, ⟨by decide, by decide⟩, .inl ⟨_, rfl, _, _, rfl, rfl, (by show (0 : Int) < _; decide), _, _, _, rfl, rfl, hd2, (by rw [List.length_map]; exact len_lt (by omega)), ?_⟩⟩
          exact ⟨_, _, _, _, rfl, same_upd s2 hp, by rw [upd_same, app_map], by rw [List.length_append]; simp only [List.length_singleton]; omega⟩
        · rintro σ H2 ⟨ds2, c, c5, c6, rfl, s2, hd2, hl2⟩
          exact ⟨_, _, _, _, _, rfl, s2, hd2, by omega⟩
  · rintro σ H1 ⟨ds, c4, c5, c6, c7, rfl, s1, hd, hl⟩
    exact ⟨_, rfl, q p ds H1 s1 hp hd (by omega)⟩
end

/-- all but the object at b stand as before -/
def Kp (b : Addr) (H H' : Hp) : Prop := ∀ c o, H c = some o → c ≠ b → H' c = some o
theorem Kp.refl (b : Addr) (H : Hp) : Kp b H H := fun _ _ h _ => h
theorem Kp.trans {b : Addr} {H H1 H2 : Hp} (a : Kp b H H1) (c : Kp b H1 H2) : Kp b H H2 := fun x o h n => c x o (a x o h n) n
theorem Kp.upd {b : Addr} {H H' : Hp} {o : HO} (a : Kp b H H') : Kp b H (upd H' b o) := fun x u h n => by rw [upd_ne n]; exact a x u h n
theorem Kp.of {b : Addr} {H H' : Hp} (a : Same H H') : Kp b H H' := fun x o h _ => a x o h
/-- the box of draws: its digits at p, the place -/
def BoxAt (H : Hp) (b p : Addr) : Prop := ∃ (ns : List Int) (n : Nat), H b = some (.lst [.ref p, .int (n : Int)]) ∧ H p = some (.lst (ns.map V.int))
theorem BoxAt.keep {H H' : Hp} {b p : Addr} (h : BoxAt H b p) (k : Same H H') : BoxAt H' b p := by
  obtain ⟨ns, n, h1, h2⟩ := h
  exact ⟨ns, n, k _ _ h1, k _ _ h2⟩
theorem BoxAt.ne {H : Hp} {b p d : Addr} (h : BoxAt H b p) (hd : H d = none) : d ≠ b ∧ d ≠ p := by
  obtain ⟨ns, n, h1, h2⟩ := h
  exact ⟨fun e => (by rw [e, h1] at hd; cases hd), fun e => (by rw [e, h2] at hd; cases hd)⟩
theorem BoxAt.updO {H : Hp} {b p d : Addr} {o : HO} (h : BoxAt H b p) (n1 : d ≠ b) (n2 : d ≠ p) : BoxAt (upd H d o) b p := by
  obtain ⟨ns, n, h1, h2⟩ := h
  exact ⟨ns, n, by rw [upd_ne n1.symm]; exact h1, by rw [upd_ne n2.symm]; exact h2⟩
/-- tuples stand as before -/
def TK (H H' : Hp) : Prop := ∀ c u, (∃ xs, u = .tup xs) → Rd H c u → Rd H' c u
theorem TK.refl (H : Hp) : TK H H := fun _ _ _ h => h
theorem TK.trans {H H1 H2 : Hp} (a : TK H H1) (b : TK H1 H2) : TK H H2 := fun c u h r => b c u h (a c u h r)
theorem TK.same {H H' : Hp} (a : Same H H') : TK H H' := fun c u _ r => by
  rcases r with r | ⟨o, r⟩
  · exact .inl (a _ _ r)
  · exact .inr ⟨o, a _ _ r⟩
theorem TK.kp {b : Addr} {H H' : Hp} {xs : List V} (a : Kp b H H') (h : H b = some (.lst xs)) : TK H H' := fun c u ⟨ys, e⟩ r => by
  subst e
  have hn : c ≠ b := fun z => by subst z; rcases r with r | ⟨o, r⟩ <;> (rw [h] at r; cases r)
  rcases r with r | ⟨o, r⟩
  · exact .inl (a _ _ r hn)
  · exact .inr ⟨o, a _ _ r hn⟩
theorem TK.box {b p : Addr} {H H' : Hp} (h : BoxAt H b p) (a : Kp b H H') : TK H H' := by
  obtain ⟨ns, n, h1, h2⟩ := h
  exact TK.kp a h1
theorem TK.updL {H H' : Hp} {b : Addr} {xs ys : List V} (a : TK H H') (h : H' b = some (.lst xs)) : TK H (upd H' b (.lst ys)) :=
  a.trans (TK.kp (Kp.upd (Kp.refl b H')) h)
theorem TK.new {H H' : Hp} {b : Addr} {o : HO} (a : TK H H') (h : H' b = none) : TK H (upd H' b o) := a.trans (TK.same (same_new h))
theorem TK.seq {K : PySem.W.Frag} {H H' : Hp} (k : TK H H') {a : Addr} {xs : List V} (h : SqT K H a xs) : SqT K H' a xs := by
  rcases h with h | h
  · exact .inl (k _ _ ⟨_, rfl⟩ h)
  · exact .inr h
/-- data without lists -/
inductive Imm : PyData → Prop
  | non : Imm .none
  | bl (b : Bool) : Imm (.bool b)
  | int (i : Int) : Imm (.int i)
  | str (x : Str) : Imm (.str x)
  | tup {ds : List PyData} : (∀ d ∈ ds, Imm d) → Imm (.tuple ds)
mutual
theorem Dp.keep {K : PySem.W.Frag} {H H' : Hp} (k : TK H H') : ∀ {v : V} {d : PyData}, Dp K H v d → Imm d → Dp K H' v d
  | _, _, .non, _ => .non
  | _, _, .bl b, _ => .bl b
  | _, _, .int i, _ => .int i
  | _, _, .str x, _ => .str x
  | _, _, .lst h a, i => nomatch i
  | _, _, .tup h a, i => .tup (k.seq h) (DpAll.keep k a (match i with | .tup j => j))
theorem DpAll.keep {K : PySem.W.Frag} {H H' : Hp} (k : TK H H') : ∀ {vs : List V} {ds : List PyData}, DpAll K H vs ds → (∀ d ∈ ds, Imm d) → DpAll K H' vs ds
  | _, _, .nil, _ => .nil
  | _, _, .cons a b, i => .cons (Dp.keep k a (i _ List.mem_cons_self)) (DpAll.keep k b fun d hd => i d (List.mem_cons_of_mem _ hd))
end
mutual
theorem Dp.same {K : PySem.W.Frag} {H H' : Hp} (k : Same H H') : ∀ {v : V} {d : PyData}, Dp K H v d → Dp K H' v d
  | _, _, .non => .non
  | _, _, .bl b => .bl b
  | _, _, .int i => .int i
  | _, _, .str x => .str x
  | _, _, .lst h a => .lst (k.seq h) (DpAll.same k a)
  | _, _, .tup h a => .tup ((TK.same k).seq h) (DpAll.same k a)
theorem DpAll.same {K : PySem.W.Frag} {H H' : Hp} (k : Same H H') : ∀ {vs : List V} {ds : List PyData}, DpAll K H vs ds → DpAll K H' vs ds
  | _, _, .nil => .nil
  | _, _, .cons a b => .cons (Dp.same k a) (DpAll.same k b)
end
theorem DpAll.len {K : PySem.W.Frag} {H : Hp} : ∀ {vs : List V} {ds : List PyData}, DpAll K H vs ds → vs.length = ds.length
  | _, _, .nil => rfl
  | _, _, .cons a b => by rw [List.length_cons, List.length_cons, DpAll.len b]
theorem DpAll.get {K : PySem.W.Frag} {H : Hp} : ∀ {vs : List V} {ds : List PyData}, DpAll K H vs ds → ∀ {i : Nat} {d : PyData}, ds[i]? = some d → ∃ v, vs[i]? = some v ∧ Dp K H v d
  | _, _, .nil, i, d, h => by simp at h
  | _, _, .cons a b, 0, d, h => by
    have e := Option.some.inj h
    subst e
    exact ⟨_, rfl, a⟩
  | _, _, .cons a b, i + 1, d, h => DpAll.get b (i := i) (by simpa using h)
theorem DpAll.app {K : PySem.W.Frag} {H : Hp} : ∀ {vs ws : List V} {ds es : List PyData}, DpAll K H vs ds → DpAll K H ws es → DpAll K H (vs ++ ws) (ds ++ es)
  | _, _, _, _, .nil, h => h
  | _, _, _, _, .cons a b, h => .cons a (DpAll.app b h)
theorem DpAll.ints {K : PySem.W.Frag} {H : Hp} : ∀ (ns : List Int), DpAll K H (ns.map V.int) (ns.map PyData.int)
  | [] => .nil
  | n :: r => .cons (.int n) (DpAll.ints r)
theorem DpAll.strs {K : PySem.W.Frag} {H : Hp} : ∀ (ns : List Str), DpAll K H (ns.map V.str) (ns.map PyData.str)
  | [] => .nil
  | n :: r => .cons (.str n) (DpAll.strs r)
/-- depth below n, lists not too long -/
def Fits : Nat → PyData → Prop
  | 0, _ => False
  | n + 1, .list xs => xs.length < 2 ^ 60 ∧ ∀ x ∈ xs, Fits n x
  | n + 1, .tuple xs => xs.length < 2 ^ 60 ∧ ∀ x ∈ xs, Fits n x
  | _ + 1, .dict _ => False
  | _ + 1, _ => True
theorem ty_l {K : PySem.W.Frag} {H : Hp} {a : Addr} {xs : List V} (h : SqL K H a xs) : TyX K H (.ref a) (.type "list") := by
  rcases h with (h | ⟨o, h⟩) | ⟨o, its, n, h1, h2, _⟩
  · exact .base (.lst h)
  · exact .base (.frz h)
  · exact .kList h1 h2
theorem ty_t {K : PySem.W.Frag} {H : Hp} {a : Addr} {xs : List V} (h : SqT K H a xs) : TyX K H (.ref a) (.type "tuple") := by
  rcases h with (h | ⟨o, h⟩) | ⟨o, its, n, h1, h2, _⟩
  · exact .base (.tup h)
  · exact .fTuple h
  · exact .kTuple h1 h2
/-- the two are the same data: True -/
def ySame (K : PySem.W.Frag) (n : Nat) : Sp := fun vs H Q _ => ∃ (x y : V) (d : PyData), vs = [x, y] ∧ Dp K H x d ∧ Dp K H y d ∧ Fits n d ∧ Q (.bl true) H
def yDraw (K : PySem.W.Frag) : Sp := fun vs H Q _ => ∃ (b p : Addr) (m : Int), vs = [.ref b, .int m] ∧ BoxAt H b p ∧ 0 < m ∧
  ∀ (r : Int) (H' : Hp), 0 ≤ r → r < m → BoxAt H' b p → Kp b H H' → Q (.int r) H'
section
variable {P : Program} {w : World} {K : PySem.W.Frag} {mg : Str → Option Value} {base : Heap} {A : Nat → Addr} {D : Nat → FuncData}
theorem ok_draw (T : Txt K mg A D) : FnOk P w K mg base CX0 1 (A 3) (D 3) ["box", "many"] (yDraw K) := by
  refine T.F__law_draw.ok sc__law_draw (fun vs H Q E h => ?_) (fun cdv A' outer s H vs Q E hr h => ?_)
  · obtain ⟨b, d, m, rfl, _⟩ := h; rfl
  obtain ⟨b, d, m, rfl, ⟨ns, n, h1, h2⟩, hm, q⟩ := h
  have hnd := sc__law_draw.nd
  have ndb : d ≠ b := fun e => by
    rw [e, h1] at h2
    cases ns with
    | nil => simp at h2
    | cons a r => simp at h2
  refine ⟨_, (pss_cons (ps_set (i := 2) hnd rfl (Or.inl rfl) (pe_ix (r := rIxL K) ix_list (pv 0) pe_int (fun _ _ => rfl))) (pss_cons (ps_asg (pe_op op_add (pv 2) pe_int) (pg_sub (pv 0) pe_int set_list)) (pss_cons (ps_if (pt_cmpR op_lt (pv 2) (pe_callB call_len_seq rfl T.z_len PySem.boot_len (pa_cons (pe_ix (r := rIxL K) ix_list (pv 0) pe_int (fun _ _ => rfl)) pa_nil)) (nomark _)) (pss_one (ps_ret (pe_op op_modN (pe_callTy call_int1 rfl T.z_int (by decide +kernel) (pa_cons (pe_ix (r := rIxL K) ix_list (pe_ix (r := rIxL K) ix_list (pv 0) pe_int (fun _ _ => rfl)) (pv 2) (fun _ _ => rfl)) pa_nil)) (pv 1)))) pss_nil) (pss_one (ps_ret pe_int))))), ?_⟩
  refine ⟨_, rfl, b, _, _, _, rfl, rfl, SqL.of h1, rfl, ?_⟩
  refine ⟨_, rfl, _, _, rfl, rfl, _, rfl, b, _, _, 1, rfl, rfl, h1, rfl, ?_⟩
  have k1 : Kp b H (upd H b (.lst [.ref d, .int ((n : Int) + 1)])) := Kp.upd (Kp.refl b H)
  have e1 : upd H b (.lst [.ref d, .int ((n : Int) + 1)]) b = some (.lst [.ref d, .int ((n : Int) + 1)]) := upd_same
  have e2 : upd H b (.lst [.ref d, .int ((n : Int) + 1)]) d = some (.lst (ns.map V.int)) := k1 _ _ h2 ndb
  have B : BoxAt (upd H b (.lst [.ref d, .int ((n : Int) + 1)])) b d := ⟨ns, n + 1, upd_same, e2⟩
  refine ⟨_, rfl, _, rfl, b, _, _, _, rfl, rfl, SqL.of e1, rfl, d, _, rfl, .inl (SqL.of e2), _, _, rfl, rfl, _, rfl, ?_⟩
  refine ite2 (fun c => ?_) (fun c => ?_)
  · have c' : (n : Int) < (((ns.map V.int).length : Nat) : Int) := of_decide_eq_true c
    rw [List.length_map] at c'
    refine ⟨_, rfl, b, _, _, _, rfl, rfl, SqL.of e1, rfl, _, rfl, d, _, _, _, rfl, rfl, SqL.of e2, at_ints (by omega), .inl ⟨_, rfl, _, rfl, _, _, rfl, rfl, (by show m ≠ 0; omega), ?_⟩⟩
    have z1 := Int.fmod_nonneg_of_pos (ns.getD n 0) hm
    have z2 := Int.fmod_lt_of_pos (ns.getD n 0) hm
    exact q _ _ z1 z2 B k1
  · exact q 0 _ (Int.le_refl 0) hm B k1
theorem ok_same (T : Txt K mg A D) : ∀ n, FnOk P w K mg base CX0 n (A 4) (D 4) ["actual", "due"] (ySame K n)
  | 0 => by
    have no : ∀ vs H Q E, ¬ ySame K 0 vs H Q E := fun vs H Q E h => by
      obtain ⟨x, y, d, _, _, _, f, _⟩ := h
      cases d <;> exact f
    exact ⟨fun vs H Q E h => absurd h (no vs H Q E), fun A outer s H args us vs Q E _ _ _ _ h => absurd h (no vs H Q E)⟩
  | n + 1 => by
    have G__law_same := ok_same T n
    refine T.F__law_same.ok sc__law_same (fun vs H Q E h => ?_) (fun cdv A' outer s H vs Q E hr h => ?_)
    · obtain ⟨x, y, d, rfl, _⟩ := h; rfl
    obtain ⟨x, y, d, rfl, dx, dy, hf, q⟩ := h
    have hnd := sc__law_same.nd
    refine ⟨_, (pss_cons (ps_if (PW.pt (pw_or (pt_val (pe_callB call_isi rfl T.z_isinstance (by decide +kernel) (pa_cons (pv 1) (pa_cons (pe_bltn (v := .ty "list") rfl T.z_list (by decide +kernel) rfl) pa_nil)))) (pw_or1 (pt_val (pe_callB call_isi rfl T.z_isinstance (by decide +kernel) (pa_cons (pv 1) (pa_cons (pe_bltn (v := .ty "tuple") rfl T.z_tuple (by decide +kernel) rfl) pa_nil))))))) (pss_cons (ps_if (PW.pt (pw_or (pt_cmpR op_ne (pe_callB call_isi rfl T.z_isinstance (by decide +kernel) (pa_cons (pv 1) (pa_cons (pe_bltn (v := .ty "list") rfl T.z_list (by decide +kernel) rfl) pa_nil))) (pe_callB call_isi rfl T.z_isinstance (by decide +kernel) (pa_cons (pv 0) (pa_cons (pe_bltn (v := .ty "list") rfl T.z_list (by decide +kernel) rfl) pa_nil))) (nomark _)) (pw_or1 (pt_cmpR op_ne (pe_callB call_isi rfl T.z_isinstance (by decide +kernel) (pa_cons (pv 1) (pa_cons (pe_bltn (v := .ty "tuple") rfl T.z_tuple (by decide +kernel) rfl) pa_nil))) (pe_callB call_isi rfl T.z_isinstance (by decide +kernel) (pa_cons (pv 0) (pa_cons (pe_bltn (v := .ty "tuple") rfl T.z_tuple (by decide +kernel) rfl) pa_nil))) (nomark _))))) (pss_one (ps_ret pe_bl)) pss_nil) (pss_cons (ps_if (pt_cmpR op_ne (pe_callB call_len_seq rfl T.z_len PySem.boot_len (pa_cons (pv 0) pa_nil)) (pe_callB call_len_seq rfl T.z_len PySem.boot_len (pa_cons (pv 1) pa_nil)) (nomark _)) (pss_one (ps_ret pe_bl)) pss_nil) (pss_cons (ps_for PassesOwn.never rfl (pi_range1 rfl T.z_range (pa_cons (pe_callB call_len_seq rfl T.z_len PySem.boot_len (pa_cons (pv 1) pa_nil)) pa_nil)) (pg_name (i := 2) hnd rfl (Or.inl rfl)) (pss_one (ps_if (pt_not (pt_val (pe_call G__law_same (hr.mono (by first | decide | omega)) rfl T.m__law_same T.F__law_same.kp T.b__law_same .nil pass0 (pa_cons (pe_ix (r := rIx K) ix_seq (pv 0) (pv 2) (fun _ _ => rfl)) (pa_cons (pe_ix (r := rIx K) ix_seq (pv 1) (pv 2) (fun _ _ => rfl)) pa_nil))))) (pss_one (ps_ret pe_bl)) pss_nil))) (pss_one (ps_ret pe_bl))))) pss_nil) (pss_cons (ps_if (pt_cmpR op_isN (pv 1) pe_non (nomark _)) (pss_one (ps_ret (pe_cmpR op_isN (pv 0) pe_non (nomark _)))) pss_nil) (pss_cons (ps_if (pt_val (pe_callB call_isi rfl T.z_isinstance (by decide +kernel) (pa_cons (pv 1) (pa_cons (pe_bltn (v := .ty "bool") rfl T.z_bool (by decide +kernel) rfl) pa_nil)))) (pss_one (ps_ret (pe_and (pe_callB call_isi rfl T.z_isinstance (by decide +kernel) (pa_cons (pv 0) (pa_cons (pe_bltn (v := .ty "bool") rfl T.z_bool (by decide +kernel) rfl) pa_nil))) (pe_one (pe_cmpR op_eq (pv 0) (pv 1) (nomark _)))))) pss_nil) (pss_cons (ps_if (pt_val (pe_callB call_isi rfl T.z_isinstance (by decide +kernel) (pa_cons (pv 1) (pa_cons (pe_bltn (v := .ty "str") rfl T.z_str (by decide +kernel) rfl) pa_nil)))) (pss_one (ps_ret (pe_and (pe_callB call_isi rfl T.z_isinstance (by decide +kernel) (pa_cons (pv 0) (pa_cons (pe_bltn (v := .ty "str") rfl T.z_str (by decide +kernel) rfl) pa_nil))) (pe_one (pe_cmpR op_eq (pv 0) (pv 1) (nomark _)))))) pss_nil) (pss_one (ps_ret (pe_and (pe_callB call_isi rfl T.z_isinstance (by decide +kernel) (pa_cons (pv 0) (pa_cons (pe_bltn (v := .ty "int") rfl T.z_int (by decide +kernel) rfl) pa_nil))) (pe_and (pe_not (pe_callB call_isi rfl T.z_isinstance (by decide +kernel) (pa_cons (pv 0) (pa_cons (pe_bltn (v := .ty "bool") rfl T.z_bool (by decide +kernel) rfl) pa_nil)))) (pe_one (pe_cmpR op_eq (pv 0) (pv 1) (nomark _))))))))))), ?_⟩
    cases d with
    | dict _ => exact hf.elim
    | list ds =>
      obtain ⟨hf1, hf2⟩ := hf
      cases dx with | lst hx ax =>
      cases dy with | lst hy ay =>
      rename_i a vs a' vs'
      have l1 := DpAll.len ax
      have l2 := DpAll.len ay
      refine ⟨_, rfl, _, _, _, _, _, rfl, .ty _, ty_l hy, kit_ty (by decide +kernel), _, rfl, iteT (iteT ?_)⟩
      refine ⟨_, rfl, _, _, _, _, true, rfl, .ty _, ty_l hy, kit_ty (by decide +kernel), _, rfl, _, _, _, _, true, rfl, .ty _, ty_l hx, kit_ty (by decide +kernel), rfl, _, rfl, iteNS rfl ?_⟩
      refine ⟨_, rfl, _, _, _, _, false, rfl, .ty _, ty_l hy, kit_ty (by decide +kernel), _, rfl, _, _, _, _, false, rfl, .ty _, ty_l hx, kit_ty (by decide +kernel), rfl, _, rfl, iteNS rfl ?_⟩
      refine ⟨_, rfl, _, _, rfl, .inl hx, _, rfl, _, _, rfl, .inl hy, rfl, _, rfl, iteNS (by rw [l1, l2]) ?_⟩
      refine ⟨_, rfl, _, _, rfl, .inl hy, _, rfl, (by omega), (by omega), ?_⟩
      rw [show ((vs'.length : Nat) : Int).toNat = ds.length by omega]
      refine for_range (n := ds.length) (fun i σ H' => ∃ kv : Option V, σ = [some (.ref a), some (.ref a'), kv] ∧ H' = H) ⟨none, rfl, rfl⟩ ?_ ?_
      · rintro i σ H' hi ⟨kv, rfl, rfl⟩
        obtain ⟨v, ev, dv⟩ := DpAll.get ax (List.getElem?_eq_getElem hi)
        obtain ⟨v', ev', dv'⟩ := DpAll.get ay (List.getElem?_eq_getElem hi)
        have ev1 : atI vs (0 + (i : Int)) = some v := by rw [Int.zero_add]; exact atI_nat ev
        have ev2 : atI vs' (0 + (i : Int)) = some v' := by rw [Int.zero_add]; exact atI_nat ev'
        refine ⟨_, rfl, _, rfl, .inl ⟨_, _, _, _, rfl, rfl, hx, ev1, _, rfl, _, rfl, .inl ⟨_, _, _, _, rfl, rfl, hy, ev2, ?_⟩⟩⟩
        exact ⟨v, v', ds[i], rfl, dv, dv', hf2 _ (List.getElem_mem hi), _, rfl, iteF ⟨_, rfl, rfl⟩⟩
      · rintro σ H' ⟨kv, rfl, rfl⟩
        exact q
    | tuple ds =>
      obtain ⟨hf1, hf2⟩ := hf
      cases dx with | tup hx ax =>
      cases dy with | tup hy ay =>
      rename_i a vs a' vs'
      have l1 := DpAll.len ax
      have l2 := DpAll.len ay
      refine ⟨_, rfl, _, _, _, _, _, rfl, .ty _, ty_t hy, kit_ty (by decide +kernel), _, rfl, iteF ⟨_, rfl, _, _, _, _, _, rfl, .ty _, ty_t hy, kit_ty (by decide +kernel), _, rfl, iteT ?_⟩⟩
      refine ⟨_, rfl, _, _, _, _, false, rfl, .ty _, ty_t hy, kit_ty (by decide +kernel), _, rfl, _, _, _, _, false, rfl, .ty _, ty_t hx, kit_ty (by decide +kernel), rfl, _, rfl, iteNS rfl ?_⟩
      refine ⟨_, rfl, _, _, _, _, true, rfl, .ty _, ty_t hy, kit_ty (by decide +kernel), _, rfl, _, _, _, _, true, rfl, .ty _, ty_t hx, kit_ty (by decide +kernel), rfl, _, rfl, iteNS rfl ?_⟩
      refine ⟨_, rfl, _, _, rfl, .inr hx, _, rfl, _, _, rfl, .inr hy, rfl, _, rfl, iteNS (by rw [l1, l2]) ?_⟩
      refine ⟨_, rfl, _, _, rfl, .inr hy, _, rfl, (by omega), (by omega), ?_⟩
      rw [show ((vs'.length : Nat) : Int).toNat = ds.length by omega]
      refine for_range (n := ds.length) (fun i σ H' => ∃ kv : Option V, σ = [some (.ref a), some (.ref a'), kv] ∧ H' = H) ⟨none, rfl, rfl⟩ ?_ ?_
      · rintro i σ H' hi ⟨kv, rfl, rfl⟩
        obtain ⟨v, ev, dv⟩ := DpAll.get ax (List.getElem?_eq_getElem hi)
        obtain ⟨v', ev', dv'⟩ := DpAll.get ay (List.getElem?_eq_getElem hi)
        have ev1 : atI vs (0 + (i : Int)) = some v := by rw [Int.zero_add]; exact atI_nat ev
        have ev2 : atI vs' (0 + (i : Int)) = some v' := by rw [Int.zero_add]; exact atI_nat ev'
        refine ⟨_, rfl, _, rfl, .inr (.inl ⟨_, _, _, _, rfl, rfl, hx, ev1, _, rfl, _, rfl, .inr (.inl ⟨_, _, _, _, rfl, rfl, hy, ev2, ?_⟩)⟩)⟩
        exact ⟨v, v', ds[i], rfl, dv, dv', hf2 _ (List.getElem_mem hi), _, rfl, iteF ⟨_, rfl, rfl⟩⟩
      · rintro σ H' ⟨kv, rfl, rfl⟩
        exact q
    | none =>
      cases dx with | non =>
      cases dy with | non =>
      refine ⟨_, rfl, _, _, _, _, _, rfl, .ty _, .base (.non), kit_ty (by decide +kernel), _, rfl, iteF ⟨_, rfl, _, _, _, _, _, rfl, .ty _, .base (.non), kit_ty (by decide +kernel), _, rfl, iteF ?_⟩⟩
      refine ⟨_, rfl, rfl, _, rfl, iteT ?_⟩
      exact ⟨_, rfl, rfl, q⟩
    | bool b =>
      cases dx with | bl =>
      cases dy with | bl =>
      refine ⟨_, rfl, _, _, _, _, _, rfl, .ty _, .base (.bl _), kit_ty (by decide +kernel), _, rfl, iteF ⟨_, rfl, _, _, _, _, _, rfl, .ty _, .base (.bl _), kit_ty (by decide +kernel), _, rfl, iteF ?_⟩⟩
      refine ⟨_, rfl, rfl, _, rfl, iteF ?_⟩
      refine ⟨_, rfl, _, _, _, _, _, rfl, .ty _, .base (.bl _), kit_ty (by decide +kernel), _, rfl, iteT ?_⟩
      refine ⟨_, rfl, _, _, _, _, _, rfl, .ty _, .base (.bl _), kit_ty (by decide +kernel), _, rfl, iteT ⟨_, rfl, _, rfl, rfl, ?_⟩⟩
      rw [decide_eq_true rfl]
      exact q
    | str z =>
      cases dx with | str =>
      cases dy with | str =>
      refine ⟨_, rfl, _, _, _, _, _, rfl, .ty _, .base (.str _), kit_ty (by decide +kernel), _, rfl, iteF ⟨_, rfl, _, _, _, _, _, rfl, .ty _, .base (.str _), kit_ty (by decide +kernel), _, rfl, iteF ?_⟩⟩
      refine ⟨_, rfl, rfl, _, rfl, iteF ?_⟩
      refine ⟨_, rfl, _, _, _, _, _, rfl, .ty _, .base (.str _), kit_ty (by decide +kernel), _, rfl, iteF ⟨_, rfl, _, _, _, _, _, rfl, .ty _, .base (.str _), kit_ty (by decide +kernel), _, rfl, iteT ?_⟩⟩
      refine ⟨_, rfl, _, _, _, _, _, rfl, .ty _, .base (.str _), kit_ty (by decide +kernel), _, rfl, iteT ⟨_, rfl, _, rfl, rfl, ?_⟩⟩
      rw [decide_eq_true rfl]
      exact q
    | int i =>
      cases dx with | int =>
      cases dy with | int =>
      refine ⟨_, rfl, _, _, _, _, _, rfl, .ty _, .base (.int _), kit_ty (by decide +kernel), _, rfl, iteF ⟨_, rfl, _, _, _, _, _, rfl, .ty _, .base (.int _), kit_ty (by decide +kernel), _, rfl, iteF ?_⟩⟩
      refine ⟨_, rfl, rfl, _, rfl, iteF ?_⟩
      refine ⟨_, rfl, _, _, _, _, _, rfl, .ty _, .base (.int _), kit_ty (by decide +kernel), _, rfl, iteF ⟨_, rfl, _, _, _, _, _, rfl, .ty _, .base (.int _), kit_ty (by decide +kernel), _, rfl, iteF ?_⟩⟩
      refine ⟨_, rfl, _, _, _, _, _, rfl, .ty _, .base (.int _), kit_ty (by decide +kernel), _, rfl, iteT ⟨_, rfl, _, _, _, _, false, rfl, .ty _, .base (.int _), kit_ty (by decide +kernel), _, rfl, _, rfl, iteT ⟨_, rfl, _, rfl, rfl, ?_⟩⟩⟩
      rw [decide_eq_true rfl]
      exact q
end

/-! ### words of a text -/
open TL
open PyProof.Rows (lo1 lower_ascii)
def smallS : Str := "0123456789abcdefghijklmnopqrstuvwxyz"
def smallL : Str := "abcdefghijklmnopqrstuvwxyz0123456789"
theorem small_LS : ∀ c ∈ tl smallL, c ∈ tl smallS := by decide +kernel
theorem small_SL : ∀ c ∈ tl smallS, c ∈ tl smallL := by decide +kernel
theorem small_iff {c : Nat} : c ∈ tl smallL ↔ c ∈ tl smallS := ⟨small_LS c, small_SL c⟩
/-- how a sign is read: a small letter or digit, or a blank -/
def gw (c : Nat) : Nat := if c ∈ tl smallS then c else 32
def gl (c : Nat) : Nat := gw (lo1 c)
def wordsL (cs : List Nat) : List (List Nat) := (wfin ((cs.map gl).foldl wstep ([], []))).map (·.take 12)
def sgn (c : Nat) : Str := ⟨#[c]⟩
def jn (l : List Nat) : Str := Txt.join (Str.ofString "") (l.map sgn)
theorem joinL_nil : ∀ l : List Nat, joinL [] (l.map fun c => [c]) = l
  | [] => rfl
  | [c] => rfl
  | c :: d :: r => by
    show [c] ++ ([] ++ joinL [] ((d :: r).map fun c => [c])) = _
    rw [joinL_nil (d :: r)]
    rfl
theorem join_signs (l : List Nat) : tl (jn l) = l := by
  unfold jn
  rw [join_eq, tl_join, List.map_map, show tl (Str.ofString "") = [] by decide +kernel]
  exact joinL_nil l
theorem cut_take (z : Str) (k : Nat) : tl (cutS z none (some (k : Int))) = (tl z).take k := by
  show ((z.cps.toList.drop 0).take (HT.sIx z.length z.length (some (k : Int)) - 0)) = _
  have e : HT.sIx z.length z.length (some (k : Int)) = min k z.length := by
    show (if (k : Int) < 0 then ((k : Int) + (z.length : Int)).toNat else min (k : Int).toNat z.length) = _
    rw [if_neg (by omega), Int.toNat_natCast]
  have e2 : z.length = z.cps.toList.length := len_tl z
  rw [e, List.drop_zero, Nat.sub_zero]
  exact List.take_eq_take_iff.mpr (by omega)
theorem words_len {N : Nat} : ∀ (l : List Nat) (ws : List (List Nat)) (u : List Nat), (∀ x ∈ ws, x.length ≤ N) → u.length + l.length ≤ N → ∀ x ∈ wfin (l.foldl wstep (ws, u)), x.length ≤ N
  | [], ws, u, h, hu => by
    intro x hx
    show x.length ≤ N
    have e : wfin (List.foldl wstep (ws, u) []) = if u = [] then ws else ws ++ [u] := rfl
    rw [e] at hx
    by_cases hu0 : u = []
    · rw [if_pos hu0] at hx; exact h x hx
    · rw [if_neg hu0] at hx
      rcases List.mem_append.mp hx with hx | hx
      · exact h x hx
      · rw [List.mem_singleton.mp hx]; simpa using hu
  | c :: r, ws, u, h, hu => by
    rw [List.length_cons] at hu
    rw [List.foldl_cons]
    unfold wstep
    split
    · split
      · exact words_len r ws u h (by omega)
      · refine words_len r _ _ (fun x hx => ?_) (by simp only [List.length_nil]; omega)
        rcases List.mem_append.mp hx with hx | hx
        · exact h x hx
        · rw [List.mem_singleton.mp hx]; show u.length ≤ N; omega
    · exact words_len r ws (u ++ [c]) h (by rw [List.length_append, List.length_singleton]; omega)
theorem map_sgn (l : List Nat) : (l.map sgn).map (fun x => x.length) = l.map fun _ => 1 := by rw [List.map_map]; rfl
theorem sum_ones (l : List Nat) : (l.map fun _ => 1).sum = l.length := by
  induction l with
  | nil => rfl
  | cons a r ih => rw [List.map_cons, List.sum_cons, ih, List.length_cons]; omega
theorem take_succ_map {α β : Type} {f : α → β} {l : List α} {i : Nat} {x : α} (h : l[i]? = some x) : (l.take i).map f ++ [f x] = (l.take (i + 1)).map f := by
  rw [List.take_add_one, h, List.map_append]; rfl
theorem take_all {α : Type} {l : List α} {n : Nat} (h : l.length ≤ n) : l.take n = l := List.take_of_length_le h
def yWords (K : PySem.W.Frag) : Sp := fun vs H Q _ => ∃ z : Str, vs = [.str z] ∧ z.length ≤ 100000 ∧ (∀ c ∈ tl z, c < 128) ∧
  ∀ (r : Addr) (ws : List Str) (H' : Hp), Same H H' → H r = none → H' r = some (.lst (ws.map V.str)) → ws.map tl = wordsL (tl z) → Q (.ref r) H'
section
variable {P : Program} {w : World} {K : PySem.W.Frag} {mg : Str → Option Value} {base : Heap} {A : Nat → Addr} {D : Nat → FuncData}
theorem ok_words_of (T : Txt K mg A D) : FnOk P w K mg base CX0 1 (A 0) (D 0) ["text"] (yWords K) := by
  refine T.F_words_of.ok sc_words_of (fun vs H Q E h => ?_) (fun cdv A' outer s H vs Q E hr h => ?_)
  · obtain ⟨z, rfl, _⟩ := h; rfl
  obtain ⟨z, rfl, hz, ha, q⟩ := h
  have hnd := sc_words_of.nd
  obtain ⟨tS, hSMALL⟩ := T.c_SMALL
  obtain ⟨tL, hLONGEST⟩ := T.c_LONGEST
  refine ⟨_, (pss_cons (ps_setLc (i := 3) (own := [("letter", 1)]) rfl hnd rfl rfl (sw_true rfl rfl rfl (by decide +kernel)) (pi_str (pe_lower (pv 0))) (blkOk_by (own := [("letter", 1)]) (N := N_words_of) (sc := defScope s_words_of) (by decide +kernel)) (fun _ _ _ _ _ => (pg_name (i := 1) hnd rfl (Or.inl rfl))) (fun _ _ _ _ _ => pts_nil) (fun _ _ _ _ _ => (pe_ifExp (pt_cmpR op_in_sign (pv 1) (pe_glob (v := V.str _) rfl hSMALL ⟨_, rfl⟩) rfl) (pv 1) pe_str))) (pss_one (ps_ret (pe_lc (own := [("run", 2)]) rfl hnd (pi_list (pe_words (pe_join pe_str (pv 3)))) (blkOk_by (own := [("run", 2)]) (N := N_words_of) (sc := defScope s_words_of) (by decide +kernel)) (fun _ _ _ _ _ => (pg_name (i := 2) hnd rfl (Or.inl rfl))) (fun _ _ _ _ _ => pts_nil) (fun _ _ _ _ _ => (pe_slice sl_str (pv 2) po_none (po_some (pe_glob (v := V.int _) rfl hLONGEST ⟨_, rfl⟩)))))))), ?_⟩
  have elow : tl (Txt.lower z) = (tl z).map lo1 := by
    rw [lower_ascii ha]
    show (z.cps.map lo1).toList = _
    rw [Array.toList_map]
  have els : (tl (Txt.lower z)).map gw = (tl z).map gl := by
    rw [elow, List.map_map]; rfl
  have esz : (Txt.lower z).cps.size = (tl z).length := by
    have e := congrArg List.length elow
    rw [List.length_map] at e
    rw [← e]; simp
  have hz' : (tl z).length ≤ 100000 := by rw [← len_tl]; exact hz
  refine ⟨_, rfl, ⟨_, rfl⟩, z, rfl, rfl, (by omega), _, rfl, fun p hp => ?_⟩
  refine lc_it walk_str (fun i H' => Same H H' ∧ H' p = some (.lst ((((tl z).map gl).take i).map sgn |>.map V.str))) ⟨same_new hp, upd_same⟩ (fun _ _ _ _ => trivial) ?_ ?_
  · rintro i x H1 H2 hi ⟨s1, h1⟩ ⟨rfl, c, hc, rfl⟩
    have hcl : (tl (Txt.lower z))[i]? = some c := by
      show (Txt.lower z).cps.toList[i]? = _
      rw [Array.getElem?_toList]; exact hc
    have hcg : ((tl z).map gl)[i]? = some (gw c) := by rw [← els, List.getElem?_map, hcl]; rfl
    have fin : ∀ d, d = gw c → ∃ acc, H2 p = some (.lst acc) ∧ acc.length < sizeLine ∧ Same H (upd H2 p (.lst (acc ++ [V.str (sgn d)]))) ∧ upd H2 p (.lst (acc ++ [V.str (sgn d)])) p = some (.lst ((((tl z).map gl).take (i + 1)).map sgn |>.map V.str)) := by
      rintro d rfl
      refine ⟨_, h1, ?_, same_upd s1 hp, ?_⟩
      · rw [List.length_map, List.length_map, List.length_take, List.length_map]
        exact len_lt (by omega)
      · rw [upd_same, ← take_succ_map hcg, List.map_append]; rfl
    refine ⟨rfl, ?_⟩
    refine ⟨_, rfl, c, _, rfl, rfl, _, rfl, ?_⟩
    refine ite2 (fun hin => ?_) (fun hin => ?_)
    · have hin' : c ∈ tl smallS := of_decide_eq_true hin
      exact ⟨_, rfl, fin c (by unfold gw; rw [if_pos hin'])⟩
    · have hin' : ¬ c ∈ tl smallS := fun z => hin (decide_eq_true z)
      have e32 : Str.ofString " " = sgn 32 := by decide +kernel
      have := fin 32 (by unfold gw; rw [if_neg hin'])
      rw [← e32] at this
      exact this
  · rintro H1 ⟨s1, h1⟩
    rw [esz, take_all (by rw [List.length_map]; exact Nat.le_refl _)] at h1
    have ej : tl (jn ((tl z).map gl)) = (tl z).map gl := join_signs _
    have ewd : (Txt.words (jn ((tl z).map gl))).map tl = wfin (((tl z).map gl).foldl wstep ([], [])) := by rw [words_tl, ej]
    have jl : (jn ((tl z).map gl)).length ≤ 100000 := by rw [len_tl, ej, List.length_map]; exact hz'
    have hwl : ∀ u ∈ Txt.words (jn ((tl z).map gl)), u.length ≤ 100000 := fun u hu => by
      rw [len_tl]
      exact words_len (N := 100000) ((tl z).map gl) [] [] (fun _ h => nomatch h) (by simp only [List.length_nil, List.length_map]; omega) _ (by rw [← ewd]; exact List.mem_map_of_mem hu)
    have hwn : (Txt.words (jn ((tl z).map gl))).length ≤ 100001 := Nat.le_trans (words_le _) (by omega)
    refine ⟨⟨_, rfl⟩, _, rfl, _, p, ((tl z).map gl).map sgn, rfl, rfl, .inl (SqL.of h1), ?_, ?_⟩
    · rw [map_sgn, sum_ones, List.length_map, List.length_map]
      show _ + (tl z).length * 0 ≤ _
      omega
    refine ⟨⟨_, rfl⟩, jn ((tl z).map gl), rfl, rfl, (by show (jn ((tl z).map gl)).length + 2 ≤ 16777216; omega), fun p2 hp2 => ?_⟩
    have s2 : Same H (upd H1 p2 (.lst ((Txt.words (jn ((tl z).map gl))).map V.str))) := same_upd s1 (s1.free hp2)
    refine ⟨_, rfl, ⟨_, SqL.of upd_same⟩, fun r hr0 => ?_⟩
    have hn2 : p2 ≠ r := fun e => by rw [← e, upd_same] at hr0; cases hr0
    refine lc_it (walk_list (xs := (Txt.words (jn ((tl z).map gl))).map V.str)) (fun i H' => Same H H' ∧ H' p2 = some (.lst ((Txt.words (jn ((tl z).map gl))).map V.str)) ∧ H' r = some (.lst (((Txt.words (jn ((tl z).map gl))).take i).map fun u => V.str (cutS u none (some 12)))))
      ⟨same_upd s2 (s2.free hr0), by rw [upd_ne hn2, upd_same], upd_same⟩ (fun i H' _ h => SqL.of h.2.1) ?_ ?_
    · rintro i x H2 H3 hi ⟨s3, h2, h3⟩ ⟨rfl, hx⟩
      rw [List.getElem?_map] at hx
      obtain ⟨u, hu, rfl⟩ := Option.map_eq_some_iff.mp hx
      have hul := hwl u (List.mem_of_getElem? hu)
      refine ⟨rfl, ?_⟩
      refine ⟨_, rfl, 12, rfl, u, rfl, (by show u.length ≤ 16777216; omega), _, h3, ?_, same_upd s3 (s2.free hr0), by rw [upd_ne hn2]; exact h2, ?_⟩
      · rw [List.length_map, List.length_take]; exact len_lt (by omega)
      · rw [upd_same, ← take_succ_map hu]
    · rintro H2 ⟨s3, h2, h3⟩
      rw [List.length_map, take_all (Nat.le_refl _)] at h3
      refine q r ((Txt.words (jn ((tl z).map gl))).map fun u => cutS u none (some 12)) H2 s3 (s2.free hr0) (by rw [h3, List.map_map]; rfl) ?_
      rw [List.map_map, wordsL, ← ewd, List.map_map]
      exact List.map_congr_left fun u _ => cut_take u 12
end

theorem atI_mem {α : Type} {l : List α} {r : Int} (h0 : 0 ≤ r) (h1 : r < (l.length : Int)) : ∃ c, atI l r = some c ∧ c ∈ l := by
  obtain ⟨n, rfl⟩ := Int.eq_ofNat_of_zero_le h0
  have hn : n < l.length := by omega
  exact ⟨l[n], atI_nat (List.getElem?_eq_getElem hn), List.getElem_mem hn⟩
theorem tl_sgn (c : Nat) : tl (⟨#[c]⟩ : Str) = [c] := rfl
def yRun (K : PySem.W.Frag) : Sp := fun vs H Q _ => ∃ (b p : Addr) (m : Int) (z : Str), vs = [.ref b, .int m, .str z] ∧ BoxAt H b p ∧ 0 < z.length ∧ z.length ≤ 1000 ∧ 0 ≤ m ∧ m ≤ 1000 ∧
  ∀ (t : Str) (H' : Hp), (∀ c ∈ tl t, c ∈ tl z) → (t.length : Int) = m → BoxAt H' b p → Kp b H H' → Q (.str t) H'
section
variable {P : Program} {w : World} {K : PySem.W.Frag} {mg : Str → Option Value} {base : Heap} {A : Nat → Addr} {D : Nat → FuncData}
theorem ok_run (T : Txt K mg A D) : FnOk P w K mg base CX0 2 (A 5) (D 5) ["box", "many", "chars"] (yRun K) := by
  refine T.F__law_run.ok sc__law_run (fun vs H Q E h => ?_) (fun cdv A' outer s H vs Q E hr h => ?_)
  · obtain ⟨b, p, m, z, rfl, _⟩ := h; rfl
  obtain ⟨b, p, m, z, rfl, B, z0, z1, m0, m1, q⟩ := h
  have hnd := sc__law_run.nd
  have G__law_draw := ok_draw (P := P) (w := w) (base := base) T
  refine ⟨_, (pss_cons (ps_set (i := 3) hnd rfl (Or.inl rfl) pe_str) (pss_cons (ps_for PassesOwn.never rfl (pi_range1 rfl T.z_range (pa_cons (pv 1) pa_nil)) (pg_name (i := 4) hnd rfl (Or.inl rfl)) (pss_one (ps_set (i := 3) hnd rfl (Or.inl rfl) (pe_op op_add_str (pv 3) (pe_ix ix_str (pv 2) (pe_call G__law_draw (hr.mono (by first | decide | omega)) rfl T.m__law_draw T.F__law_draw.kp T.b__law_draw .nil pass0 (pa_cons (pv 0) (pa_cons (pe_callB call_len_str rfl T.z_len PySem.boot_len (pa_cons (pv 2) pa_nil)) pa_nil))) (fun _ _ => rfl)))))) (pss_one (ps_ret (pv 3))))), ?_⟩
  refine ⟨_, rfl, m, rfl, (by omega), (by omega), ?_⟩
  refine for_range (n := m.toNat) (fun i σ H' => ∃ (t : Str) (kv : Option V), σ = [some (.ref b), some (.int m), some (.str z), some (.str t), kv] ∧ BoxAt H' b p ∧ Kp b H H' ∧ (∀ c ∈ tl t, c ∈ tl z) ∧ t.length = i)
    ⟨_, none, rfl, B, Kp.refl _ _, (fun c hc => nomatch (show c ∈ ([] : List Nat) from hc)), rfl⟩ ?_ ?_
  · rintro i σ H1 hi ⟨t, kv, rfl, B1, k1, ht, hl⟩
    refine ⟨_, rfl, _, rfl, _, rfl, _, rfl, z, rfl, (by show z.length ≤ 16777216; omega), b, p, _, rfl, B1, (by omega), fun r H2 h0 h1 B2 k2 => ?_⟩
    obtain ⟨c, hc, hm⟩ := atI_mem (l := tl z) h0 (by rw [← len_tl]; exact h1)
    refine ⟨z, r, c, rfl, rfl, (by show z.length ≤ 16777216; omega), hc, _, _, rfl, rfl, (by show t.length + 1 ≤ 16777216; omega), ?_⟩
    refine ⟨_, _, rfl, B2, k1.trans k2, fun d hd => ?_, ?_⟩
    · rw [tl_append, tl_sgn] at hd
      rcases List.mem_append.mp hd with hd | hd
      · exact ht d hd
      · rw [List.mem_singleton.mp hd]; exact hm
    · rw [len_tl, tl_append, tl_sgn, List.length_append, List.length_singleton, ← len_tl, hl]
  · rintro σ H1 ⟨t, kv, rfl, B1, k1, ht, hl⟩
    exact ⟨_, rfl, q t H1 ht (by omega) B1 k1⟩
end

def ySpLaw (K : PySem.W.Frag) : Sp := fun vs H Q _ => ∃ (a : Addr) (ns : List Int), vs = [.ref a] ∧ SqL K H a (ns.map V.int) ∧ ns.length ≤ 63 ∧ ∀ H', Q (.bl true) H'
theorem box_new {H1 : Hp} {p bx : Addr} {ds : List Int} (hp : H1 p = some (.lst (ds.map V.int))) (hb : H1 bx = none) : BoxAt (upd H1 bx (.lst [.ref p, .int 0])) bx p :=
  ⟨ds, 0, upd_same, by rw [upd_ne (ne_of_none hp hb)]; exact hp⟩
theorem pick2 {a b : V} {r : Int} (h0 : 0 ≤ r) (h1 : r < 2) : atI [a, b] r = some (if r = 0 then a else b) := by
  by_cases e : r = 0
  · subst e; rfl
  · have e1 : r = 1 := by omega
    subst e1; rfl
theorem pick2i {x y r : Int} (h0 : 0 ≤ r) (h1 : r < 2) : atI [V.int x, V.int y] r = some (V.int (if r = 0 then x else y)) := by
  rw [pick2 h0 h1]; split <;> rfl
theorem pick2s {x y : Str} {r : Int} (h0 : 0 ≤ r) (h1 : r < 2) : atI [V.str x, V.str y] r = some (V.str (if r = 0 then x else y)) := by
  rw [pick2 h0 h1]; split <;> rfl
theorem atI_map {α β : Type} {f : α → β} {l : List α} {r : Int} {x : α} (h0 : 0 ≤ r) (h : atI l r = some x) : atI (l.map f) r = some (f x) := by
  obtain ⟨n, rfl⟩ := Int.eq_ofNat_of_zero_le h0
  by_cases hn : n < l.length
  · have e : atI l (n : Int) = some l[n] := atI_nat (List.getElem?_eq_getElem hn)
    have e2 : l[n] = x := Option.some.inj (e.symm.trans h)
    exact atI_nat (by rw [List.getElem?_map, List.getElem?_eq_getElem hn, e2]; rfl)
  · unfold atI ixN at h
    rw [if_pos h0, if_neg (by omega)] at h
    cases h
def othersS : Str := " \n!\"#$&'()*+,-./:;<=>?\x40[\\]^_`{|}~"
def largeS : Str := "ABCDEFGHIJKLMNOPQRSTUVWXYZ0123456789"
theorem others_ok : ∀ c ∈ tl othersS, c < 128 ∧ gl c = 32 := by decide +kernel
theorem large_gl : (tl largeS).map gl = tl smallL := by decide +kernel
theorem small_gl : (tl smallL).map gl = tl smallL := by decide +kernel
theorem large_lt : ∀ c ∈ tl largeS, c < 128 := by decide +kernel
theorem small_lt : ∀ c ∈ tl smallL, c < 128 := by decide +kernel
theorem both_at {r d : Int} (h0 : 0 ≤ r) (h1 : r < 36) : ∃ c e, atI (tl (if d = 0 then smallL else largeS)) r = some c ∧ c < 128 ∧ gl c = e ∧ atI (tl smallL) r = some e ∧ e ∈ tl smallS := by
  by_cases hd : d = 0
  · rw [if_pos hd]
    obtain ⟨c, hc, hm⟩ := atI_mem (l := tl smallL) h0 h1
    have e := atI_map (f := gl) h0 hc
    rw [small_gl, hc] at e
    have e2 : c = gl c := Option.some.inj e
    exact ⟨c, c, hc, small_lt c hm, e2.symm, hc, small_LS c hm⟩
  · rw [if_neg hd]
    obtain ⟨c, hc, hm⟩ := atI_mem (l := tl largeS) h0 h1
    have e := atI_map (f := gl) h0 hc
    rw [large_gl] at e
    refine ⟨c, gl c, hc, large_lt c hm, rfl, e, small_LS _ ?_⟩
    rw [← large_gl]
    exact List.mem_map_of_mem hm
theorem small_sp : ∀ c ∈ tl smallS, Unicode.isSpace c = false := by decide +kernel
theorem sp32 : Unicode.isSpace 32 = true := by decide +kernel
theorem blanks {L : List (List Nat)} : ∀ l : List Nat, (∀ c ∈ l, gl c = 32) → (l.map gl).foldl wstep (L, []) = (L, [])
  | [], _ => rfl
  | c :: r, h => by
    rw [List.map_cons, List.foldl_cons, h c List.mem_cons_self]
    have e : wstep (L, []) 32 = (L, []) := by
      unfold wstep
      rw [if_pos sp32]; rfl
    rw [e]
    exact blanks r fun d hd => h d (List.mem_cons_of_mem _ hd)
theorem blanks1 {L : List (List Nat)} {u : List Nat} (hu : u ≠ []) : ∀ l : List Nat, l ≠ [] → (∀ c ∈ l, gl c = 32) → (l.map gl).foldl wstep (L, u) = (L ++ [u], [])
  | [], h, _ => absurd rfl h
  | c :: r, _, h => by
    rw [List.map_cons, List.foldl_cons, h c List.mem_cons_self]
    have e : wstep (L, u) 32 = (L ++ [u], []) := by
      unfold wstep
      rw [if_pos sp32]
      exact if_neg hu
    rw [e]
    exact blanks r fun d hd => h d (List.mem_cons_of_mem _ hd)
/-- a text whose words are told by dws -/
structure TextIs (t : Str) (dws : List Str) : Prop where
  asc : ∀ c ∈ tl t, c < 128
  st : ∃ L, ((tl t).map gl).foldl wstep ([], []) = (L, []) ∧ L.map (·.take 12) = dws.map tl
structure RunIs (r w : Str) : Prop where
  asc : ∀ c ∈ tl r, c < 128
  gl : (tl r).map gl = tl w
  sm : ∀ c ∈ tl w, c ∈ tl smallS
theorem TextIs.first {t : Str} (h : ∀ c ∈ tl t, c ∈ tl othersS) : TextIs t [] :=
  ⟨fun c hc => (others_ok c (h c hc)).1, [], blanks _ fun c hc => (others_ok c (h c hc)).2, rfl⟩
theorem TextIs.more {t r w s : Str} {dws : List Str} (T : TextIs t dws) (R : RunIs r w) (hw : 0 < w.length) (hs : ∀ c ∈ tl s, c ∈ tl othersS) (hs0 : 0 < s.length) : TextIs (t ++ r ++ s) (dws ++ [cutS w none (some 12)]) := by
  obtain ⟨L, e1, e2⟩ := T.st
  refine ⟨fun c hc => ?_, L ++ [tl w], ?_, ?_⟩
  · rw [tl_append, tl_append] at hc
    rcases List.mem_append.mp hc with hc | hc
    · rcases List.mem_append.mp hc with hc | hc
      · exact T.asc c hc
      · exact R.asc c hc
    · exact (others_ok c (hs c hc)).1
  · rw [tl_append, tl_append, List.map_append, List.map_append, List.foldl_append, List.foldl_append, e1, R.gl, wfold_word _ _ _ fun c hc => small_sp c (R.sm c hc), List.nil_append]
    refine blanks1 (fun e => ?_) _ (fun e => ?_) fun c hc => (others_ok c (hs c hc)).2
    · rw [len_tl, e] at hw; exact absurd hw (Nat.lt_irrefl _)
    · rw [len_tl, e] at hs0; exact absurd hs0 (Nat.lt_irrefl _)
  · rw [List.map_append, List.map_append, e2]
    exact congrArg (fun z => dws.map tl ++ [z]) (cut_take w 12).symm
theorem TextIs.words {t : Str} {dws : List Str} (T : TextIs t dws) : wordsL (tl t) = dws.map tl := by
  obtain ⟨L, e1, e2⟩ := T.st
  rw [wordsL, e1, ← e2]
  rfl
theorem TextIs.last {t : Str} {dws : List Str} (T : TextIs t dws) : wordsL (tl (t ++ ("z9Z" : Str))) = (dws ++ [("z9z" : Str)]).map tl := by
  obtain ⟨L, e1, e2⟩ := T.st
  rw [wordsL, tl_append, List.map_append, List.foldl_append, e1]
  have e3 : (tl ("z9Z" : Str)).map gl = tl ("z9z" : Str) := by decide +kernel
  have e4 : ∀ c ∈ tl ("z9z" : Str), Unicode.isSpace c = false := by decide +kernel
  rw [e3, wfold_word _ _ _ e4, List.nil_append]
  have e5 : wfin (L, tl ("z9z" : Str)) = L ++ [tl ("z9z" : Str)] := if_neg (show ¬ tl ("z9z" : Str) = [] by decide +kernel)
  rw [e5, List.map_append, List.map_append, e2]
  exact congrArg (fun z => dws.map tl ++ [z]) (by decide +kernel)
theorem RunIs.more {r w : Str} {c d : Nat} (R : RunIs r w) (h1 : c < 128) (h2 : _root_.Z.gl c = d) (h3 : d ∈ tl smallS) : RunIs (r ++ (⟨#[c]⟩ : Str)) (w ++ (⟨#[d]⟩ : Str)) := by
  refine ⟨fun e he => ?_, ?_, fun e he => ?_⟩
  · rw [tl_append, tl_sgn] at he
    rcases List.mem_append.mp he with he | he
    · exact R.asc e he
    · rw [List.mem_singleton.mp he]; exact h1
  · rw [tl_append, tl_append, List.map_append, R.gl, tl_sgn, tl_sgn, List.map_singleton, h2]
  · rw [tl_append, tl_sgn] at he
    rcases List.mem_append.mp he with he | he
    · exact R.sm e he
    · rw [List.mem_singleton.mp he]; exact h3
section
variable {P : Program} {w : World} {K : PySem.W.Frag} {mg : Str → Option Value} {base : Heap} {A : Nat → Addr} {D : Nat → FuncData}
theorem ok_law (T : Txt K mg A D) : FnOk P w K mg base CX0 4 (A 6) (D 6) ["script"] (ySpLaw K) := by
  refine T.F_law.ok sc_law (fun vs H Q E h => ?_) (fun cdv A' outer s H vs Q E hr h => ?_)
  · obtain ⟨a, ns, rfl, _⟩ := h; rfl
  obtain ⟨a, ns, rfl, hS, hn, q⟩ := h
  have hnd := sc_law.nd
  have G__law_draw := ok_draw (P := P) (w := w) (base := base) T
  have G__law_digits := ok_digits (P := P) (w := w) (base := base) T
  have G__law_run := ok_run (P := P) (w := w) (base := base) T
  have G__law_same := ok_same (P := P) (w := w) (base := base) T 2
  have G_words_of := ok_words_of (P := P) (w := w) (base := base) T
  refine ⟨_, (pss_cons (ps_set (i := 1) hnd rfl (Or.inl rfl) (pe_lst (pa_cons (pe_call G__law_digits (hr.mono (by first | decide | omega)) rfl T.m__law_digits T.F__law_digits.kp T.b__law_digits .nil pass0 (pa_cons (pv 0) (pa_cons pe_int (pa_cons pe_int pa_nil)))) (pa_cons pe_int pa_nil)))) (pss_cons (ps_set (i := 2) hnd rfl (Or.inl rfl) pe_str) (pss_cons (ps_set (i := 3) hnd rfl (Or.inl rfl) (pe_call G__law_run (hr.mono (by first | decide | omega)) rfl T.m__law_run T.F__law_run.kp T.b__law_run .nil pass0 (pa_cons (pv 1) (pa_cons (pe_call G__law_draw (hr.mono (by first | decide | omega)) rfl T.m__law_draw T.F__law_draw.kp T.b__law_draw .nil pass0 (pa_cons (pv 1) (pa_cons pe_int pa_nil))) (pa_cons (pv 2) pa_nil))))) (pss_cons (ps_set (i := 4) hnd rfl (Or.inl rfl) (pe_lst pa_nil)) (pss_cons (ps_for PassesOwn.never rfl (pi_range1 rfl T.z_range (pa_cons (pe_call G__law_draw (hr.mono (by first | decide | omega)) rfl T.m__law_draw T.F__law_draw.kp T.b__law_draw .nil pass0 (pa_cons (pv 1) (pa_cons pe_int pa_nil))) pa_nil)) (pg_name (i := 5) hnd rfl (Or.inl rfl)) (pss_cons (ps_set (i := 6) hnd rfl (Or.inl rfl) pe_str) (pss_cons (ps_set (i := 7) hnd rfl (Or.inl rfl) pe_str) (pss_cons (ps_set (i := 8) hnd rfl (Or.inl rfl) pe_str) (pss_cons (ps_set (i := 9) hnd rfl (Or.inl rfl) pe_str) (pss_cons (ps_for PassesOwn.never rfl (pi_range1 rfl T.z_range (pa_cons (pe_op op_add pe_int (pe_call G__law_draw (hr.mono (by first | decide | omega)) rfl T.m__law_draw T.F__law_draw.kp T.b__law_draw .nil pass0 (pa_cons (pv 1) (pa_cons (pe_ix (r := rIxL K) ix_list (pe_lst (pa_cons pe_int (pa_cons pe_int pa_nil))) (pe_call G__law_draw (hr.mono (by first | decide | omega)) rfl T.m__law_draw T.F__law_draw.kp T.b__law_draw .nil pass0 (pa_cons (pv 1) (pa_cons pe_int pa_nil))) (fun _ _ => rfl)) pa_nil)))) pa_nil)) (pg_name (i := 10) hnd rfl (Or.inl rfl)) (pss_cons (ps_set (i := 11) hnd rfl (Or.inl rfl) (pe_call G__law_draw (hr.mono (by first | decide | omega)) rfl T.m__law_draw T.F__law_draw.kp T.b__law_draw .nil pass0 (pa_cons (pv 1) (pa_cons pe_int pa_nil)))) (pss_cons (ps_set (i := 8) hnd rfl (Or.inl rfl) (pe_op op_add_str (pv 8) (pe_ix ix_str (pe_ix (r := rIxL K) ix_list (pe_lst (pa_cons (pv 6) (pa_cons (pv 7) pa_nil))) (pe_call G__law_draw (hr.mono (by first | decide | omega)) rfl T.m__law_draw T.F__law_draw.kp T.b__law_draw .nil pass0 (pa_cons (pv 1) (pa_cons pe_int pa_nil))) (fun _ _ => rfl)) (pv 11) (fun _ _ => rfl)))) (pss_one (ps_set (i := 9) hnd rfl (Or.inl rfl) (pe_op op_add_str (pv 9) (pe_ix ix_str (pv 6) (pv 11) (fun _ _ => rfl)))))))) (pss_cons (ps_expr (pe_bm PySem.F.plainAttrs_list PySem.F.slot_list_append PySem.F.type_list_append mt_append (pv 4) (pa_cons (pe_slice sl_str (pv 9) po_none (po_some pe_int)) pa_nil))) (pss_one (ps_set (i := 3) hnd rfl (Or.inl rfl) (pe_op op_add_str (pe_op op_add_str (pv 3) (pv 8)) (pe_call G__law_run (hr.mono (by first | decide | omega)) rfl T.m__law_run T.F__law_run.kp T.b__law_run .nil pass0 (pa_cons (pv 1) (pa_cons (pe_op op_add pe_int (pe_call G__law_draw (hr.mono (by first | decide | omega)) rfl T.m__law_draw T.F__law_draw.kp T.b__law_draw .nil pass0 (pa_cons (pv 1) (pa_cons pe_int pa_nil)))) (pa_cons (pv 2) pa_nil)))))))))))))) (pss_cons (ps_if (PW.pt (pw_and (pt_cmpR op_eq (pe_call G__law_draw (hr.mono (by first | decide | omega)) rfl T.m__law_draw T.F__law_draw.kp T.b__law_draw .nil pass0 (pa_cons (pv 1) (pa_cons pe_int pa_nil))) pe_int (nomark _)) (pw_and1 (pt_cmpR op_gt (pe_callB call_len_seq rfl T.z_len PySem.boot_len (pa_cons (pv 4) pa_nil)) pe_int (nomark _))))) (pss_cons (ps_set (i := 3) hnd rfl (Or.inl rfl) (pe_op op_add_str (pv 3) pe_str)) (pss_one (ps_expr (pe_bm PySem.F.plainAttrs_list PySem.F.slot_list_append PySem.F.type_list_append mt_append (pv 4) (pa_cons pe_str pa_nil))))) pss_nil) (pss_one (ps_ret (pe_call G__law_same (hr.mono (by first | decide | omega)) rfl T.m__law_same T.F__law_same.kp T.b__law_same .nil pass0 (pa_cons (pe_call G_words_of (hr.mono (by first | decide | omega)) rfl T.m_words_of T.F_words_of.kp T.b_words_of .nil pass0 (pa_cons (pv 3) pa_nil)) (pa_cons (pv 4) pa_nil))))))))))), ?_⟩
  refine ⟨_, rfl, a, ns, rfl, hS, fun p ds H1 s1 hp0 hp1 hl => ⟨(by show 2 ≤ sizeLine; decide), fun b hb => ?_⟩⟩
  have B1 := box_new hp1 hb
  refine ⟨_, rfl, _, rfl, b, p, _, rfl, B1, (by decide), fun r1 H2 h0 h1 B2 k2 => ⟨_, rfl, b, p, r1, othersS, rfl, B2, (by decide +kernel), (by decide +kernel), h0, (by omega), fun t0 H3 ht0 hl0 B3 k3 => ?_⟩⟩
  refine ⟨(by decide), fun d hd => ?_⟩
  obtain ⟨hdb, hdp⟩ := B3.ne hd
  have fin : ∀ (t : Str) (dws : List Str) (H' : Hp) (cs : List (Option V)), H' d = some (.lst (dws.map V.str)) → wordsL (tl t) = dws.map tl → (∀ c ∈ tl t, c < 128) → t.length ≤ 2000 → dws.length ≤ 100 →
      tCall (ySame K 2) [] E0 (tCons (tCall (yWords K) [] E0 (tCons (tVar 3) tNil)) (tCons (tVar 4) tNil)) (some (.ref a) :: some (.ref b) :: some (.str othersS) :: some (.str t) :: some (.ref d) :: cs) H' Q := by
    intro t dws H' cs hd' he ha hl1 hl2
    refine ⟨_, rfl, t, rfl, by omega, ha, fun r ws H5 s5 hr0 hr1 hw => ⟨_, rfl, .ref r, .ref d, .list (ws.map .str), rfl, .lst (SqL.of hr1) (DpAll.strs ws), .lst (SqL.of (s5 _ _ hd')) ?_, ?_, q _⟩⟩
    · have e : ws = dws := map_tl_inj (hw.trans he)
      rw [e]; exact DpAll.strs dws
    · have e : ws = dws := map_tl_inj (hw.trans he)
      rw [e]
      refine ⟨by rw [List.length_map]; omega, fun x hx => ?_⟩
      obtain ⟨y, _, rfl⟩ := List.mem_map.mp hx
      exact True.intro
  refine ⟨_, rfl, b, p, _, rfl, B3.keep (same_new hd), (by decide), fun r2 H4 h20 h21 B4 k4 => ⟨r2, rfl, by omega, by omega, ?_⟩⟩
  have hd4 := k4 _ _ upd_same hdb
  refine for_range (n := r2.toNat) (fun i σ H' => ∃ (t : Str) (dws : List Str) (c5 c6 c7 c8 c9 c10 c11 : Option V), σ = [some (.ref a), some (.ref b), some (.str othersS), some (.str t), some (.ref d), c5, c6, c7, c8, c9, c10, c11] ∧ BoxAt H' b p ∧ H' d = some (.lst (dws.map V.str)) ∧ TextIs t dws ∧ t.length ≤ 3 + 40 * i ∧ dws.length ≤ i)
    ⟨t0, [], _, _, _, _, _, _, _, rfl, B4, hd4, TextIs.first ht0, by omega, Nat.le_refl _⟩ ?_ ?_
  · rintro i σ H5 hi ⟨t, dws, c5, c6, c7, c8, c9, c10, c11, rfl, B5, hd5, T5, l5, n5⟩
    refine ⟨_, rfl, (by show 2 ≤ sizeLine; decide), fun l4 hl4 => ⟨_, rfl, b, p, _, rfl, B5.keep (same_new hl4), (by decide), fun r3 H6 h30 h31 B6 k6 => ⟨l4, _, r3, _, rfl, rfl, SqL.of (k6 _ _ upd_same (B5.ne hl4).1), pick2i h30 h31, b, p, _, rfl, B6, (by split <;> decide), fun r4 H7 h40 h41 B7 k7 => ?_⟩⟩⟩
    have h42 : r4 < 16 := by split at h41 <;> omega
    have hd7 := k7 _ _ (k6 _ _ (same_new hl4 _ _ hd5) hdb) hdb
    refine ⟨_, _, rfl, rfl, _, rfl, (by omega), (by omega), ?_⟩
    refine for_range (n := (1 + r4).toNat) (fun j σ H' => ∃ (rr ww : Str) (c10 c11 : Option V), σ = [some (.ref a), some (.ref b), some (.str othersS), some (.str t), some (.ref d), some (.int (0 + (i : Int))), some (.str smallL), some (.str largeS), some (.str rr), some (.str ww), c10, c11] ∧ BoxAt H' b p ∧ H' d = some (.lst (dws.map V.str)) ∧ RunIs rr ww ∧ rr.length = j ∧ ww.length = j)
      ⟨_, _, _, _, rfl, B7, hd7, ⟨fun c hc => (nomatch (show c ∈ ([] : List Nat) from hc)), rfl, fun c hc => (nomatch (show c ∈ ([] : List Nat) from hc))⟩, rfl, rfl⟩ ?_ ?_
    · rintro j σ H8 hj ⟨rr, ww, c10, c11, rfl, B8, hd8, R8, lr, lw⟩
      refine ⟨_, rfl, b, p, _, rfl, B8, (by decide), fun r5 H9 h50 h51 B9 k9 => ?_⟩
      have hd9 := k9 _ _ hd8 hdb
      refine ⟨_, rfl, _, rfl, _, rfl, (by show 2 ≤ sizeLine; decide), fun l5 hl5 => ⟨_, rfl, b, p, _, rfl, B9.keep (same_new hl5), (by decide), fun r6 H10 h60 h61 B10 k10 => ?_⟩⟩
      obtain ⟨c, e, hc, hc128, hgl, he, hes⟩ := both_at (d := r6) h50 h51
      have hd10 := k10 _ _ (same_new hl5 _ _ hd9) hdb
      refine ⟨l5, _, r6, _, rfl, rfl, SqL.of (k10 _ _ upd_same (B9.ne hl5).1), pick2s (x := smallL) (y := largeS) h60 h61, _, rfl, _, r5, c, rfl, rfl, (by split <;> decide +kernel), hc, _, _, rfl, rfl, (by show rr.length + 1 ≤ 16777216; omega), ?_⟩
      refine ⟨_, rfl, _, rfl, _, rfl, smallL, r5, e, rfl, rfl, (by decide +kernel), he, _, _, rfl, rfl, (by show ww.length + 1 ≤ 16777216; omega), ?_⟩
      exact ⟨_, _, _, _, rfl, B10, hd10, R8.more hc128 hgl hes, by rw [len_tl, tl_append, tl_sgn, List.length_append, List.length_singleton, ← len_tl, lr], by rw [len_tl, tl_append, tl_sgn, List.length_append, List.length_singleton, ← len_tl, lw]⟩
    · rintro σ H8 ⟨rr, ww, c10, c11, rfl, B8, hd8, R8, lr, lw⟩
      refine ⟨_, rfl, .inl ⟨rfl, _, SqL.of hd8⟩, _, rfl, 12, rfl, ww, rfl, (by show ww.length ≤ 16777216; omega), d, _, _, rfl, rfl, hd8, (by rw [List.length_map]; exact len_lt (by omega)), ?_⟩
      refine ⟨_, rfl, _, rfl, _, _, rfl, rfl, (by show t.length + rr.length ≤ 16777216; omega), _, rfl, _, rfl, b, p, _, rfl, B8.updO hdb hdp, (by decide), fun r7 H12 h70 h71 B12 k12 => ?_⟩
      refine ⟨_, _, rfl, rfl, _, rfl, b, p, _, othersS, rfl, B12, (by decide +kernel), (by decide +kernel), (by omega), (by omega), fun t2 H13 ht2 hl2 B13 k13 => ?_⟩
      have lt2 : (t ++ rr ++ t2).length = t.length + rr.length + t2.length := by
        rw [len_tl, tl_append, tl_append, List.length_append, List.length_append, ← len_tl, ← len_tl, ← len_tl]
      have ltr : (t ++ rr).length = t.length + rr.length := by
        rw [len_tl, tl_append, List.length_append, ← len_tl, ← len_tl]
      refine ⟨_, _, rfl, rfl, (by rw [ltr]; show _ ≤ 16777216; omega), ?_⟩
      refine ⟨_, dws ++ [cutS ww none (some 12)], _, _, _, _, _, _, _, rfl, B13, ?_, T5.more R8 (by omega) ht2 (by omega), by rw [lt2]; omega, by rw [List.length_append, List.length_singleton]; omega⟩
      rw [k13 _ _ (k12 _ _ upd_same hdb) hdb, List.map_append]
      rfl
  · rintro σ H5 ⟨t, dws, c5, c6, c7, c8, c9, c10, c11, rfl, B5, hd5, T5, l5, n5⟩
    refine ⟨_, rfl, b, p, _, rfl, B5, (by decide), fun r8 H6 h80 h81 B6 k6 => ⟨rfl, _, rfl, ?_⟩⟩
    have hd6 := k6 _ _ hd5 hdb
    have skip := fun cs => fin t dws H6 cs hd6 T5.words T5.asc (by omega) (by omega)
    refine ite2 (fun _ => ?_) (fun _ => ?_)
    · refine ⟨_, rfl, d, _, rfl, .inl (SqL.of hd6), _, _, rfl, rfl, _, rfl, ?_⟩
      refine ite2 (fun _ => ?_) (fun _ => ?_)
      · refine ⟨_, rfl, _, _, rfl, rfl, (by show t.length + 3 ≤ 16777216; omega), ?_⟩
        refine ⟨_, rfl, .inl ⟨rfl, _, SqL.of hd6⟩, d, _, _, rfl, rfl, hd6, (by rw [List.length_map]; exact len_lt (by omega)), ?_⟩
        refine fin (t ++ ("z9Z" : Str)) (dws ++ [("z9z" : Str)]) _ _ (by rw [upd_same, List.map_append]; rfl) T5.last (fun c hc => ?_) (by rw [len_tl, tl_append, List.length_append, ← len_tl]; show t.length + 3 ≤ _; omega) (by rw [List.length_append, List.length_singleton]; omega)
        rw [tl_append] at hc
        rcases List.mem_append.mp hc with hc | hc
        · exact T5.asc c hc
        · exact (by decide +kernel : ∀ c ∈ tl ("z9Z" : Str), c < 128) c hc
      · exact skip _
    · exact skip _
end

theorem all_mk {l : PySem.W.OpenLaw} {w : World} {K : PySem.W.Frag} {h : Heap} {mg : Str → Option Value} {fa f0 f1 f2 f3 f4 f5 f6 : Addr} (X : K.In h) (G : h.Ns mainGlobals mg) (hfa : mg "law" = some (.ref fa))
    {od0 od1 od2 od3 od4 od5 od6 an0 an1 an2 an3 an4 an5 an6 : Option Addr} {sl0 sl1 sl2 sl3 sl4 sl5 sl6 : Array (Option Value)} {oc0 oc1 oc2 oc3 oc4 oc5 oc6 kV0 kV1 kV2 kV3 kV4 kV5 kV6 dc0 dc1 dc2 dc3 dc4 dc5 dc6 pm0 pm1 pm2 pm3 pm4 pm5 pm6 cd0 cd1 cd2 cd3 cd4 cd5 cd6 ct0 ct1 ct2 ct3 ct4 ct5 ct6 : Value} {t0 t1 : Tok}
    (a0 : PySem.W.nsIn K mainGlobals "words_of" = some (some (.ref f0))) (l0 : K.lookup f0 = some ⟨oc0, od0, .func (PySem.W.fnOf "words_of" "words_of" (defArgs s_words_of) (defBody s_words_of) (defScope s_words_of) .none kV0 dc0 pm0 an0 cd0 ct0), sl0⟩) (c0 : PySem.W.codeIn K cd0 "words_of" = true) (k0 : PySem.W.keepIn K (.ref f0) = true)
    (a1 : PySem.W.nsIn K mainGlobals "_law_cell" = some (some (.ref f1))) (l1 : K.lookup f1 = some ⟨oc1, od1, .func (PySem.W.fnOf "_law_cell" "_law_cell" (defArgs s__law_cell) (defBody s__law_cell) (defScope s__law_cell) .none kV1 dc1 pm1 an1 cd1 ct1), sl1⟩) (c1 : PySem.W.codeIn K cd1 "_law_cell" = true) (k1 : PySem.W.keepIn K (.ref f1) = true)
    (a2 : PySem.W.nsIn K mainGlobals "_law_digits" = some (some (.ref f2))) (l2 : K.lookup f2 = some ⟨oc2, od2, .func (PySem.W.fnOf "_law_digits" "_law_digits" (defArgs s__law_digits) (defBody s__law_digits) (defScope s__law_digits) .none kV2 dc2 pm2 an2 cd2 ct2), sl2⟩) (c2 : PySem.W.codeIn K cd2 "_law_digits" = true) (k2 : PySem.W.keepIn K (.ref f2) = true)
    (a3 : PySem.W.nsIn K mainGlobals "_law_draw" = some (some (.ref f3))) (l3 : K.lookup f3 = some ⟨oc3, od3, .func (PySem.W.fnOf "_law_draw" "_law_draw" (defArgs s__law_draw) (defBody s__law_draw) (defScope s__law_draw) .none kV3 dc3 pm3 an3 cd3 ct3), sl3⟩) (c3 : PySem.W.codeIn K cd3 "_law_draw" = true) (k3 : PySem.W.keepIn K (.ref f3) = true)
    (a4 : PySem.W.nsIn K mainGlobals "_law_same" = some (some (.ref f4))) (l4 : K.lookup f4 = some ⟨oc4, od4, .func (PySem.W.fnOf "_law_same" "_law_same" (defArgs s__law_same) (defBody s__law_same) (defScope s__law_same) .none kV4 dc4 pm4 an4 cd4 ct4), sl4⟩) (c4 : PySem.W.codeIn K cd4 "_law_same" = true) (k4 : PySem.W.keepIn K (.ref f4) = true)
    (a5 : PySem.W.nsIn K mainGlobals "_law_run" = some (some (.ref f5))) (l5 : K.lookup f5 = some ⟨oc5, od5, .func (PySem.W.fnOf "_law_run" "_law_run" (defArgs s__law_run) (defBody s__law_run) (defScope s__law_run) .none kV5 dc5 pm5 an5 cd5 ct5), sl5⟩) (c5 : PySem.W.codeIn K cd5 "_law_run" = true) (k5 : PySem.W.keepIn K (.ref f5) = true)
    (a6 : PySem.W.nsIn K mainGlobals "law" = some (some (.ref f6))) (l6 : K.lookup f6 = some ⟨oc6, od6, .func (PySem.W.fnOf "law" "law" (defArgs s_law) (defBody s_law) (defScope s_law) .none kV6 dc6 pm6 an6 cd6 ct6), sl6⟩) (c6 : PySem.W.codeIn K cd6 "law" = true) (k6 : PySem.W.keepIn K (.ref f6) = true)
    (gc0 : PySem.W.nsIn K mainGlobals "SMALL" = some (some (.str "0123456789abcdefghijklmnopqrstuvwxyz" t0)))
    (gc1 : PySem.W.nsIn K mainGlobals "LONGEST" = some (some (.int 12 t1)))
    (z0 : PySem.W.nsIn K mainGlobals "bool" = some none)
    (z1 : PySem.W.nsIn K mainGlobals "int" = some none)
    (z2 : PySem.W.nsIn K mainGlobals "isinstance" = some none)
    (z3 : PySem.W.nsIn K mainGlobals "len" = some none)
    (z4 : PySem.W.nsIn K mainGlobals "list" = some none)
    (z5 : PySem.W.nsIn K mainGlobals "range" = some none)
    (z6 : PySem.W.nsIn K mainGlobals "str" = some none)
    (z7 : PySem.W.nsIn K mainGlobals "tuple" = some none)
    : ∃ fd : FuncData, (∀ (s : Shared) (v : Value), BindsTo s fd ⟨[v], []⟩ [("script", v)]) ∧ ∀ base : Heap, K.In base → base.Ns mainGlobals mg → FnOk l.prog w K mg base CX0 4 fa fd ["script"] (ySpLaw K) := by
  have e := hfa.symm.trans (PySem.W.mg_of X G a6)
  cases e
  have F0 := fun_mk (st := s_words_of) l0 c0 k0
  have F1 := fun_mk (st := s__law_cell) l1 c1 k1
  have F2 := fun_mk (st := s__law_digits) l2 c2 k2
  have F3 := fun_mk (st := s__law_draw) l3 c3 k3
  have F4 := fun_mk (st := s__law_same) l4 c4 k4
  have F5 := fun_mk (st := s__law_run) l5 c5 k5
  have F6 := fun_mk (st := s_law) l6 c6 k6
  have b0 := F0.binds (ps := ["text"]) fun _ _ _ _ _ _ us hl => match us, hl with | [_], _ => rfl
  have b1 := F1.binds (ps := ["script", "k"]) fun _ _ _ _ _ _ us hl => match us, hl with | [_, _], _ => rfl
  have b2 := F2.binds (ps := ["script", "first", "last"]) fun _ _ _ _ _ _ us hl => match us, hl with | [_, _, _], _ => rfl
  have b3 := F3.binds (ps := ["box", "many"]) fun _ _ _ _ _ _ us hl => match us, hl with | [_, _], _ => rfl
  have b4 := F4.binds (ps := ["actual", "due"]) fun _ _ _ _ _ _ us hl => match us, hl with | [_, _], _ => rfl
  have b5 := F5.binds (ps := ["box", "many", "chars"]) fun _ _ _ _ _ _ us hl => match us, hl with | [_, _, _], _ => rfl
  have b6 := F6.binds (ps := ["script"]) fun _ _ _ _ _ _ us hl => match us, hl with | [_], _ => rfl
  let AA : Nat → Addr := fun i => match i with | 0 => f0 | 1 => f1 | 2 => f2 | 3 => f3 | 4 => f4 | 5 => f5 | 6 => fa | _ => fa
  let DD : Nat → FuncData := fun i => match i with | 0 => PySem.W.fnOf "words_of" "words_of" (defArgs s_words_of) (defBody s_words_of) (defScope s_words_of) .none kV0 dc0 pm0 an0 cd0 ct0 | 1 => PySem.W.fnOf "_law_cell" "_law_cell" (defArgs s__law_cell) (defBody s__law_cell) (defScope s__law_cell) .none kV1 dc1 pm1 an1 cd1 ct1 | 2 => PySem.W.fnOf "_law_digits" "_law_digits" (defArgs s__law_digits) (defBody s__law_digits) (defScope s__law_digits) .none kV2 dc2 pm2 an2 cd2 ct2 | 3 => PySem.W.fnOf "_law_draw" "_law_draw" (defArgs s__law_draw) (defBody s__law_draw) (defScope s__law_draw) .none kV3 dc3 pm3 an3 cd3 ct3 | 4 => PySem.W.fnOf "_law_same" "_law_same" (defArgs s__law_same) (defBody s__law_same) (defScope s__law_same) .none kV4 dc4 pm4 an4 cd4 ct4 | 5 => PySem.W.fnOf "_law_run" "_law_run" (defArgs s__law_run) (defBody s__law_run) (defScope s__law_run) .none kV5 dc5 pm5 an5 cd5 ct5 | 6 => PySem.W.fnOf "law" "law" (defArgs s_law) (defBody s_law) (defScope s_law) .none kV6 dc6 pm6 an6 cd6 ct6 | _ => PySem.W.fnOf "law" "law" (defArgs s_law) (defBody s_law) (defScope s_law) .none kV6 dc6 pm6 an6 cd6 ct6
  have T : Txt K mg AA DD := { F_words_of := F0, b_words_of := b0, m_words_of := PySem.W.mg_of X G a0, F__law_cell := F1, b__law_cell := b1, m__law_cell := PySem.W.mg_of X G a1, F__law_digits := F2, b__law_digits := b2, m__law_digits := PySem.W.mg_of X G a2, F__law_draw := F3, b__law_draw := b3, m__law_draw := PySem.W.mg_of X G a3, F__law_same := F4, b__law_same := b4, m__law_same := PySem.W.mg_of X G a4, F__law_run := F5, b__law_run := b5, m__law_run := PySem.W.mg_of X G a5, F_law := F6, b_law := b6, m_law := PySem.W.mg_of X G a6, c_SMALL := ⟨t0, PySem.W.mg_of X G gc0⟩, c_LONGEST := ⟨t1, PySem.W.mg_of X G gc1⟩, z_bool := PySem.W.mg_none_of X G z0, z_int := PySem.W.mg_none_of X G z1, z_isinstance := PySem.W.mg_none_of X G z2, z_len := PySem.W.mg_none_of X G z3, z_list := PySem.W.mg_none_of X G z4, z_range := PySem.W.mg_none_of X G z5, z_str := PySem.W.mg_none_of X G z6, z_tuple := PySem.W.mg_none_of X G z7 }
  exact ⟨DD 6, fun s v => .of_eq rfl, fun base _ _ => ok_law (A := AA) (D := DD) T⟩
theorem walk {l : PySem.W.OpenLaw} {q : Program} {loose : List Str} {XP : (Str → Option Value) → Heap → Prop} {YP : World → Heap → Prop} {d : DefRec} {K : Params → PySem.W.Frag} (hn : l.most = some 63) (hdf : d.params.defaults = [])
    (hY : ∀ (w : World) (h : Heap), YP w h → (K w.params).In h)
    (F : ∀ (w : World) (mg : Str → Option Value) (fa : Addr) (h : Heap), (K w.params).In h → h.Ns mainGlobals mg → mg d.name = some (.ref fa) →
      ∃ fd : FuncData, (∀ (s : Shared) (u : Value), BindsTo s fd ⟨[u], []⟩ [("script", u)]) ∧ ∀ base : Heap, (K w.params).In base → base.Ns mainGlobals mg → FnOk l.prog w (K w.params) mg base CX0 4 fa fd ["script"] (ySpLaw (K w.params))) :
    PySem.W.WalkO q loose XP YP l.row.toRowW d [] (fun f vs => PySem.call f vs) :=
  L2.walk_of (n := 63) (k := 4) (x := "script") (CX := fun _ => CX0) (sp := fun w => ySpLaw (K w.params)) hn (by decide) hdf ⟨rfl, by decide, by decide⟩ hY F (fun _ _ a ns hl _ hS => ⟨a, ns, rfl, hS, hl, fun _ => rfl⟩) fun _ _ _ _ _ z => z
end Z
open PySem PySem.W PyProof.Rows
set_option maxRecDepth 100000 in
set_option maxHeartbeats 0 in
theorem PySem.Challenge.cw_timeshelf_k03_words_of_texts_holds : PySem.Challenge.rw_timeshelf_k03_words_of_texts.Holds := by
  w_on; o_law; k_head; (case hw => w_witness2)
  k_fill
  refine Z.walk (l := PySem.Challenge.rw_timeshelf_k03_words_of_texts) rfl rfl (fun w h Y => PySem.W.kIn_of Y) ?F
  case F =>
    intro w mg fa h KX G hmg
    refine' Z.all_mk KX G hmg ?a0 ?l0 ?c0 ?k0 ?a1 ?l1 ?c1 ?k1 ?a2 ?l2 ?c2 ?k2 ?a3 ?l3 ?c3 ?k3 ?a4 ?l4 ?c4 ?k4 ?a5 ?l5 ?c5 ?k5 ?a6 ?l6 ?c6 ?k6 ?gc0 ?gc1 ?z0 ?z1 ?z2 ?z3 ?z4 ?z5 ?z6 ?z7
    (case a0 => first | k_is | rfl | decide +kernel)
    (case l0 => first | k_is | rfl | decide +kernel)
    (case c0 => first | k_is | rfl | decide +kernel)
    (case k0 => first | k_is | rfl | decide +kernel)
    (case a1 => first | k_is | rfl | decide +kernel)
    (case l1 => first | k_is | rfl | decide +kernel)
    (case c1 => first | k_is | rfl | decide +kernel)
    (case k1 => first | k_is | rfl | decide +kernel)
    (case a2 => first | k_is | rfl | decide +kernel)
    (case l2 => first | k_is | rfl | decide +kernel)
    (case c2 => first | k_is | rfl | decide +kernel)
    (case k2 => first | k_is | rfl | decide +kernel)
    (case a3 => first | k_is | rfl | decide +kernel)
    (case l3 => first | k_is | rfl | decide +kernel)
    (case c3 => first | k_is | rfl | decide +kernel)
    (case k3 => first | k_is | rfl | decide +kernel)
    (case a4 => first | k_is | rfl | decide +kernel)
    (case l4 => first | k_is | rfl | decide +kernel)
    (case c4 => first | k_is | rfl | decide +kernel)
    (case k4 => first | k_is | rfl | decide +kernel)
    (case a5 => first | k_is | rfl | decide +kernel)
    (case l5 => first | k_is | rfl | decide +kernel)
    (case c5 => first | k_is | rfl | decide +kernel)
    (case k5 => first | k_is | rfl | decide +kernel)
    (case a6 => first | k_is | rfl | decide +kernel)
    (case l6 => first | k_is | rfl | decide +kernel)
    (case c6 => first | k_is | rfl | decide +kernel)
    (case k6 => first | k_is | rfl | decide +kernel)
    (case gc0 => first | k_is | rfl | decide +kernel)
    (case gc1 => first | k_is | rfl | decide +kernel)
    (case z0 => first | k_is | rfl | decide +kernel)
    (case z1 => first | k_is | rfl | decide +kernel)
    (case z2 => first | k_is | rfl | decide +kernel)
    (case z3 => first | k_is | rfl | decide +kernel)
    (case z4 => first | k_is | rfl | decide +kernel)
    (case z5 => first | k_is | rfl | decide +kernel)
    (case z6 => first | k_is | rfl | decide +kernel)
    (case z7 => first | k_is | rfl | decide +kernel)
