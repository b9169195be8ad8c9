import PyProof.Rows.All
import Wide.All
import OpenK.AllK
import Wide.FinOn
import HandS.Nested
import KE.SortData
import KE.KNestM
import HandS.EndTab
import HandS.ForExc
import HandS.ExcInit
import HandS.ExcField
import HandS.AnyAll
import HandS.GenList
import HandS.Comp
import HandS.Iter
import HandS.Text
import HandS.IsInst
import HandS.Walk
import HandS.TupAny
import PySem.Challenge.RW_timeshelf_k17_changes_are_checked
set_option Elab.async false
set_option linter.all false
set_option maxRecDepth 100000
set_option maxHeartbeats 2000000
local macro_rules
  | `(tactic| o_head (kHook $k9 $a9 $e9)) => `(tactic| o_head (PySem.W.kmHook $k9 $a9 $e9 [55, 69]))
namespace Z
open PySem L2
def top (i : Nat) : Stmt := PySem.Challenge.pw_timeshelf_k17_changes_are_checked.main.body.getD i (.Pass ⟨0, 0, 0, 0⟩)
abbrev s_is_number : Stmt := top 4
abbrev N_is_number : List Str := ["value"]
theorem sc_is_number : FnScope ["value"] ["value"] (defScope s_is_number) := ⟨rfl, rfl, rfl, by decide +kernel, rfl, by decide +kernel, by decide +kernel⟩
abbrev s_is_small : Stmt := top 7
abbrev N_is_small : List Str := ["value", "most", "letter"]
theorem sc_is_small : FnScope ["value", "most", "letter"] ["value", "most"] (defScope s_is_small) := ⟨rfl, rfl, rfl, by decide +kernel, rfl, by decide +kernel, by decide +kernel⟩
abbrev s_check_change : Stmt := top 14
abbrev N_check_change : List Str := ["change", "time", "key", "text"]
theorem sc_check_change : FnScope ["change", "time", "key", "text"] ["change"] (defScope s_check_change) := ⟨rfl, rfl, rfl, by decide +kernel, rfl, by decide +kernel, by decide +kernel⟩
abbrev s_is_text : Stmt := top 15
abbrev N_is_text : List Str := ["value", "character"]
theorem sc_is_text : FnScope ["value", "character"] ["value"] (defScope s_is_text) := ⟨rfl, rfl, rfl, by decide +kernel, rfl, by decide +kernel, by decide +kernel⟩
abbrev s_is_code : Stmt := top 16
abbrev N_is_code : List Str := ["code"]
theorem sc_is_code : FnScope ["code"] ["code"] (defScope s_is_code) := ⟨rfl, rfl, rfl, by decide +kernel, rfl, by decide +kernel, by decide +kernel⟩
abbrev s__law_cell : Stmt := top 18
abbrev N__law_cell : List Str := ["script", "k"]
theorem sc__law_cell : FnScope ["script", "k"] ["script", "k"] (defScope s__law_cell) := ⟨rfl, rfl, rfl, by decide +kernel, rfl, by decide +kernel, by decide +kernel⟩
abbrev s__law_digits : Stmt := top 19
abbrev N__law_digits : List Str := ["script", "first", "last", "digits", "k", "cell", "turn", "seed"]
theorem sc__law_digits : FnScope ["script", "first", "last", "digits", "k", "cell", "turn", "seed"] ["script", "first", "last"] (defScope s__law_digits) := ⟨rfl, rfl, rfl, by decide +kernel, rfl, by decide +kernel, by decide +kernel⟩
abbrev s__law_draw : Stmt := top 20
abbrev N__law_draw : List Str := ["box", "many", "at"]
theorem sc__law_draw : FnScope ["box", "many", "at"] ["box", "many"] (defScope s__law_draw) := ⟨rfl, rfl, rfl, by decide +kernel, rfl, by decide +kernel, by decide +kernel⟩
abbrev s__law_same : Stmt := top 21
abbrev N__law_same : List Str := ["actual", "due", "k"]
theorem sc__law_same : FnScope ["actual", "due", "k"] ["actual", "due"] (defScope s__law_same) := ⟨rfl, rfl, rfl, by decide +kernel, rfl, by decide +kernel, by decide +kernel⟩
abbrev s__law_time : Stmt := top 22
abbrev N__law_time : List Str := ["box"]
theorem sc__law_time : FnScope ["box"] ["box"] (defScope s__law_time) := ⟨rfl, rfl, rfl, by decide +kernel, rfl, by decide +kernel, by decide +kernel⟩
abbrev s__law_key : Stmt := top 23
abbrev N__law_key : List Str := ["box"]
theorem sc__law_key : FnScope ["box"] ["box"] (defScope s__law_key) := ⟨rfl, rfl, rfl, by decide +kernel, rfl, by decide +kernel, by decide +kernel⟩
abbrev s__law_text : Stmt := top 24
abbrev N__law_text : List Str := ["box"]
theorem sc__law_text : FnScope ["box"] ["box"] (defScope s__law_text) := ⟨rfl, rfl, rfl, by decide +kernel, rfl, by decide +kernel, by decide +kernel⟩
abbrev s__law_told : Stmt := top 25
abbrev N__law_told : List Str := ["change", "wrong"]
theorem sc__law_told : FnScope ["change", "wrong"] ["change"] (defScope s__law_told) := ⟨rfl, rfl, rfl, by decide +kernel, rfl, by decide +kernel, by decide +kernel⟩
abbrev s_law : Stmt := top 26
abbrev N_law : List Str := ["script", "box", "turn", "parts", "due", "k"]
theorem sc_law : FnScope ["script", "box", "turn", "parts", "due", "k"] ["script"] (defScope s_law) := ⟨rfl, rfl, rfl, by decide +kernel, rfl, by decide +kernel, by decide +kernel⟩
abbrev s_InvalidChange : Stmt := inClass (top 2) 0
theorem sc_InvalidChange : FnScope ["self", "word"] ["self", "word"] (defScope s_InvalidChange) := ⟨rfl, rfl, rfl, by decide +kernel, rfl, by decide +kernel, by decide +kernel⟩
structure Txt (K : PySem.W.Frag) (mg : Str → Option Value) (A : Nat → Addr) (D : Nat → FuncData) : Prop where
  F_is_number : Fun K "is_number" "is_number" s_is_number (A 0) (D 0)
  b_is_number : Binds K (D 0) ["value"] []
  m_is_number : mg "is_number" = some (.ref (A 0))
  F_is_small : Fun K "is_small" "is_small" s_is_small (A 1) (D 1)
  b_is_small : Binds K (D 1) ["value", "most"] []
  m_is_small : mg "is_small" = some (.ref (A 1))
  F_check_change : Fun K "check_change" "check_change" s_check_change (A 2) (D 2)
  b_check_change : Binds K (D 2) ["change"] []
  m_check_change : mg "check_change" = some (.ref (A 2))
  F_is_text : Fun K "is_text" "is_text" s_is_text (A 3) (D 3)
  b_is_text : Binds K (D 3) ["value"] []
  m_is_text : mg "is_text" = some (.ref (A 3))
  F_is_code : Fun K "is_code" "is_code" s_is_code (A 4) (D 4)
  b_is_code : Binds K (D 4) ["code"] []
  m_is_code : mg "is_code" = some (.ref (A 4))
  F__law_cell : Fun K "_law_cell" "_law_cell" s__law_cell (A 5) (D 5)
  b__law_cell : Binds K (D 5) ["script", "k"] []
  m__law_cell : mg "_law_cell" = some (.ref (A 5))
  F__law_digits : Fun K "_law_digits" "_law_digits" s__law_digits (A 6) (D 6)
  b__law_digits : Binds K (D 6) ["script", "first", "last"] []
  m__law_digits : mg "_law_digits" = some (.ref (A 6))
  F__law_draw : Fun K "_law_draw" "_law_draw" s__law_draw (A 7) (D 7)
  b__law_draw : Binds K (D 7) ["box", "many"] []
  m__law_draw : mg "_law_draw" = some (.ref (A 7))
  F__law_same : Fun K "_law_same" "_law_same" s__law_same (A 8) (D 8)
  b__law_same : Binds K (D 8) ["actual", "due"] []
  m__law_same : mg "_law_same" = some (.ref (A 8))
  F__law_time : Fun K "_law_time" "_law_time" s__law_time (A 9) (D 9)
  b__law_time : Binds K (D 9) ["box"] []
  m__law_time : mg "_law_time" = some (.ref (A 9))
  F__law_key : Fun K "_law_key" "_law_key" s__law_key (A 10) (D 10)
  b__law_key : Binds K (D 10) ["box"] []
  m__law_key : mg "_law_key" = some (.ref (A 10))
  F__law_text : Fun K "_law_text" "_law_text" s__law_text (A 11) (D 11)
  b__law_text : Binds K (D 11) ["box"] []
  m__law_text : mg "_law_text" = some (.ref (A 11))
  F__law_told : Fun K "_law_told" "_law_told" s__law_told (A 12) (D 12)
  b__law_told : Binds K (D 12) ["change"] []
  m__law_told : mg "_law_told" = some (.ref (A 12))
  F_law : Fun K "law" "law" s_law (A 13) (D 13)
  b_law : Binds K (D 13) ["script"] []
  m_law : mg "law" = some (.ref (A 13))
  c_SMALL : ∃ t, mg "SMALL" = some (.str "0123456789abcdefghijklmnopqrstuvwxyz" t)
  c_LAST_TIME : ∃ t, mg "LAST_TIME" = some (.int 100000 t)
  c_LONGEST_KEY : ∃ t, mg "LONGEST_KEY" = some (.int 8 t)
  c_LONGEST_TEXT : ∃ t, mg "LONGEST_TEXT" = some (.int 400 t)
  c_NEWLINE : ∃ t, mg "NEWLINE" = some (.int 10 t)
  c_PERCENT : ∃ t, mg "PERCENT" = some (.int 37 t)
  gC_InvalidChange : mg "InvalidChange" = some (.ref (A 101))
  ox_InvalidChange : OexC K (A 101)
  iC_InvalidChange : PySem.W.findIn K (.ref (A 101)) "__init__" = some (some (.ref (A 201)))
  tI_InvalidChange : PySem.W.typeIn K (.ref (A 201)) = some (.type "function")
  F_InvalidChange : Fun K "__init__" "InvalidChange.__init__" (inClass (top 2) 0) (A 201) (D 201)
  b_InvalidChange : Binds K (D 201) ["self", "word"] []
  xf_InvalidChange : XfC K (A 101)
  no_InvalidChange_word : PySem.W.findIn K (.ref (A 101)) "word" = some none
  te_InvalidChange : PySem.W.exmOne K (.ref (A 101)) (.ref (A 101)) = some true
  z_all : mg "all" = none
  z_bool : mg "bool" = none
  z_int : mg "int" = none
  z_isinstance : mg "isinstance" = none
  z_len : mg "len" = none
  z_list : mg "list" = none
  z_ord : mg "ord" = none
  z_range : mg "range" = none
  z_str : mg "str" = none
  z_tuple : mg "tuple" = none
/-! ### what all laws share: cells, digits, draws -/
theorem same_upd {H H' : Hp} {p : Addr} {o : HO} (h : Same H H') (hp : H p = none) : Same H (upd H' p o) := fun b u q => by
  rw [upd_ne (ne_of_none q hp)]; exact h b u q
theorem same_new {H : Hp} {p : Addr} {o : HO} (h : H p = none) : Same H (upd H p o) := same_upd (Same.refl H) h
def yCell (K : PySem.W.Frag) : Sp := fun vs H Q _ => ∃ (l : Addr) (ns : List Int) (k : Nat), vs = [.ref l, .int (k : Int)] ∧ SqL K H l (ns.map V.int) ∧ ∀ z : Int, Q (.int z) H
theorem at_ints {ns : List Int} {k : Nat} (h : k < ns.length) : atI (ns.map V.int) (k : Int) = some (.int (ns.getD k 0)) := by
  apply atI_nat
  rw [List.getElem?_map, List.getElem?_eq_getElem h, List.getD_eq_getElem?_getD, List.getElem?_eq_getElem h]
  rfl
section
variable {P : Program} {w : World} {K : PySem.W.Frag} {mg : Str → Option Value} {base : Heap} {A : Nat → Addr} {D : Nat → FuncData}
theorem ok_cell (T : Txt K mg A D) : FnOk P w K mg base CX0 1 (A 5) (D 5) ["script", "k"] (yCell K) := by
  refine T.F__law_cell.ok sc__law_cell (fun vs H Q E h => ?_) (fun cdv A' outer s H vs Q E hr h => ?_)
  · obtain ⟨l, ns, k, rfl, _⟩ := h; rfl
  obtain ⟨l, ns, k, rfl, hS, q⟩ := h
  refine ⟨_, (pss_cons (ps_if (pt_cmpR op_lt (pv 1) (pe_callB call_len_seq rfl T.z_len PySem.boot_len (pa_cons (pv 0) pa_nil)) (nomark _)) (pss_one (ps_ret (pe_ix (r := rIxL K) ix_list (pv 0) (pv 1) (fun _ _ => rfl)))) pss_nil) (pss_one (ps_ret pe_int))), ?_⟩
  refine ⟨_, rfl, _, rfl, l, _, rfl, .inl hS, _, _, rfl, rfl, _, rfl, ?_⟩
  refine ite2 (fun c => ?_) (fun c => ?_)
  · have c' : (k : Int) < (((ns.map V.int).length : Nat) : Int) := of_decide_eq_true c
    rw [List.length_map] at c'
    exact ⟨_, rfl, _, rfl, l, _, _, _, rfl, rfl, hS, at_ints (by omega), q _⟩
  · exact q 0
def yDigits (K : PySem.W.Frag) : Sp := fun vs H Q _ => ∃ (l : Addr) (ns : List Int), vs = [.ref l, .int 0, .int 63] ∧ SqL K H l (ns.map V.int) ∧
  ∀ (p : Addr) (ds : List Int) (H' : Hp), Same H H' → H p = none → H' p = some (.lst (ds.map V.int)) → ds.length ≤ 3780 → Q (.ref p) H'
theorem len_lt {n : Nat} (h : n ≤ 1000000) : n < sizeLine := Nat.lt_of_le_of_lt h (by decide)
theorem app_map {ds : List Int} {z : Int} : ds.map V.int ++ [V.int z] = (ds ++ [z]).map V.int := by rw [List.map_append]; rfl
theorem ok_digits (T : Txt K mg A D) : FnOk P w K mg base CX0 2 (A 6) (D 6) ["script", "first", "last"] (yDigits K) := by
  refine T.F__law_digits.ok sc__law_digits (fun vs H Q E h => ?_) (fun cdv A' outer s H vs Q E hr h => ?_)
  · obtain ⟨l, ns, rfl, _⟩ := h; rfl
  obtain ⟨l, ns, rfl, hS, q⟩ := h
  have G__law_cell := ok_cell (P := P) (w := w) (base := base) T
  have hnd := sc__law_digits.nd
  refine ⟨_, (pss_cons (ps_set (i := 3) hnd rfl (Or.inl rfl) (pe_lst pa_nil)) (pss_cons (ps_for PassesOwn.never rfl (pi_range2 rfl T.z_range (pa_cons (pv 1) (pa_cons (pv 2) pa_nil))) (pg_name (i := 4) hnd rfl (Or.inl rfl)) (pss_cons (ps_set (i := 5) hnd rfl (Or.inl rfl) (pe_call G__law_cell (hr.mono (by first | decide | omega)) rfl T.m__law_cell T.F__law_cell.kp T.b__law_cell .nil pass0 (pa_cons (pv 0) (pa_cons (pv 4) pa_nil)))) (pss_cons (ps_if (pt_cmpR op_lt (pv 5) pe_int (nomark _)) (pss_one (ps_set (i := 5) hnd rfl (Or.inl rfl) (pe_op op_sub pe_int (pe_op op_mul pe_int (pv 5))))) pss_nil) (pss_one (ps_if (pt_cmpR op_ge (pv 5) (pe_op op_pow pe_int pe_int) (nomark _)) (pss_one (ps_for PassesOwn.never rfl (pi_range1 rfl T.z_range (pa_cons pe_int pa_nil)) (pg_name (i := 6) hnd rfl (Or.inl rfl)) (pss_one (ps_if (pt_cmpR op_gt (pv 5) pe_int (nomark _)) (pss_cons (ps_expr (pe_bm PySem.F.plainAttrs_list PySem.F.slot_list_append PySem.F.type_list_append mt_append (pv 3) (pa_cons (pe_op op_mod (pe_callTy call_int1 rfl T.z_int (by decide +kernel) (pa_cons (pv 5) pa_nil)) pe_int) pa_nil))) (pss_one (ps_set (i := 5) hnd rfl (Or.inl rfl) (pe_op op_fdiv (pv 5) pe_int)))) pss_nil)))) (pss_cons (ps_set (i := 7) hnd rfl (Or.inl rfl) (pe_op op_mod (pe_callTy call_int1 rfl T.z_int (by decide +kernel) (pa_cons (pe_op op_add (pe_op op_add (pe_op op_mul (pv 5) pe_int) (pe_op op_mul (pv 4) pe_int)) pe_int) pa_nil)) pe_int)) (pss_one (ps_for PassesOwn.never rfl (pi_range1 rfl T.z_range (pa_cons pe_int pa_nil)) (pg_name (i := 6) hnd rfl (Or.inl rfl)) (pss_cons (ps_set (i := 7) hnd rfl (Or.inl rfl) (pe_op op_mod (pe_callTy call_int1 rfl T.z_int (by decide +kernel) (pa_cons (pe_op op_add (pe_op op_add (pe_op op_mul (pv 7) pe_int) (pe_op op_mul pe_int (pv 6))) pe_int) pa_nil)) pe_int)) (pss_one (ps_expr (pe_bm PySem.F.plainAttrs_list PySem.F.slot_list_append PySem.F.type_list_append mt_append (pv 3) (pa_cons (pe_op op_mod (pe_callTy call_int1 rfl T.z_int (by decide +kernel) (pa_cons (pe_op op_fdiv (pv 7) pe_int) pa_nil)) pe_int) pa_nil))))))))))))) (pss_one (ps_ret (pv 3))))), ?_⟩
  refine ⟨(by decide), fun p hp => ?_⟩
  have sH := fun o => same_new (o := o) hp
  refine ⟨_, rfl, _, rfl, (0 : Int), (63 : Int), rfl, (by decide), ?_⟩
  refine for_range (lo := 0) (n := 63) (fun i σ H' => ∃ (ds : List Int) (c4 c5 c6 c7 : Option V), σ = [some (.ref l), some (.int 0), some (.int 63), some (.ref p), c4, c5, c6, c7] ∧ Same H H' ∧ H' p = some (.lst (ds.map V.int)) ∧ ds.length ≤ 60 * i)
    ⟨[], none, none, none, none, rfl, sH _, upd_same, Nat.zero_le _⟩ ?_ ?_
  · rintro i σ H1 hi ⟨ds, c4, c5, c6, c7, rfl, s1, hd, hl⟩
    refine ⟨_, rfl, _, rfl, l, ns, i, (by rw [Int.zero_add]; rfl), s1.seq hS, fun z => ?_⟩
    refine ⟨_, rfl, _, _, rfl, rfl, _, rfl, ?_⟩
    refine ite2 (fun c => ?_) (fun c => ?_)
    refine ⟨_, rfl, _, _, rfl, rfl, .inl ⟨by decide, by decide⟩, _, _, rfl, rfl, ?_⟩
    all_goals
      refine ⟨_, rfl, _, _, rfl, rfl, ⟨by decide, by decide, by decide⟩, _, _, rfl, rfl, _, rfl, ?_⟩
      refine ite2 (fun _ => ?_) (fun _ => ?_)
      · refine ⟨_, rfl, by decide, by decide, for_range (n := 60) (fun t σ H' => ∃ (ds : List Int) (c : Int) (c6 : Option V), σ = [some (.ref l), some (.int 0), some (.int 63), some (.ref p), some (.int (0 + (i : Int))), some (.int c), c6, c7] ∧ Same H H' ∧ H' p = some (.lst (ds.map V.int)) ∧ ds.length ≤ 60 * i + t)
          ⟨ds, _, c6, rfl, s1, hd, by omega⟩ ?_ ?_⟩
        · rintro t σ H2 ht ⟨ds2, c, c6, rfl, s2, hd2, hl2⟩
          refine ⟨_, rfl, _, _, rfl, rfl, _, rfl, ?_⟩
          refine ite2 (fun _ => ?_) (fun _ => ?_)
          · refine ⟨_, rfl, .inl ⟨rfl, _, SqL.of hd2⟩, _, rfl, .inl ⟨_, rfl, _, _, rfl, rfl, (by show (0 : Int) < _; decide), _, _, _, rfl, rfl, hd2, (by rw [List.length_map]; exact len_lt (by omega)), ?_⟩⟩
            refine ⟨_, rfl, _, _, rfl, rfl, ⟨by decide, by decide⟩, ?_⟩
            exact ⟨_, _, _, rfl, same_upd s2 hp, by rw [upd_same, app_map], by rw [List.length_append]; simp only [List.length_singleton]; omega⟩
          · exact ⟨_, _, _, rfl, s2, hd2, by omega⟩
        · rintro σ H2 ⟨ds2, c, c6, rfl, s2, hd2, hl2⟩
          exact ⟨_, _, _, _, _, rfl, s2, hd2, by omega⟩
      · refine ⟨_, rfl, _, _, rfl, rfl, .inr ⟨by decide, by decide⟩, _, rfl, _, _, rfl, rfl, .inr ⟨by decide, by decide⟩, _, _, rfl, rfl, _, _, rfl, rfl, .inl ⟨_, rfl, _, _, rfl, rfl, (by show (0 : Int) < _; decide), ?_⟩⟩
        refine ⟨_, rfl, by decide, by decide, for_range (n := 12) (fun t σ H' => ∃ (ds : List Int) (c : Int) (c5 c6 : Option V), σ = [some (.ref l), some (.int 0), some (.int 63), some (.ref p), some (.int (0 + (i : Int))), c5, c6, some (.int c)] ∧ Same H H' ∧ H' p = some (.lst (ds.map V.int)) ∧ ds.length ≤ 60 * i + t)
          ⟨ds, _, _, _, rfl, s1, hd, by omega⟩ ?_ ?_⟩
        · rintro t σ H2 ht ⟨ds2, c, c5, c6, rfl, s2, hd2, hl2⟩
          refine ⟨_, rfl, _, _, rfl, rfl, .inr ⟨by decide, by decide⟩, _, rfl, _, _, rfl, rfl, .inl ⟨by decide, by decide⟩, _, _, rfl, rfl, _, _, rfl, rfl, .inl ⟨_, rfl, _, _, rfl, rfl, (by show (0 : Int) < _; decide), ?_⟩⟩
          refine ⟨_, rfl, .inl ⟨rfl, _, SqL.of hd2⟩, _, rfl, _, _, rfl, rfl, ⟨by decide, by decide⟩, .inl ⟨_, rfl, _, _, rfl, rfl, (by show (0 : Int) < _; decide), _, _, _, rfl, rfl, hd2, (by rw [List.length_map]; exact len_lt (by omega)), ?_⟩⟩
          exact ⟨_, _, _, _, rfl, same_upd s2 hp, by rw [upd_same, app_map], by rw [List.length_append]; simp only [List.length_singleton]; omega⟩
        · rintro σ H2 ⟨ds2, c, c5, c6, rfl, s2, hd2, hl2⟩
          exact ⟨_, _, _, _, _, rfl, s2, hd2, by omega⟩
  · rintro σ H1 ⟨ds, c4, c5, c6, c7, rfl, s1, hd, hl⟩
    exact ⟨_, rfl, q p ds H1 s1 hp hd (by omega)⟩
end

/-- all but the object at b stand as before -/
def Kp (b : Addr) (H H' : Hp) : Prop := ∀ c o, H c = some o → c ≠ b → H' c = some o
theorem Kp.refl (b : Addr) (H : Hp) : Kp b H H := fun _ _ h _ => h
theorem Kp.trans {b : Addr} {H H1 H2 : Hp} (a : Kp b H H1) (c : Kp b H1 H2) : Kp b H H2 := fun x o h n => c x o (a x o h n) n
theorem Kp.upd {b : Addr} {H H' : Hp} {o : HO} (a : Kp b H H') : Kp b H (upd H' b o) := fun x u h n => by rw [upd_ne n]; exact a x u h n
theorem Kp.of {b : Addr} {H H' : Hp} (a : Same H H') : Kp b H H' := fun x o h _ => a x o h
/-- the box of draws: its digits at p, the place -/
def BoxAt (H : Hp) (b p : Addr) : Prop := ∃ (ns : List Int) (n : Nat), H b = some (.lst [.ref p, .int (n : Int)]) ∧ H p = some (.lst (ns.map V.int))
theorem BoxAt.keep {H H' : Hp} {b p : Addr} (h : BoxAt H b p) (k : Same H H') : BoxAt H' b p := by
  obtain ⟨ns, n, h1, h2⟩ := h
  exact ⟨ns, n, k _ _ h1, k _ _ h2⟩
theorem BoxAt.ne {H : Hp} {b p d : Addr} (h : BoxAt H b p) (hd : H d = none) : d ≠ b ∧ d ≠ p := by
  obtain ⟨ns, n, h1, h2⟩ := h
  exact ⟨fun e => (by rw [e, h1] at hd; cases hd), fun e => (by rw [e, h2] at hd; cases hd)⟩
theorem BoxAt.updO {H : Hp} {b p d : Addr} {o : HO} (h : BoxAt H b p) (n1 : d ≠ b) (n2 : d ≠ p) : BoxAt (upd H d o) b p := by
  obtain ⟨ns, n, h1, h2⟩ := h
  exact ⟨ns, n, by rw [upd_ne n1.symm]; exact h1, by rw [upd_ne n2.symm]; exact h2⟩
/-- tuples stand as before -/
def TK (H H' : Hp) : Prop := ∀ c u, (∃ xs, u = .tup xs) → Rd H c u → Rd H' c u
theorem TK.refl (H : Hp) : TK H H := fun _ _ _ h => h
theorem TK.trans {H H1 H2 : Hp} (a : TK H H1) (b : TK H1 H2) : TK H H2 := fun c u h r => b c u h (a c u h r)
theorem TK.same {H H' : Hp} (a : Same H H') : TK H H' := fun c u _ r => by
  rcases r with r | ⟨o, r⟩
  · exact .inl (a _ _ r)
  · exact .inr ⟨o, a _ _ r⟩
theorem TK.kp {b : Addr} {H H' : Hp} {xs : List V} (a : Kp b H H') (h : H b = some (.lst xs)) : TK H H' := fun c u ⟨ys, e⟩ r => by
  subst e
  have hn : c ≠ b := fun z => by subst z; rcases r with r | ⟨o, r⟩ <;> (rw [h] at r; cases r)
  rcases r with r | ⟨o, r⟩
  · exact .inl (a _ _ r hn)
  · exact .inr ⟨o, a _ _ r hn⟩
theorem TK.box {b p : Addr} {H H' : Hp} (h : BoxAt H b p) (a : Kp b H H') : TK H H' := by
  obtain ⟨ns, n, h1, h2⟩ := h
  exact TK.kp a h1
theorem TK.updL {H H' : Hp} {b : Addr} {xs ys : List V} (a : TK H H') (h : H' b = some (.lst xs)) : TK H (upd H' b (.lst ys)) :=
  a.trans (TK.kp (Kp.upd (Kp.refl b H')) h)
theorem TK.new {H H' : Hp} {b : Addr} {o : HO} (a : TK H H') (h : H' b = none) : TK H (upd H' b o) := a.trans (TK.same (same_new h))
theorem TK.seq {K : PySem.W.Frag} {H H' : Hp} (k : TK H H') {a : Addr} {xs : List V} (h : SqT K H a xs) : SqT K H' a xs := by
  rcases h with h | h
  · exact .inl (k _ _ ⟨_, rfl⟩ h)
  · exact .inr h
/-- data without lists -/
inductive Imm : PyData → Prop
  | non : Imm .none
  | bl (b : Bool) : Imm (.bool b)
  | int (i : Int) : Imm (.int i)
  | str (x : Str) : Imm (.str x)
  | tup {ds : List PyData} : (∀ d ∈ ds, Imm d) → Imm (.tuple ds)
mutual
theorem Dp.keep {K : PySem.W.Frag} {H H' : Hp} (k : TK H H') : ∀ {v : V} {d : PyData}, Dp K H v d → Imm d → Dp K H' v d
  | _, _, .non, _ => .non
  | _, _, .bl b, _ => .bl b
  | _, _, .int i, _ => .int i
  | _, _, .str x, _ => .str x
  | _, _, .lst h a, i => nomatch i
  | _, _, .tup h a, i => .tup (k.seq h) (DpAll.keep k a (match i with | .tup j => j))
theorem DpAll.keep {K : PySem.W.Frag} {H H' : Hp} (k : TK H H') : ∀ {vs : List V} {ds : List PyData}, DpAll K H vs ds → (∀ d ∈ ds, Imm d) → DpAll K H' vs ds
  | _, _, .nil, _ => .nil
  | _, _, .cons a b, i => .cons (Dp.keep k a (i _ List.mem_cons_self)) (DpAll.keep k b fun d hd => i d (List.mem_cons_of_mem _ hd))
end
mutual
theorem Dp.same {K : PySem.W.Frag} {H H' : Hp} (k : Same H H') : ∀ {v : V} {d : PyData}, Dp K H v d → Dp K H' v d
  | _, _, .non => .non
  | _, _, .bl b => .bl b
  | _, _, .int i => .int i
  | _, _, .str x => .str x
  | _, _, .lst h a => .lst (k.seq h) (DpAll.same k a)
  | _, _, .tup h a => .tup ((TK.same k).seq h) (DpAll.same k a)
theorem DpAll.same {K : PySem.W.Frag} {H H' : Hp} (k : Same H H') : ∀ {vs : List V} {ds : List PyData}, DpAll K H vs ds → DpAll K H' vs ds
  | _, _, .nil => .nil
  | _, _, .cons a b => .cons (Dp.same k a) (DpAll.same k b)
end
theorem DpAll.len {K : PySem.W.Frag} {H : Hp} : ∀ {vs : List V} {ds : List PyData}, DpAll K H vs ds → vs.length = ds.length
  | _, _, .nil => rfl
  | _, _, .cons a b => by rw [List.length_cons, List.length_cons, DpAll.len b]
theorem DpAll.get {K : PySem.W.Frag} {H : Hp} : ∀ {vs : List V} {ds : List PyData}, DpAll K H vs ds → ∀ {i : Nat} {d : PyData}, ds[i]? = some d → ∃ v, vs[i]? = some v ∧ Dp K H v d
  | _, _, .nil, i, d, h => by simp at h
  | _, _, .cons a b, 0, d, h => by
    have e := Option.some.inj h
    subst e
    exact ⟨_, rfl, a⟩
  | _, _, .cons a b, i + 1, d, h => DpAll.get b (i := i) (by simpa using h)
theorem DpAll.app {K : PySem.W.Frag} {H : Hp} : ∀ {vs ws : List V} {ds es : List PyData}, DpAll K H vs ds → DpAll K H ws es → DpAll K H (vs ++ ws) (ds ++ es)
  | _, _, _, _, .nil, h => h
  | _, _, _, _, .cons a b, h => .cons a (DpAll.app b h)
theorem DpAll.ints {K : PySem.W.Frag} {H : Hp} : ∀ (ns : List Int), DpAll K H (ns.map V.int) (ns.map PyData.int)
  | [] => .nil
  | n :: r => .cons (.int n) (DpAll.ints r)
theorem DpAll.strs {K : PySem.W.Frag} {H : Hp} : ∀ (ns : List Str), DpAll K H (ns.map V.str) (ns.map PyData.str)
  | [] => .nil
  | n :: r => .cons (.str n) (DpAll.strs r)
/-- depth below n, lists not too long -/
def Fits : Nat → PyData → Prop
  | 0, _ => False
  | n + 1, .list xs => xs.length < 2 ^ 60 ∧ ∀ x ∈ xs, Fits n x
  | n + 1, .tuple xs => xs.length < 2 ^ 60 ∧ ∀ x ∈ xs, Fits n x
  | _ + 1, .dict _ => False
  | _ + 1, _ => True
theorem ty_l {K : PySem.W.Frag} {H : Hp} {a : Addr} {xs : List V} (h : SqL K H a xs) : TyX K H (.ref a) (.type "list") := by
  rcases h with (h | ⟨o, h⟩) | ⟨o, its, n, h1, h2, _⟩
  · exact .base (.lst h)
  · exact .base (.frz h)
  · exact .kList h1 h2
theorem ty_t {K : PySem.W.Frag} {H : Hp} {a : Addr} {xs : List V} (h : SqT K H a xs) : TyX K H (.ref a) (.type "tuple") := by
  rcases h with (h | ⟨o, h⟩) | ⟨o, its, n, h1, h2, _⟩
  · exact .base (.tup h)
  · exact .fTuple h
  · exact .kTuple h1 h2
/-- the two are the same data: True -/
def ySame (K : PySem.W.Frag) (n : Nat) : Sp := fun vs H Q _ => ∃ (x y : V) (d : PyData), vs = [x, y] ∧ Dp K H x d ∧ Dp K H y d ∧ Fits n d ∧ Q (.bl true) H
def yDraw (K : PySem.W.Frag) : Sp := fun vs H Q _ => ∃ (b p : Addr) (m : Int), vs = [.ref b, .int m] ∧ BoxAt H b p ∧ 0 < m ∧
  ∀ (r : Int) (H' : Hp), 0 ≤ r → r < m → BoxAt H' b p → Kp b H H' → Q (.int r) H'
section
variable {P : Program} {w : World} {K : PySem.W.Frag} {mg : Str → Option Value} {base : Heap} {A : Nat → Addr} {D : Nat → FuncData}
theorem ok_draw (T : Txt K mg A D) : FnOk P w K mg base CX0 1 (A 7) (D 7) ["box", "many"] (yDraw K) := by
  refine T.F__law_draw.ok sc__law_draw (fun vs H Q E h => ?_) (fun cdv A' outer s H vs Q E hr h => ?_)
  · obtain ⟨b, d, m, rfl, _⟩ := h; rfl
  obtain ⟨b, d, m, rfl, ⟨ns, n, h1, h2⟩, hm, q⟩ := h
  have hnd := sc__law_draw.nd
  have ndb : d ≠ b := fun e => by
    rw [e, h1] at h2
    cases ns with
    | nil => simp at h2
    | cons a r => simp at h2
  refine ⟨_, (pss_cons (ps_set (i := 2) hnd rfl (Or.inl rfl) (pe_ix (r := rIxL K) ix_list (pv 0) pe_int (fun _ _ => rfl))) (pss_cons (ps_asg (pe_op op_add (pv 2) pe_int) (pg_sub (pv 0) pe_int set_list)) (pss_cons (ps_if (pt_cmpR op_lt (pv 2) (pe_callB call_len_seq rfl T.z_len PySem.boot_len (pa_cons (pe_ix (r := rIxL K) ix_list (pv 0) pe_int (fun _ _ => rfl)) pa_nil)) (nomark _)) (pss_one (ps_ret (pe_op op_modN (pe_callTy call_int1 rfl T.z_int (by decide +kernel) (pa_cons (pe_ix (r := rIxL K) ix_list (pe_ix (r := rIxL K) ix_list (pv 0) pe_int (fun _ _ => rfl)) (pv 2) (fun _ _ => rfl)) pa_nil)) (pv 1)))) pss_nil) (pss_one (ps_ret pe_int))))), ?_⟩
  refine ⟨_, rfl, b, _, _, _, rfl, rfl, SqL.of h1, rfl, ?_⟩
  refine ⟨_, rfl, _, _, rfl, rfl, _, rfl, b, _, _, 1, rfl, rfl, h1, rfl, ?_⟩
  have k1 : Kp b H (upd H b (.lst [.ref d, .int ((n : Int) + 1)])) := Kp.upd (Kp.refl b H)
  have e1 : upd H b (.lst [.ref d, .int ((n : Int) + 1)]) b = some (.lst [.ref d, .int ((n : Int) + 1)]) := upd_same
  have e2 : upd H b (.lst [.ref d, .int ((n : Int) + 1)]) d = some (.lst (ns.map V.int)) := k1 _ _ h2 ndb
  have B : BoxAt (upd H b (.lst [.ref d, .int ((n : Int) + 1)])) b d := ⟨ns, n + 1, upd_same, e2⟩
  refine ⟨_, rfl, _, rfl, b, _, _, _, rfl, rfl, SqL.of e1, rfl, d, _, rfl, .inl (SqL.of e2), _, _, rfl, rfl, _, rfl, ?_⟩
  refine ite2 (fun c => ?_) (fun c => ?_)
  · have c' : (n : Int) < (((ns.map V.int).length : Nat) : Int) := of_decide_eq_true c
    rw [List.length_map] at c'
    refine ⟨_, rfl, b, _, _, _, rfl, rfl, SqL.of e1, rfl, _, rfl, d, _, _, _, rfl, rfl, SqL.of e2, at_ints (by omega), .inl ⟨_, rfl, _, rfl, _, _, rfl, rfl, (by show m ≠ 0; omega), ?_⟩⟩
    have z1 := Int.fmod_nonneg_of_pos (ns.getD n 0) hm
    have z2 := Int.fmod_lt_of_pos (ns.getD n 0) hm
    exact q _ _ z1 z2 B k1
  · exact q 0 _ (Int.le_refl 0) hm B k1
theorem ok_same (T : Txt K mg A D) : ∀ n, FnOk P w K mg base CX0 n (A 8) (D 8) ["actual", "due"] (ySame K n)
  | 0 => by
    have no : ∀ vs H Q E, ¬ ySame K 0 vs H Q E := fun vs H Q E h => by
      obtain ⟨x, y, d, _, _, _, f, _⟩ := h
      cases d <;> exact f
    exact ⟨fun vs H Q E h => absurd h (no vs H Q E), fun A outer s H args us vs Q E _ _ _ _ h => absurd h (no vs H Q E)⟩
  | n + 1 => by
    have G__law_same := ok_same T n
    refine T.F__law_same.ok sc__law_same (fun vs H Q E h => ?_) (fun cdv A' outer s H vs Q E hr h => ?_)
    · obtain ⟨x, y, d, rfl, _⟩ := h; rfl
    obtain ⟨x, y, d, rfl, dx, dy, hf, q⟩ := h
    have hnd := sc__law_same.nd
    refine ⟨_, (pss_cons (ps_if (PW.pt (pw_or (pt_val (pe_callB call_isi rfl T.z_isinstance (by decide +kernel) (pa_cons (pv 1) (pa_cons (pe_bltn (v := .ty "list") rfl T.z_list (by decide +kernel) rfl) pa_nil)))) (pw_or1 (pt_val (pe_callB call_isi rfl T.z_isinstance (by decide +kernel) (pa_cons (pv 1) (pa_cons (pe_bltn (v := .ty "tuple") rfl T.z_tuple (by decide +kernel) rfl) pa_nil))))))) (pss_cons (ps_if (PW.pt (pw_or (pt_cmpR op_ne (pe_callB call_isi rfl T.z_isinstance (by decide +kernel) (pa_cons (pv 1) (pa_cons (pe_bltn (v := .ty "list") rfl T.z_list (by decide +kernel) rfl) pa_nil))) (pe_callB call_isi rfl T.z_isinstance (by decide +kernel) (pa_cons (pv 0) (pa_cons (pe_bltn (v := .ty "list") rfl T.z_list (by decide +kernel) rfl) pa_nil))) (nomark _)) (pw_or1 (pt_cmpR op_ne (pe_callB call_isi rfl T.z_isinstance (by decide +kernel) (pa_cons (pv 1) (pa_cons (pe_bltn (v := .ty "tuple") rfl T.z_tuple (by decide +kernel) rfl) pa_nil))) (pe_callB call_isi rfl T.z_isinstance (by decide +kernel) (pa_cons (pv 0) (pa_cons (pe_bltn (v := .ty "tuple") rfl T.z_tuple (by decide +kernel) rfl) pa_nil))) (nomark _))))) (pss_one (ps_ret pe_bl)) pss_nil) (pss_cons (ps_if (pt_cmpR op_ne (pe_callB call_len_seq rfl T.z_len PySem.boot_len (pa_cons (pv 0) pa_nil)) (pe_callB call_len_seq rfl T.z_len PySem.boot_len (pa_cons (pv 1) pa_nil)) (nomark _)) (pss_one (ps_ret pe_bl)) pss_nil) (pss_cons (ps_for PassesOwn.never rfl (pi_range1 rfl T.z_range (pa_cons (pe_callB call_len_seq rfl T.z_len PySem.boot_len (pa_cons (pv 1) pa_nil)) pa_nil)) (pg_name (i := 2) hnd rfl (Or.inl rfl)) (pss_one (ps_if (pt_not (pt_val (pe_call G__law_same (hr.mono (by first | decide | omega)) rfl T.m__law_same T.F__law_same.kp T.b__law_same .nil pass0 (pa_cons (pe_ix (r := rIx K) ix_seq (pv 0) (pv 2) (fun _ _ => rfl)) (pa_cons (pe_ix (r := rIx K) ix_seq (pv 1) (pv 2) (fun _ _ => rfl)) pa_nil))))) (pss_one (ps_ret pe_bl)) pss_nil))) (pss_one (ps_ret pe_bl))))) pss_nil) (pss_cons (ps_if (pt_cmpR op_isN (pv 1) pe_non (nomark _)) (pss_one (ps_ret (pe_cmpR op_isN (pv 0) pe_non (nomark _)))) pss_nil) (pss_cons (ps_if (pt_val (pe_callB call_isi rfl T.z_isinstance (by decide +kernel) (pa_cons (pv 1) (pa_cons (pe_bltn (v := .ty "bool") rfl T.z_bool (by decide +kernel) rfl) pa_nil)))) (pss_one (ps_ret (pe_and (pe_callB call_isi rfl T.z_isinstance (by decide +kernel) (pa_cons (pv 0) (pa_cons (pe_bltn (v := .ty "bool") rfl T.z_bool (by decide +kernel) rfl) pa_nil))) (pe_one (pe_cmpR op_eq (pv 0) (pv 1) (nomark _)))))) pss_nil) (pss_cons (ps_if (pt_val (pe_callB call_isi rfl T.z_isinstance (by decide +kernel) (pa_cons (pv 1) (pa_cons (pe_bltn (v := .ty "str") rfl T.z_str (by decide +kernel) rfl) pa_nil)))) (pss_one (ps_ret (pe_and (pe_callB call_isi rfl T.z_isinstance (by decide +kernel) (pa_cons (pv 0) (pa_cons (pe_bltn (v := .ty "str") rfl T.z_str (by decide +kernel) rfl) pa_nil))) (pe_one (pe_cmpR op_eq (pv 0) (pv 1) (nomark _)))))) pss_nil) (pss_one (ps_ret (pe_and (pe_callB call_isi rfl T.z_isinstance (by decide +kernel) (pa_cons (pv 0) (pa_cons (pe_bltn (v := .ty "int") rfl T.z_int (by decide +kernel) rfl) pa_nil))) (pe_and (pe_not (pe_callB call_isi rfl T.z_isinstance (by decide +kernel) (pa_cons (pv 0) (pa_cons (pe_bltn (v := .ty "bool") rfl T.z_bool (by decide +kernel) rfl) pa_nil)))) (pe_one (pe_cmpR op_eq (pv 0) (pv 1) (nomark _))))))))))), ?_⟩
    cases d with
    | dict _ => exact hf.elim
    | list ds =>
      obtain ⟨hf1, hf2⟩ := hf
      cases dx with | lst hx ax =>
      cases dy with | lst hy ay =>
      rename_i a vs a' vs'
      have l1 := DpAll.len ax
      have l2 := DpAll.len ay
      refine ⟨_, rfl, _, _, _, _, _, rfl, .ty _, ty_l hy, kit_ty (by decide +kernel), _, rfl, iteT (iteT ?_)⟩
      refine ⟨_, rfl, _, _, _, _, true, rfl, .ty _, ty_l hy, kit_ty (by decide +kernel), _, rfl, _, _, _, _, true, rfl, .ty _, ty_l hx, kit_ty (by decide +kernel), rfl, _, rfl, iteNS rfl ?_⟩
      refine ⟨_, rfl, _, _, _, _, false, rfl, .ty _, ty_l hy, kit_ty (by decide +kernel), _, rfl, _, _, _, _, false, rfl, .ty _, ty_l hx, kit_ty (by decide +kernel), rfl, _, rfl, iteNS rfl ?_⟩
      refine ⟨_, rfl, _, _, rfl, .inl hx, _, rfl, _, _, rfl, .inl hy, rfl, _, rfl, iteNS (by rw [l1, l2]) ?_⟩
      refine ⟨_, rfl, _, _, rfl, .inl hy, _, rfl, (by omega), (by omega), ?_⟩
      rw [show ((vs'.length : Nat) : Int).toNat = ds.length by omega]
      refine for_range (n := ds.length) (fun i σ H' => ∃ kv : Option V, σ = [some (.ref a), some (.ref a'), kv] ∧ H' = H) ⟨none, rfl, rfl⟩ ?_ ?_
      · rintro i σ H' hi ⟨kv, rfl, rfl⟩
        obtain ⟨v, ev, dv⟩ := DpAll.get ax (List.getElem?_eq_getElem hi)
        obtain ⟨v', ev', dv'⟩ := DpAll.get ay (List.getElem?_eq_getElem hi)
        have ev1 : atI vs (0 + (i : Int)) = some v := by rw [Int.zero_add]; exact atI_nat ev
        have ev2 : atI vs' (0 + (i : Int)) = some v' := by rw [Int.zero_add]; exact atI_nat ev'
        refine ⟨_, rfl, _, rfl, .inl ⟨_, _, _, _, rfl, rfl, hx, ev1, _, rfl, _, rfl, .inl ⟨_, _, _, _, rfl, rfl, hy, ev2, ?_⟩⟩⟩
        exact ⟨v, v', ds[i], rfl, dv, dv', hf2 _ (List.getElem_mem hi), _, rfl, iteF ⟨_, rfl, rfl⟩⟩
      · rintro σ H' ⟨kv, rfl, rfl⟩
        exact q
    | tuple ds =>
      obtain ⟨hf1, hf2⟩ := hf
      cases dx with | tup hx ax =>
      cases dy with | tup hy ay =>
      rename_i a vs a' vs'
      have l1 := DpAll.len ax
      have l2 := DpAll.len ay
      refine ⟨_, rfl, _, _, _, _, _, rfl, .ty _, ty_t hy, kit_ty (by decide +kernel), _, rfl, iteF ⟨_, rfl, _, _, _, _, _, rfl, .ty _, ty_t hy, kit_ty (by decide +kernel), _, rfl, iteT ?_⟩⟩
      refine ⟨_, rfl, _, _, _, _, false, rfl, .ty _, ty_t hy, kit_ty (by decide +kernel), _, rfl, _, _, _, _, false, rfl, .ty _, ty_t hx, kit_ty (by decide +kernel), rfl, _, rfl, iteNS rfl ?_⟩
      refine ⟨_, rfl, _, _, _, _, true, rfl, .ty _, ty_t hy, kit_ty (by decide +kernel), _, rfl, _, _, _, _, true, rfl, .ty _, ty_t hx, kit_ty (by decide +kernel), rfl, _, rfl, iteNS rfl ?_⟩
      refine ⟨_, rfl, _, _, rfl, .inr hx, _, rfl, _, _, rfl, .inr hy, rfl, _, rfl, iteNS (by rw [l1, l2]) ?_⟩
      refine ⟨_, rfl, _, _, rfl, .inr hy, _, rfl, (by omega), (by omega), ?_⟩
      rw [show ((vs'.length : Nat) : Int).toNat = ds.length by omega]
      refine for_range (n := ds.length) (fun i σ H' => ∃ kv : Option V, σ = [some (.ref a), some (.ref a'), kv] ∧ H' = H) ⟨none, rfl, rfl⟩ ?_ ?_
      · rintro i σ H' hi ⟨kv, rfl, rfl⟩
        obtain ⟨v, ev, dv⟩ := DpAll.get ax (List.getElem?_eq_getElem hi)
        obtain ⟨v', ev', dv'⟩ := DpAll.get ay (List.getElem?_eq_getElem hi)
        have ev1 : atI vs (0 + (i : Int)) = some v := by rw [Int.zero_add]; exact atI_nat ev
        have ev2 : atI vs' (0 + (i : Int)) = some v' := by rw [Int.zero_add]; exact atI_nat ev'
        refine ⟨_, rfl, _, rfl, .inr (.inl ⟨_, _, _, _, rfl, rfl, hx, ev1, _, rfl, _, rfl, .inr (.inl ⟨_, _, _, _, rfl, rfl, hy, ev2, ?_⟩)⟩)⟩
        exact ⟨v, v', ds[i], rfl, dv, dv', hf2 _ (List.getElem_mem hi), _, rfl, iteF ⟨_, rfl, rfl⟩⟩
      · rintro σ H' ⟨kv, rfl, rfl⟩
        exact q
    | none =>
      cases dx with | non =>
      cases dy with | non =>
      refine ⟨_, rfl, _, _, _, _, _, rfl, .ty _, .base (.non), kit_ty (by decide +kernel), _, rfl, iteF ⟨_, rfl, _, _, _, _, _, rfl, .ty _, .base (.non), kit_ty (by decide +kernel), _, rfl, iteF ?_⟩⟩
      refine ⟨_, rfl, rfl, _, rfl, iteT ?_⟩
      exact ⟨_, rfl, rfl, q⟩
    | bool b =>
      cases dx with | bl =>
      cases dy with | bl =>
      refine ⟨_, rfl, _, _, _, _, _, rfl, .ty _, .base (.bl _), kit_ty (by decide +kernel), _, rfl, iteF ⟨_, rfl, _, _, _, _, _, rfl, .ty _, .base (.bl _), kit_ty (by decide +kernel), _, rfl, iteF ?_⟩⟩
      refine ⟨_, rfl, rfl, _, rfl, iteF ?_⟩
      refine ⟨_, rfl, _, _, _, _, _, rfl, .ty _, .base (.bl _), kit_ty (by decide +kernel), _, rfl, iteT ?_⟩
      refine ⟨_, rfl, _, _, _, _, _, rfl, .ty _, .base (.bl _), kit_ty (by decide +kernel), _, rfl, iteT ⟨_, rfl, _, rfl, rfl, ?_⟩⟩
      rw [decide_eq_true rfl]
      exact q
    | str z =>
      cases dx with | str =>
      cases dy with | str =>
      refine ⟨_, rfl, _, _, _, _, _, rfl, .ty _, .base (.str _), kit_ty (by decide +kernel), _, rfl, iteF ⟨_, rfl, _, _, _, _, _, rfl, .ty _, .base (.str _), kit_ty (by decide +kernel), _, rfl, iteF ?_⟩⟩
      refine ⟨_, rfl, rfl, _, rfl, iteF ?_⟩
      refine ⟨_, rfl, _, _, _, _, _, rfl, .ty _, .base (.str _), kit_ty (by decide +kernel), _, rfl, iteF ⟨_, rfl, _, _, _, _, _, rfl, .ty _, .base (.str _), kit_ty (by decide +kernel), _, rfl, iteT ?_⟩⟩
      refine ⟨_, rfl, _, _, _, _, _, rfl, .ty _, .base (.str _), kit_ty (by decide +kernel), _, rfl, iteT ⟨_, rfl, _, rfl, rfl, ?_⟩⟩
      rw [decide_eq_true rfl]
      exact q
    | int i =>
      cases dx with | int =>
      cases dy with | int =>
      refine ⟨_, rfl, _, _, _, _, _, rfl, .ty _, .base (.int _), kit_ty (by decide +kernel), _, rfl, iteF ⟨_, rfl, _, _, _, _, _, rfl, .ty _, .base (.int _), kit_ty (by decide +kernel), _, rfl, iteF ?_⟩⟩
      refine ⟨_, rfl, rfl, _, rfl, iteF ?_⟩
      refine ⟨_, rfl, _, _, _, _, _, rfl, .ty _, .base (.int _), kit_ty (by decide +kernel), _, rfl, iteF ⟨_, rfl, _, _, _, _, _, rfl, .ty _, .base (.int _), kit_ty (by decide +kernel), _, rfl, iteF ?_⟩⟩
      refine ⟨_, rfl, _, _, _, _, _, rfl, .ty _, .base (.int _), kit_ty (by decide +kernel), _, rfl, iteT ⟨_, rfl, _, _, _, _, false, rfl, .ty _, .base (.int _), kit_ty (by decide +kernel), _, rfl, _, rfl, iteT ⟨_, rfl, _, rfl, rfl, ?_⟩⟩⟩
      rw [decide_eq_true rfl]
      exact q
end

/-! ### a list of immutable data that grows -/
def LAt (K : PySem.W.Frag) (H : Hp) (d : Addr) (ds : List PyData) : Prop := ∃ vs, H d = some (.lst vs) ∧ DpAll K H vs ds ∧ ∀ x ∈ ds, Imm x
theorem LAt.tk {K : PySem.W.Frag} {H H' : Hp} {d : Addr} {ds : List PyData} (h : LAt K H d ds) (k : TK H H') (e : ∀ o, H d = some o → H' d = some o) : LAt K H' d ds := by
  obtain ⟨vs, h1, h2, h3⟩ := h
  exact ⟨vs, e _ h1, DpAll.keep k h2 h3, h3⟩
theorem LAt.same {K : PySem.W.Frag} {H H' : Hp} {d : Addr} {ds : List PyData} (h : LAt K H d ds) (k : Same H H') : LAt K H' d ds := h.tk (TK.same k) fun o => k _ o
theorem LAt.kp {K : PySem.W.Frag} {H H' : Hp} {b p d : Addr} {ds : List PyData} (h : LAt K H d ds) (B : BoxAt H b p) (k : Kp b H H') (n : d ≠ b) : LAt K H' d ds := h.tk (TK.box B k) fun o e => k _ o e n
theorem LAt.push {K : PySem.W.Frag} {H : Hp} {d : Addr} {ds : List PyData} {vs : List V} {v : V} {x : PyData} (h1 : H d = some (.lst vs)) (h2 : DpAll K H vs ds) (h3 : ∀ x ∈ ds, Imm x) (hv : Dp K H v x) (hx : Imm x) : LAt K (upd H d (.lst (vs ++ [v]))) d (ds ++ [x]) := by
  have k : TK H (upd H d (.lst (vs ++ [v]))) := TK.updL (TK.refl H) h1
  have h4 : ∀ y ∈ ds ++ [x], Imm y := fun y hy => by
    rcases List.mem_append.mp hy with hy | hy
    · exact h3 y hy
    · rw [List.mem_singleton.mp hy]; exact hx
  exact ⟨_, upd_same, DpAll.keep k (DpAll.app h2 (.cons hv .nil)) h4, h4⟩
theorem LAt.nil {K : PySem.W.Frag} {H : Hp} {d : Addr} (h : H d = some (.lst [])) : LAt K H d [] := ⟨[], h, .nil, fun x hx => nomatch hx⟩

def encT (t : Str × Str) : PyData := .tuple [.str t.1, .str t.2]
theorem imm_encT (t : Str × Str) : Imm (encT t) := .tup fun d hd => by
  rcases List.mem_cons.mp hd with rfl | hd
  · exact .str _
  · rw [List.mem_singleton.mp hd]; exact .str _

/-! ### a statement, what holds behind it, then the rest -/
def tCut (t u : TS) : TS := fun D σ H => ∃ Mid : St → Hp → Prop, t { D with nx := Mid } σ H ∧ ∀ σ' H', Mid σ' H' → u D σ' H'
theorem pss_cut {X : Cx} {st : Stmt} {rest : List Stmt} {t u : TS} (h1 : PS X st t) (h2 : PSs X rest u) : PSs X (st :: rest) (tCut t u) := by
  refine ⟨fun pins s σ H D I h => ?_⟩
  obtain ⟨Mid, hm, hu⟩ := h
  refine PySem.wpAny_execs_cons (thn (h1.run pins s σ H { D with nx := Mid } I hm) fun f s1 q => ?_)
  cases f with
  | next =>
    obtain ⟨σ', H', I', q⟩ := q
    exact h2.run pins s1 σ' H' D I' (hu σ' H' q)
  | ret v => exact q
  | brk => exact q
  | cont => exact q

/-! ### data of questions and documents -/
theorem slA_use {K : PySem.W.Frag} {H : Hp} {Q : VK} {a : Addr} {xs : List V} {lo hi : Option Int} (hx : SqT K H a xs) (h : ∀ p H', Same H H' → SqT K H' p (cutV xs lo hi) → Q (.ref p) H') : rSlA K (.ref a) lo hi H Q := by
  refine ⟨a, xs, rfl, hx, fun hw => ?_, fun _ p hp => h p _ (same_new hp) (SqT.of upd_same)⟩
  have e : cutV xs lo hi = xs := by
    unfold cutV
    rw [hw.1, hw.2, List.drop_zero, Nat.sub_zero, List.take_length]
  exact h a H (Same.refl H) (by rw [e]; exact hx)
theorem catA_use {K : PySem.W.Frag} {H : Hp} {Q : VK} {a b : Addr} {xs ys : List V} (ha : SqT K H a xs) (hb : SqT K H b ys) (hz : xs.length + ys.length ≤ sizeLine) (h : ∀ p H', Same H H' → SqT K H' p (xs ++ ys) → Q (.ref p) H') : rCatA K (.ref a) (.ref b) H Q := by
  refine ⟨a, b, xs, ys, rfl, rfl, ha, hb, hz, fun e => h b H (Same.refl H) (by rw [e]; exact hb), fun _ e => h a H (Same.refl H) (by rw [e, List.append_nil]; exact ha), fun _ _ p hp => h p _ (same_new hp) (SqT.of upd_same)⟩
theorem sIx_n (n d k : Nat) : HT.sIx n d (some (k : Int)) = min k n := HT.sIx_nat n d k
theorem cutV_from (xs : List V) (k : Nat) : cutV xs (some (k : Int)) none = xs.drop k := by
  unfold cutV
  rw [sIx_n, HT.sIx_none]
  by_cases h : k ≤ xs.length
  · rw [Nat.min_eq_left h]
    exact List.take_of_length_le (by rw [List.length_drop]; omega)
  · rw [List.drop_eq_nil_of_le (by omega), List.drop_eq_nil_of_le (by omega), List.take_nil]
theorem cutV_mid (xs : List V) (a b : Nat) : cutV xs (some (a : Int)) (some (b : Int)) = (xs.drop a).take (b - a) := by
  unfold cutV
  rw [sIx_n, sIx_n]
  by_cases h : a ≤ xs.length
  · rw [Nat.min_eq_left h]
    exact List.take_eq_take_iff.mpr (by rw [List.length_drop]; omega)
  · rw [List.drop_eq_nil_of_le (by omega), List.drop_eq_nil_of_le (by omega), List.take_nil, List.take_nil]
abbrev Pat := Str × Str
def encPs (ps : List Pat) : PyData := .tuple (ps.map encT)
def encRow (ps : List Pat) (gap : Nat) : PyData := .tuple [.str "row", encPs ps, .int (gap : Int)]
def encD (ws : List Str) : PyData := .tuple (ws.map .str)
def encW (pl : List Nat) : PyData := .tuple (pl.map fun (n : Nat) => .int (n : Int))
theorem imm_ts (ps : List Pat) : ∀ d ∈ ps.map encT, Imm d := fun d hd => by
  obtain ⟨p, _, rfl⟩ := List.mem_map.mp hd; exact imm_encT p
theorem imm_encW (pl : List Nat) : Imm (encW pl) := .tup fun d hd => by
  obtain ⟨n, _, rfl⟩ := List.mem_map.mp hd; exact .int _
theorem imm_encD (ws : List Str) : Imm (encD ws) := .tup fun d hd => by
  obtain ⟨n, _, rfl⟩ := List.mem_map.mp hd; exact .str _
theorem imm_encPs (ps : List Pat) : Imm (encPs ps) := .tup (imm_ts ps)
theorem imm_encRow (ps : List Pat) (gap : Nat) : Imm (encRow ps gap) := .tup fun d hd => by
  rcases List.mem_cons.mp hd with rfl | hd
  · exact .str _
  · rcases List.mem_cons.mp hd with rfl | hd
    · exact imm_encPs ps
    · rw [List.mem_singleton.mp hd]; exact .int _
theorem Dp.tupI {K : PySem.W.Frag} {H : Hp} {v : V} {ds : List PyData} (h : Dp K H v (.tuple ds)) : ∃ a xs, v = .ref a ∧ SqT K H a xs ∧ DpAll K H xs ds := by
  cases h with
  | tup h1 h2 => exact ⟨_, _, rfl, h1, h2⟩
theorem Dp.strI {K : PySem.W.Frag} {H : Hp} {v : V} {z : Str} (h : Dp K H v (.str z)) : v = .str z := by cases h; rfl
theorem Dp.intI {K : PySem.W.Frag} {H : Hp} {v : V} {z : Int} (h : Dp K H v (.int z)) : v = .int z := by cases h; rfl
theorem DpAll.consI {K : PySem.W.Frag} {H : Hp} {vs : List V} {d : PyData} {ds : List PyData} (h : DpAll K H vs (d :: ds)) : ∃ v r, vs = v :: r ∧ Dp K H v d ∧ DpAll K H r ds := by
  cases h with
  | cons a b => exact ⟨_, _, rfl, a, b⟩
theorem DpAll.nilI {K : PySem.W.Frag} {H : Hp} {vs : List V} (h : DpAll K H vs []) : vs = [] := by cases h; rfl
theorem DpAll.strsI {K : PySem.W.Frag} {H : Hp} : ∀ {vs : List V} {ss : List Str}, DpAll K H vs (ss.map PyData.str) → vs = ss.map V.str
  | _, [], h => DpAll.nilI h
  | _, s :: r, h => by
    obtain ⟨v, t, rfl, h1, h2⟩ := DpAll.consI h
    rw [Dp.strI h1, DpAll.strsI h2]; rfl
theorem DpAll.natsI {K : PySem.W.Frag} {H : Hp} : ∀ {vs : List V} {ss : List Nat}, DpAll K H vs (ss.map fun (n : Nat) => PyData.int (n : Int)) → vs = ss.map fun (n : Nat) => V.int (n : Int)
  | _, [], h => DpAll.nilI h
  | _, s :: r, h => by
    obtain ⟨v, t, rfl, h1, h2⟩ := DpAll.consI h
    rw [Dp.intI h1, DpAll.natsI h2]; rfl
theorem DpAll.nats {K : PySem.W.Frag} {H : Hp} : ∀ (ss : List Nat), DpAll K H (ss.map fun (n : Nat) => V.int (n : Int)) (ss.map fun (n : Nat) => PyData.int (n : Int))
  | [] => .nil
  | n :: r => .cons (.int _) (DpAll.nats r)
theorem dp_encT {K : PySem.W.Frag} {H : Hp} {v : V} {p : Pat} (h : Dp K H v (encT p)) : ∃ q, v = .ref q ∧ SqT K H q [.str p.1, .str p.2] := by
  obtain ⟨a, xs, rfl, h1, h2⟩ := Dp.tupI h
  obtain ⟨x, r, rfl, h3, h4⟩ := DpAll.consI h2
  obtain ⟨y, r2, rfl, h5, h6⟩ := DpAll.consI h4
  rw [Dp.strI h3, Dp.strI h5, DpAll.nilI h6] at h1
  exact ⟨a, rfl, h1⟩
theorem dp_encD {K : PySem.W.Frag} {H : Hp} {v : V} {ws : List Str} (h : Dp K H v (encD ws)) : ∃ q, v = .ref q ∧ SqT K H q (ws.map V.str) := by
  obtain ⟨a, xs, rfl, h1, h2⟩ := Dp.tupI h
  rw [DpAll.strsI h2] at h1
  exact ⟨a, rfl, h1⟩
theorem dp_encW {K : PySem.W.Frag} {H : Hp} {v : V} {pl : List Nat} (h : Dp K H v (encW pl)) : ∃ q, v = .ref q ∧ SqT K H q (pl.map fun (n : Nat) => V.int (n : Int)) := by
  obtain ⟨a, xs, rfl, h1, h2⟩ := Dp.tupI h
  rw [DpAll.natsI h2] at h1
  exact ⟨a, rfl, h1⟩
theorem mk_encW {K : PySem.W.Frag} {H : Hp} {q : Addr} {pl : List Nat} (h : SqT K H q (pl.map fun (n : Nat) => V.int (n : Int))) : Dp K H (.ref q) (encW pl) := .tup h (DpAll.nats pl)
theorem dp_encRow {K : PySem.W.Frag} {H : Hp} {v : V} {ps : List Pat} {gap : Nat} (h : Dp K H v (encRow ps gap)) : ∃ q pa pxs, v = .ref q ∧ SqT K H q [.str "row", .ref pa, .int (gap : Int)] ∧ SqT K H pa pxs ∧ DpAll K H pxs (ps.map encT) := by
  obtain ⟨a, xs, rfl, h1, h2⟩ := Dp.tupI h
  obtain ⟨x, r, rfl, h3, h4⟩ := DpAll.consI h2
  obtain ⟨y, r2, rfl, h5, h6⟩ := DpAll.consI h4
  obtain ⟨z, r3, rfl, h7, h8⟩ := DpAll.consI h6
  obtain ⟨pa, pxs, rfl, h9, h10⟩ := Dp.tupI h5
  rw [Dp.strI h3, Dp.intI h7, DpAll.nilI h8] at h1
  exact ⟨a, pa, pxs, rfl, h1, h9, h10⟩
def fitsB (w : Str) (p : Pat) : Bool := if p.1 = "start" then Txt.startswith w p.2 else decide (w = p.2)
/-- how many of the patterns are taken, one behind the other -/
def tstep (ps : List Pat) (t : Nat) (w : Str) : Nat := if t < ps.length ∧ fitsB w (ps.getD t ("", "")) = true then t + 1 else t
def taken (ps : List Pat) (ws : List Str) : Nat := ws.foldl (tstep ps) 0
def endB (L n gap f : Nat) : Nat := min (f + n + gap) L
def beginsB (ws : List Str) (ps : List Pat) (gap : Nat) (pl : List Nat) : Bool :=
  fitsB (ws.getD (pl.getLastD 0) "") (ps.getD (pl.length - 1) ("", "")) && decide (taken (ps.drop (pl.length - 1)) ((ws.drop (pl.getLastD 0)).take (endB ws.length ps.length gap (pl.headD 0) - pl.getLastD 0)) = (ps.drop (pl.length - 1)).length)
def yFits (K : PySem.W.Frag) : Sp := fun vs H Q _ => ∃ (w : Str) (v : V) (p : Pat), vs = [.str w, v] ∧ Dp K H v (encT p) ∧ Q (.bl (fitsB w p)) H
def yEndB (K : PySem.W.Frag) : Sp := fun vs H Q _ => ∃ (vd vr : V) (ws : List Str) (ps : List Pat) (gap f : Nat), vs = [vd, vr, .int (f : Int)] ∧ Dp K H vd (encD ws) ∧ Dp K H vr (encRow ps gap) ∧ Q (.int ((endB ws.length ps.length gap f : Nat) : Int)) H
def yBegins (K : PySem.W.Frag) : Sp := fun vs H Q _ => ∃ (vd vr vp : V) (ws : List Str) (ps : List Pat) (gap : Nat) (pl : List Nat), vs = [vd, vr, vp] ∧ Dp K H vd (encD ws) ∧ Dp K H vr (encRow ps gap) ∧ Dp K H vp (encW pl) ∧
  pl ≠ [] ∧ pl.length ≤ ps.length ∧ pl.getLastD 0 < endB ws.length ps.length gap (pl.headD 0) ∧ ∀ H', Same H H' → Q (.bl (beginsB ws ps gap pl)) H'

/-! ### words of a text -/
open TL
open PyProof.Rows (lo1 lower_ascii)
def smallS : Str := "0123456789abcdefghijklmnopqrstuvwxyz"
def smallL : Str := "abcdefghijklmnopqrstuvwxyz0123456789"
theorem small_LS : ∀ c ∈ tl smallL, c ∈ tl smallS := by decide +kernel
theorem small_SL : ∀ c ∈ tl smallS, c ∈ tl smallL := by decide +kernel
theorem small_iff {c : Nat} : c ∈ tl smallL ↔ c ∈ tl smallS := ⟨small_LS c, small_SL c⟩
/-- how a sign is read: a small letter or digit, or a blank -/
def gw (c : Nat) : Nat := if c ∈ tl smallS then c else 32
def gl (c : Nat) : Nat := gw (lo1 c)
def wordsL (cs : List Nat) : List (List Nat) := (wfin ((cs.map gl).foldl wstep ([], []))).map (·.take 12)
def sgn (c : Nat) : Str := ⟨#[c]⟩
def jn (l : List Nat) : Str := Txt.join (Str.ofString "") (l.map sgn)
theorem joinL_nil : ∀ l : List Nat, joinL [] (l.map fun c => [c]) = l
  | [] => rfl
  | [c] => rfl
  | c :: d :: r => by
    show [c] ++ ([] ++ joinL [] ((d :: r).map fun c => [c])) = _
    rw [joinL_nil (d :: r)]
    rfl
theorem join_signs (l : List Nat) : tl (jn l) = l := by
  unfold jn
  rw [join_eq, tl_join, List.map_map, show tl (Str.ofString "") = [] by decide +kernel]
  exact joinL_nil l
theorem cut_take (z : Str) (k : Nat) : tl (cutS z none (some (k : Int))) = (tl z).take k := by
  show ((z.cps.toList.drop 0).take (HT.sIx z.length z.length (some (k : Int)) - 0)) = _
  have e : HT.sIx z.length z.length (some (k : Int)) = min k z.length := by
    show (if (k : Int) < 0 then ((k : Int) + (z.length : Int)).toNat else min (k : Int).toNat z.length) = _
    rw [if_neg (by omega), Int.toNat_natCast]
  have e2 : z.length = z.cps.toList.length := len_tl z
  rw [e, List.drop_zero, Nat.sub_zero]
  exact List.take_eq_take_iff.mpr (by omega)
theorem words_len {N : Nat} : ∀ (l : List Nat) (ws : List (List Nat)) (u : List Nat), (∀ x ∈ ws, x.length ≤ N) → u.length + l.length ≤ N → ∀ x ∈ wfin (l.foldl wstep (ws, u)), x.length ≤ N
  | [], ws, u, h, hu => by
    intro x hx
    show x.length ≤ N
    have e : wfin (List.foldl wstep (ws, u) []) = if u = [] then ws else ws ++ [u] := rfl
    rw [e] at hx
    by_cases hu0 : u = []
    · rw [if_pos hu0] at hx; exact h x hx
    · rw [if_neg hu0] at hx
      rcases List.mem_append.mp hx with hx | hx
      · exact h x hx
      · rw [List.mem_singleton.mp hx]; simpa using hu
  | c :: r, ws, u, h, hu => by
    rw [List.length_cons] at hu
    rw [List.foldl_cons]
    unfold wstep
    split
    · split
      · exact words_len r ws u h (by omega)
      · refine words_len r _ _ (fun x hx => ?_) (by simp only [List.length_nil]; omega)
        rcases List.mem_append.mp hx with hx | hx
        · exact h x hx
        · rw [List.mem_singleton.mp hx]; show u.length ≤ N; omega
    · exact words_len r ws (u ++ [c]) h (by rw [List.length_append, List.length_singleton]; omega)
theorem map_sgn (l : List Nat) : (l.map sgn).map (fun x => x.length) = l.map fun _ => 1 := by rw [List.map_map]; rfl
theorem sum_ones (l : List Nat) : (l.map fun _ => 1).sum = l.length := by
  induction l with
  | nil => rfl
  | cons a r ih => rw [List.map_cons, List.sum_cons, ih, List.length_cons]; omega
theorem take_succ_map {α β : Type} {f : α → β} {l : List α} {i : Nat} {x : α} (h : l[i]? = some x) : (l.take i).map f ++ [f x] = (l.take (i + 1)).map f := by
  rw [List.take_add_one, h, List.map_append]; rfl
theorem take_all {α : Type} {l : List α} {n : Nat} (h : l.length ≤ n) : l.take n = l := List.take_of_length_le h

theorem exm_self {K : PySem.W.Frag} {S : Addr} (h1 : PySem.W.subIn K (.ref S) (.type "BaseException") = some true) (h2 : PySem.W.isClsIn K S = true) (h3 : PySem.W.typeIn K (.ref S) = some (.type "type")) (h4 : PySem.W.subIn K (.ref S) (.ref S) = some true) :
    PySem.W.exmOne K (.ref S) (.ref S) = some true := by
  have e1 : (PySem.W.subIn K (.ref S) (.type "BaseException") == some true) = true := by rw [h1]; rfl
  have h2' : (PySem.W.clsIn K S).isSome = true := h2
  have e2 : ((PySem.W.clsIn K S).isSome && PySem.W.typeIn K (.ref S) == some (.type "type")) = true := by rw [h2', h3]; rfl
  unfold PySem.W.exmOne
  rw [if_pos e1]
  unfold PySem.W.kitCls
  dsimp only
  rw [if_pos e2]
  exact h4
/-- an error with one field: its __init__ -/
def yInit1 (C : Addr) (f : Str) : Sp := fun vs H Q _ => ∃ (a : Addr) (v : V), vs = [.ref a, v] ∧ H a = some (exo a C none) ∧
  ∀ dx, H dx = none → dx ≠ a → Q .non (upd (upd H dx (exd dx [(f, v)])) a (exo a C (some dx)))

section
variable {P : Program} {w : World} {K : PySem.W.Frag} {mg : Str → Option Value} {base : Heap} {A : Nat → Addr} {D : Nat → FuncData}
theorem ok_InvalidChange (T : Txt K mg A D) : FnOk P w K mg base CX0 1 (A 201) (D 201) ["self", "word"] (yInit1 (A 101) "word") := by
  refine T.F_InvalidChange.ok sc_InvalidChange (fun vs H Q E h => ?_) (fun cdv A' outer s H vs Q E hr h => ?_)
  · obtain ⟨a, v, rfl, _⟩ := h; rfl
  obtain ⟨a, v, rfl, ha, q⟩ := h
  refine ⟨_, pss_one (ps_ost (pv 0) (pv 1)), ?_⟩
  exact ⟨_, rfl, _, rfl, a, _, rfl, T.ox_InvalidChange, T.no_InvalidChange_word, .inl ⟨ha, q⟩⟩
end
theorem raise1_use {C : Addr} {f : Str} {v : V} {H : Hp} {E : XK} (q : ∀ d H', Same H H' → H d = none → H' d = some (.xd [(f, v)]) → E (.ref C) (some d) H') : ([v] : List V).length ≤ 1000 ∧ ∀ a, H a = none → yInit1 C f (.ref a :: ([v] ++ [])) (upd H a (exo a C none))
    (fun u H2 => u = .non ∧ ∃ (d : Addr) (fs : List (Str × V)), H2 a = some (exo a C (some d)) ∧ H2 d = some (exd d fs) ∧ H d = none ∧ E (.ref C) (some d) (upd (del H2 a) d (.xd fs))) (fun _ _ _ => False) := by
  refine ⟨by show 1 ≤ 1000; decide, fun a ha => ⟨a, _, rfl, upd_same, fun dx hdx hne => ⟨rfl, dx, _, upd_same, by rw [upd_ne hne]; exact upd_same, ?_, ?_⟩⟩⟩
  · rw [upd_ne hne] at hdx; exact hdx
  · have hdx' : H dx = none := by rw [upd_ne hne] at hdx; exact hdx
    refine q dx _ (fun b o hb => ?_) hdx' upd_same
    have nb : b ≠ dx := ne_of_none hb hdx'
    have na : b ≠ a := ne_of_none hb ha
    rw [upd_ne nb, del_ne na, upd_ne na, upd_ne nb, upd_ne na]
    exact hb

/-! ### any, all of a generator expression whose element may call -/
section
open PySem.Spec PyProof.Rows
/-- the generator's own names are over; the captured ones are the def's -/
def gxEnv (X : Cx) (scope : Scope) (L : Addr) (code : Value) : Env := genEnv scope (cloFrom X.env.cells scope.names []) L code builtinsNs X.env
/-- the context of the generator's code, woken within any, all -/
def gxOf (X : Cx) (N : List Str) (scope : Scope) (code : Value) (s : Shared) (H : Hp) (ex : List Addr) (pn : List (Addr × Obj)) : Cx :=
  { X with A := X.A.in1.in1.deeper (gxEnv X scope s.heap.objs.size code), N := N, s_0 := s, H_0 := H, env := gxEnv X scope s.heap.objs.size code, outer := X.stack, stack := gxEnv X scope s.heap.objs.size code :: X.stack, ex := ex, fn := fun _ => false, calm := true, pn := pn, xe := fun _ _ => False }
variable {X : Cx} {pins : List (Addr × Obj)} {σ : L2.St} {H : Hp} {s : Shared}
/-- what stands in the generator's slots: names captured, with the def's values -/
def CapOk (X : Cx) (scope : Scope) (N : List Str) (σ τ : L2.St) : Prop :=
  τ.length = N.length ∧ ∀ (i : Nat) (y : Str) (v : V), N[i]? = some y → τ[i]? = some (some v) → scope.names.lookup y = some NameKind.free ∧ (X.env.kindOf y = some .cell ∨ X.env.kindOf y = some .free) ∧ Vis X.env.scope y ∧ ∃ j : Nat, X.N[j]? = some y ∧ σ[j]? = some (some v)
theorem gx_inv {N : List Str} {scope : Scope} {code : Value} {fp : List Addr} {a : Addr} {go : Obj} {τ : L2.St} {s5 : Shared} {m : Str → Option Value} (I : Inv X pins σ H s) (hd : X.A.handled = none) (hk : scope.kind = .function) (hfree : ∀ y ∈ scope.names, y.2 = .free → ∃ c, X.env.cells.lookup y.1 = some c) (hcell : ∀ y ∈ scope.names, y.2 ≠ .cell)
    (hfp : ∀ b ∈ fp, FpOk X pins H b ∧ ∃ o, s.heap.get? b = some o) (hos : s5.os = s.os) (hb : AllBare s5.gens) (keep : ∀ b o, s.heap.get? b = some o → s5.heap.get? b = some o) (hn : s5.heap.Ns s.heap.objs.size m) (ha : s5.heap.get? a = some go) (hal : s.heap.objs.size < a) (hgo : ∀ v, go.data ≠ .cell v)
    (hcap : CapOk X scope N σ τ) : Inv (gxOf X N scope code s H fp [(a, go)]) [] τ H s5 := by
  have env := I.env0
  have cm : ∀ y c, (gxEnv X scope s.heap.objs.size code).cells.lookup y = some c → X.env.cells.lookup y = some c := fun y c e => NdefX.clo_cm hfree e
  have free1 : H s.heap.objs.size = none := I.hok.fresh (Nat.le_refl _)
  refine ⟨⟨I.ok.mod, hk, I.ok.glob, rfl, Nat.le_refl _, fun x y c e1 e2 => I.ok.inj x y c (cm _ _ e1) (cm _ _ e2), fun y hy => ?_, fun x c e => absurd (show false = true from e) Bool.false_ne_true, fun _ => hd, Around.frames_deeper env.frames, .inr ⟨rfl, rfl⟩, fun b hbf => ?_, I.bs, env.bsz, fun b o e hbf => ?_, fun b hbf hst => ?_, env.funs, env.frf⟩,
    hos, hb, Un.kept keep, ⟨m, hn, fun i y v e1 e2 e3 => ?_⟩, fun y c e => ?_, free1, fun y c e => I.freeC y c (cm _ _ e), fun p hp => ?_, I.hok.kept keep, hcap.1⟩
  · have hy' : scope.names.lookup y = some .cell ∨ scope.names.lookup y = some .free := hy
    rcases hy' with h | h
    · exact absurd rfl (hcell _ (PySem.mem_of_lookup h))
    · obtain ⟨c, e⟩ := hfree _ (PySem.mem_of_lookup h) rfl
      exact ⟨c, NdefX.clo_has hfree (PySem.mem_of_lookup h) e⟩
  · obtain ⟨⟨f0, f1, f2, f3, f4, f5⟩, o, eo⟩ := hfp b hbf
    exact ⟨Nat.ne_of_lt (Heap.lt_size eo), fun x c e => f4 x c (cm _ _ e)⟩
  · obtain ⟨⟨f0, f1, f2, f3, f4, f5⟩, o', eo⟩ := hfp b hbf
    rcases f3 with f3 | f3
    · exact I.ok.noex b o e f3
    · exact absurd (Nat.lt_of_lt_of_le (Heap.lt_size e) (Nat.le_trans I.ok.bsz f3)) (Nat.lt_irrefl _)
  · obtain ⟨⟨f0, f1, f2, f3, f4, f5⟩, o', eo⟩ := hfp b hbf
    rcases List.mem_cons.mp (I.stkSub b hst) with z | z
    · exact f1 z
    · exact f2 z
  · obtain ⟨k1, k2, k3, j, k4, k5⟩ := hcap.2 i y v e1 e2
    obtain ⟨mx, hnx, hl⟩ := I.loc
    obtain ⟨u, ru, lk⟩ := hl j y v k4 k5 k3
    refine ⟨u, ru, .inr ⟨.inr k1, ?_⟩⟩
    rcases lk with ⟨q, _⟩ | ⟨q, c, ec, hc⟩
    · rcases k2 with k2 | k2 <;> (rw [k2] at q; cases q)
    · obtain ⟨oc, h1, h2⟩ := hc
      exact ⟨c, NdefX.clo_has hfree (PySem.mem_of_lookup k1) ec, oc, keep _ _ h1, h2⟩
  · obtain ⟨v, oc, h1, h2⟩ := I.cell y c (cm _ _ e)
    exact ⟨v, oc, keep _ _ h1, h2⟩
  · have e : p = (a, go) := by simpa [gxOf] using hp
    subst e
    have ge : s.heap.objs.size ≤ a := Nat.le_of_lt hal
    refine ⟨ha, I.hok.fresh ge, Nat.ne_of_gt hal, fun hst => ?_, hgo⟩
    obtain ⟨_, o, ho, _⟩ := env.funs.mem hst
    exact absurd (Nat.lt_of_lt_of_le (Heap.lt_size ho) ge) (Nat.lt_irrefl _)
end

section
open PySem.Spec PyProof.Rows
variable {X : Cx}
/-- the loop's reading: a turn's element is a bool; the one that is `stop` ends the walk, with Qs, or all are over, with Qe -/
def tGxW (J : It) (g : TG) (tt : TT) (te : TE) (stop : Bool) (Qs Qe : Hp → Prop) (W : Nat → Nat → L2.St → Hp → Prop) : Prop := ∀ i m τ H, W i m τ H →
  (J.stop i H ∧ Qe H) ∨ (J.go i H ∧ ∃ Nx : L2.St → Hp → Prop, (∀ τ' H', Nx τ' H' → ∃ m', m' < m ∧ W (i + 1) m' τ' H') ∧ ∀ x H', J.yld i H x H' → g x τ H' fun τ2 H2 => tt τ2 H2 fun b H3 => if b = true then te τ2 H3 fun y H4 => ∃ c, y = .bl c ∧ if c = stop then Qs H4 else Nx τ2 H4 else Nx τ2 H3)
def gxR (Y : Cx) (Qe : Hp → Prop) : GenEnd := fun _ _ r s1 => ((r = .ok (.ret .none) ∨ r = .ok .next) ∧ ∃ τ H, Inv Y [] τ H s1 ∧ Qe H) ∨ ∃ e, r = .error e ∧ False
def gxY (Y : Cx) (stop : Bool) (Qs : Hp → Prop) : Protocol := fun _ _ v s1 kap => ∃ (c : Bool) (τ : L2.St) (H : Hp), v = .bool c ∧ Inv Y [] τ H s1 ∧ (c = stop → Qs H) ∧ (c ≠ stop → ∀ s', s'.heap = s1.heap → s'.os = s1.os → AllBare s'.gens → kap (.send .none) s')
theorem gx_loop {N : List Str} {scope : Scope} {code : Value} {s0 : Shared} {H0 : Hp} {fp : List Addr} {pn : List (Addr × Obj)} {elt iter tg : Expr} {ifs : List Expr} {tt : TT} {gpos : Pos} {it : Addr} {tn : Nat → Heap → Prop} {J : It} {g : TG} {te : TE} {stop : Bool} {Qs Qe : Hp → Prop} {W : Nat → Nat → L2.St → Hp → Prop}
    (hd : X.A.handled = none) (hco : scope.isCoroutine = false) (T : Turn X.prog X.w X.K tg J fp it tn) (hg : PG (gxOf X N scope code s0 H0 fp pn) tg g) (ht : PTs (gxOf X N scope code s0 H0 fp pn) ifs tt) (he : PE (gxOf X N scope code s0 H0 fp pn) elt te)
    (stat : ∀ {H' : Hp}, (∀ b ∈ fp, H' b = none) → ∀ b ∈ fp, FpOk (gxOf X N scope code s0 H0 fp pn) [] H' b) (turn : tGxW J g tt te stop Qs Qe W) :
    ∀ (m n i : Nat) (s₀ s : Shared) (τ : L2.St) (H : Hp), m < n → W i m τ H → Inv (gxOf X N scope code s0 H0 fp pn) [] τ H s → tn i s.heap → (∀ b ∈ fp, H b = none) →
      Seg (model X.prog X.w) X.A.in1.in1 (gxR (gxOf X N scope code s0 H0 fp pn) Qe) (gxY (gxOf X N scope code s0 H0 fp pn) stop Qs) n s₀
        (.compLoop (.GeneratorExp elt [⟨tg, iter, ifs, 0⟩] scope gpos) 0 (.ref it) .none (gxEnv X scope s0.heap.objs.size code))
        ((model X.prog X.w).den (.compLoop (.GeneratorExp elt [⟨tg, iter, ifs, 0⟩] scope gpos) 0 (.ref it) .none (gxEnv X scope s0.heap.objs.size code))) [] s := by
  intro m
  induction m using Nat.strongRecOn with
  | ind m ih =>
    intro n1 i s₀ s τ H hmn w I st fr
    obtain ⟨n, rfl⟩ : ∃ n, n1 = n + 1 := ⟨n1 - 1, by omega⟩
    show Seg _ _ _ _ _ s₀ _ ((compTurn (.GeneratorExp elt [⟨tg, iter, ifs, 0⟩] scope gpos) 0 (.ref it) .none (gxEnv X scope s0.heap.objs.size code)).onRaise (leaving (gxEnv X scope s0.heap.objs.size code))) [] s
    rw [compTurn_gen, Sem.onRaise_eq_wrap]
    refine seg_bind_wrap (wpAny_standAt ?_)
    rcases turn i m τ H w with ⟨stp, qe⟩ | ⟨go, Nx, hN, step⟩
    · refine seg_bind_wrap ?_
      refine wpAny_mono (T.done (gxOf X N scope code s0 H0 fp pn) rfl rfl rfl rfl i [] s τ H (fun _ _ => False) I (stat fr) st stp) (fun r s1 hr => ?_) fun _ _ z => z.elim
      obtain ⟨rfl, I1⟩ := hr
      exact seg_end (.ok .next) (.inl ⟨.inr rfl, τ, H, I1, qe⟩)
    · refine seg_bind_wrap ?_
      refine wpAny_mono (T.item (gxOf X N scope code s0 H0 fp pn) rfl rfl rfl rfl i [] s τ H (fun _ _ => False) I (stat fr) st go) (fun r s1 hr => ?_) fun _ _ z => z.elim
      obtain ⟨u, rfl, h1⟩ := hr
      refine seg_bind_wrap (wpAny_mono h1 (fun _ s2 h2 => ?_) fun _ _ z => z.elim)
      obtain ⟨x, H2, I2, r2, y2, st2, fr2⟩ := h2
      have I2' := I2.pinned (stat fr2) (T.obj _ _ st2)
      refine seg_bind_wrap (wpAny_mono (hg.run _ s2 τ H2 x u _ I2' r2 (step x H2 y2)) (fun _ s3 h3 => ?_) fun _ _ z => z.elim)
      obtain ⟨τ3, H3, I3, q3⟩ := h3
      have later : ∀ {s7 s8 : Shared} {H7 : Hp}, Inv (gxOf X N scope code s0 H0 fp pn) ([] ++ pinsAt fp s2.heap) τ3 H7 s7 → Nx τ3 H7 → s8.heap = s7.heap → s8.os = s7.os → AllBare s8.gens → ∀ s₀' k, n ≤ k →
          Seg (model X.prog X.w) X.A.in1.in1 (gxR (gxOf X N scope code s0 H0 fp pn) Qe) (gxY (gxOf X N scope code s0 H0 fp pn) stop Qs) k s₀'
            (.compLoop (.GeneratorExp elt [⟨tg, iter, ifs, 0⟩] scope gpos) 0 (.ref it) .none (gxEnv X scope s0.heap.objs.size code))
            ((model X.prog X.w).den (.compLoop (.GeneratorExp elt [⟨tg, iter, ifs, 0⟩] scope gpos) 0 (.ref it) .none (gxEnv X scope s0.heap.objs.size code))) [] s8 := fun {s7 s8 H7} I7 n7 eh eo eb s₀' k hnk => by
        obtain ⟨m', hm, w7⟩ := hN τ3 H7 n7
        have I7u : Inv (gxOf X N scope code s0 H0 fp pn) [] τ3 H7 s7 := I7.unpinned
        have st7 : tn (i + 1) s7.heap := T.keep _ _ _ st2 fun b hb o e => (I7.pin (b, o) (List.mem_append_right _ (List.mem_append_right _ (mem_pinsAt hb e)))).1
        refine ih m' hm k (i + 1) s₀' s8 τ3 H7 (by omega) w7 ?_ (by rw [eh]; exact st7) fun b hb => ?_
        · obtain ⟨h8, g8, d8, t8, o8⟩ := s8
          have e1 : h8 = s7.heap := eh
          have e2 : o8 = s7.os := eo
          subst e1 e2
          exact ⟨I7u.ok, I7u.os, eb, I7u.base, I7u.loc, I7u.cell, I7u.free, I7u.freeC, I7u.pin, I7u.hok, I7u.len⟩
        · obtain ⟨o, e, _⟩ := T.obj _ _ st2 b hb
          exact (I7.pin (b, o) (List.mem_append_right _ (List.mem_append_right _ (mem_pinsAt hb e)))).2.1
      refine seg_bind_wrap (wpAny_mono (ht.run _ s3 τ3 H3 _ I3 q3) (fun b s4 h4 => ?_) fun _ _ z => z.elim)
      obtain ⟨H4, I4, q4⟩ := h4
      cases b with
      | false =>
        rw [if_neg Bool.false_ne_true] at q4
        simp only [Bool.false_eq_true, if_false]
        exact seg_again rfl (later I4 q4 rfl rfl I4.bare s₀ (n + 1) (Nat.le_succ n))
      | true =>
        rw [if_pos rfl] at q4
        simp only [if_true]
        have plain : ∀ v, yieldOut (gxEnv X scope s0.heap.objs.size code) v = yieldValue v := fun v => by
          unfold yieldOut
          rw [if_neg (by show ¬ (scope.isCoroutine = true); rw [hco]; exact Bool.false_ne_true)]
        simp only [plain]
        rw [Sem.bind_eq_wrap', Sem.bind_eq_wrap', Sem.wrap_wrap, Sem.wrap_wrap]
        refine seg_wrap (wpAny_mono (he.run _ s4 τ3 H4 _ I4 q4) (fun y s5 h5 => ?_) fun _ _ z => z.elim)
        obtain ⟨y1, H5, I5, r5, c, ey, q5⟩ := h5
        subst ey
        obtain rfl : y = .bool c := r5
        refine seg_at (seg_yield rfl rfl rfl ⟨c, τ3, H5, rfl, I5.unpinned, fun e => ?_, fun e s6 eh eo eb => ?_⟩)
        · rw [if_pos e] at q5; exact q5
        · rw [if_neg e] at q5
          exact seg_again rfl (later I5 q5 eh eo eb s6 n (Nat.le_refl n))
end

section
open PySem.Spec PyProof.Rows GenW
variable {X : Cx}
theorem gx_start {N : List Str} {scope : Scope} {code : Value} {s0 : Shared} {H0 : Hp} {fp : List Addr} {pn : List (Addr × Obj)} {elt iter tg : Expr} {ifs : List Expr} {tt : TT} {gpos : Pos} {it : Addr} {tn : Nat → Heap → Prop} {J : It} {g : TG} {te : TE} {stop : Bool} {Qs Qe : Hp → Prop} {W : Nat → Nat → L2.St → Hp → Prop}
    (hd : X.A.handled = none) (hco : scope.isCoroutine = false) (T : Turn X.prog X.w X.K tg J fp it tn) (hg : PG (gxOf X N scope code s0 H0 fp pn) tg g) (ht : PTs (gxOf X N scope code s0 H0 fp pn) ifs tt) (he : PE (gxOf X N scope code s0 H0 fp pn) elt te)
    (stat : ∀ {H' : Hp}, (∀ b ∈ fp, H' b = none) → ∀ b ∈ fp, FpOk (gxOf X N scope code s0 H0 fp pn) [] H' b) (turn : tGxW J g tt te stop Qs Qe W) {m n : Nat} {s₀ s : Shared} {τ : L2.St} {H : Hp} (hmn : m < n) (w0 : W 0 m τ H) (I : Inv (gxOf X N scope code s0 H0 fp pn) [] τ H s) (st : tn 0 s.heap) (fr : ∀ b ∈ fp, H b = none) :
    Seg (model X.prog X.w) X.A.in1.in1 (gxR (gxOf X N scope code s0 H0 fp pn) Qe) (gxY (gxOf X N scope code s0 H0 fp pn) stop Qs) n s₀
        (.compStart (.GeneratorExp elt [⟨tg, iter, ifs, 0⟩] scope gpos) 0 (.ref it) .none (gxEnv X scope s0.heap.objs.size code))
        ((model X.prog X.w).den (.compStart (.GeneratorExp elt [⟨tg, iter, ifs, 0⟩] scope gpos) 0 (.ref it) .none (gxEnv X scope s0.heap.objs.size code))) [] s := by
  have go := gx_loop (iter := iter) (gpos := gpos) hd hco T hg ht he stat turn m n 0 s₀ s τ H hmn w0 I st fr
  show Seg _ _ _ _ _ s₀ _ ((compStart (.GeneratorExp elt [⟨tg, iter, ifs, 0⟩] scope gpos) 0 (.ref it) .none (gxEnv X scope s0.heap.objs.size code)).onRaise (leaving (gxEnv X scope s0.heap.objs.size code))) [] s
  unfold compStart
  rw [Sem.onRaise_eq_wrap]
  show Seg _ _ _ _ _ s₀ _ ((ask >>= _).wrap _ _ _ _) [] s
  refine seg_bind_wrap (wpAny_askSetting ?_)
  split
  · exact seg_again rfl go
  · refine seg_bind_wrap (wpAny_rule ?_)
    first
      | exact seg_bind_wrap (wpAny_standAt (seg_bind_wrap (T.self _ 0 s _ _ st (seg_again rfl go))))
      | (show Seg _ _ _ _ _ s₀ _ ((standAt iter.pos >>= _).wrap _ _ _ _) [] s; exact seg_bind_wrap (wpAny_standAt (seg_bind_wrap (T.self _ 0 s _ _ st (seg_again rfl go)))))
theorem isGen_of {h : Heap} {a : Addr} {g : Nat} {go : Obj} {nm qn : Value} (e : h.get? a = some go) (h1 : go.cls = .type "generator") (h2 : go.data = .fields #[.int g 0, nm, qn]) (h3 : go.slots = #[]) : h.IsGen a g := ⟨go, nm, qn, e, h1, h2, h3⟩
theorem gx_any {Y : Cx} {a : Addr} {g : Nat} {stop : Bool} {Qs Qe : Hp → Prop} {R : Result → Shared → Prop} (hP : Y.prog = X.prog ∧ Y.w = X.w) (hr : Room 1 X.A) (hgen : ∀ {τ : L2.St} {H : Hp} {s : Shared}, Inv Y [] τ H s → s.heap.IsGen a g)
    (hs : ∀ s1 s' τ H, Inv Y [] τ H s1 → Qs H → s'.os = s1.os → AllBare s'.gens → (∀ b o, s1.heap.get? b = some o → s'.heap.get? b = some o) → stop = true → R (.ok (.ret (.bool true))) s')
    (he : ∀ s1 s' τ H, Inv Y [] τ H s1 → Qe H → s'.os = s1.os → AllBare s'.gens → (∀ b o, s1.heap.get? b = some o → s'.heap.get? b = some o) → stop = true → R (.ok (.ret (.bool false))) s') (hst : stop = true) :
    ∀ (n : Nat) (s : Shared), s.heap.IsGen a g → s.heap.NoLimit → (∃ gs, s.gens[g]? = some gs ∧ gs.Goes (model X.prog X.w) X.A.in1.in1 (gxR Y Qe) (gxY Y stop Qs) n (.send .none) (s.setGen g .running)) →
      codeAny (model X.prog X.w) X.A (.builtin "any.loop" ⟨[.ref a], []⟩) R s := by
  intro n
  induction n with
  | zero =>
    intro s hg hl ⟨gs, hgs, hgo⟩
    refine codeAny_builtin PySem.F.entry_any_loop ?_
    rw [Around.under_plainId PySem.F.plain_any_loop _]
    show wpAny _ X.A.in1 (pyNext (.ref a) >>= _) _ _ s
    refine wpAny_bind (next_genG (A := X.A.in1) hr.hd hl (by have := hr.dp; show X.A.depth < _; omega) hg hgs hgo (fun v s1 gs' hbare hv => ?_) (fun s1 hp h' hk => ?_) fun e s1 hF => hF.elim)
    · obtain ⟨c, τ, H, rfl, I, q1, q2⟩ := hv
      have bare1 := allBare_setGen (g := g) I.bare hbare
      refine wpAny_bind (wpAny_holding (wpAny_truthy_bool (wpAny_bind (wpAny_letGo ?_))))
      cases c with
      | true =>
        rw [if_pos rfl]
        exact wpAny_bind (wpAny_rule (wpAny_pure (hs s1 _ τ H I (q1 hst.symm) rfl bare1 (fun _ _ e => e) hst)))
      | false =>
        rw [if_neg Bool.false_ne_true]
        have ne : false ≠ stop := by rw [hst]; exact Bool.false_ne_true
        exact (q2 ne s1 rfl rfl I.bare).elim
    · obtain ⟨τ, H, I, qe⟩ := hp
      exact wpAny_bind (wpAny_rule (wpAny_pure (he s1 _ τ H I qe rfl (allBare_setGen I.bare rfl) hk hst)))
  | succ n ih =>
    intro s hg hl ⟨gs, hgs, hgo⟩
    have hgl : g < s.gens.size := (Array.getElem?_eq_some_iff.mp hgs).1
    refine codeAny_builtin PySem.F.entry_any_loop ?_
    rw [Around.under_plainId PySem.F.plain_any_loop _]
    show wpAny _ X.A.in1 (pyNext (.ref a) >>= _) _ _ s
    refine wpAny_bind (wpAny_gsz (n := g + 1) hgl (next_genG (A := X.A.in1) hr.hd hl (by have := hr.dp; show X.A.depth < _; omega) hg hgs hgo (fun v s1 gs' hbare hv => ?_) (fun s1 hp h' hk => ?_) fun e s1 hF => hF.elim))
    · intro hsz
      obtain ⟨c, τ, H, rfl, I, q1, q2⟩ := hv
      have bare1 := allBare_setGen (g := g) I.bare hbare
      refine wpAny_bind (wpAny_holding (wpAny_truthy_bool (wpAny_bind (wpAny_letGo ?_))))
      cases c with
      | true =>
        rw [if_pos rfl]
        exact wpAny_bind (wpAny_rule (wpAny_pure (hs s1 _ τ H I (q1 hst.symm) rfl bare1 (fun _ _ e => e) hst)))
      | false =>
        rw [if_neg Bool.false_ne_true]
        have ne : false ≠ stop := by rw [hst]; exact Bool.false_ne_true
        have szg : g < s1.gens.size := by
          have q : (s1.setGen g gs').gens.size = s1.gens.size := setGen_size _ _ _
          have hsz' : g + 1 ≤ (s1.setGen g gs').gens.size := hsz
          omega
        have hgI : s1.heap.IsGen a g := hgen I
        have hlI : s1.heap.NoLimit := I.nolimit
        exact wpAny_pure ⟨plainId_quiet PySem.F.plain_any_loop _, ih (s1.setGen g gs') hgI hlI ⟨gs', setGen_at szg, q2 ne _ rfl rfl (allBare_setGen bare1 rfl)⟩⟩
    · intro hsz
      obtain ⟨τ, H, I, qe⟩ := hp
      exact wpAny_bind (wpAny_rule (wpAny_pure (he s1 _ τ H I qe rfl (allBare_setGen I.bare rfl) hk hst)))
theorem gx_all {Y : Cx} {a : Addr} {g : Nat} {stop : Bool} {Qs Qe : Hp → Prop} {R : Result → Shared → Prop} (hP : Y.prog = X.prog ∧ Y.w = X.w) (hr : Room 1 X.A) (hgen : ∀ {τ : L2.St} {H : Hp} {s : Shared}, Inv Y [] τ H s → s.heap.IsGen a g)
    (hs : ∀ s1 s' τ H, Inv Y [] τ H s1 → Qs H → s'.os = s1.os → AllBare s'.gens → (∀ b o, s1.heap.get? b = some o → s'.heap.get? b = some o) → stop = false → R (.ok (.ret (.bool false))) s')
    (he : ∀ s1 s' τ H, Inv Y [] τ H s1 → Qe H → s'.os = s1.os → AllBare s'.gens → (∀ b o, s1.heap.get? b = some o → s'.heap.get? b = some o) → stop = false → R (.ok (.ret (.bool true))) s') (hst : stop = false) :
    ∀ (n : Nat) (s : Shared), s.heap.IsGen a g → s.heap.NoLimit → (∃ gs, s.gens[g]? = some gs ∧ gs.Goes (model X.prog X.w) X.A.in1.in1 (gxR Y Qe) (gxY Y stop Qs) n (.send .none) (s.setGen g .running)) →
      codeAny (model X.prog X.w) X.A (.builtin "all.loop" ⟨[.ref a], []⟩) R s := by
  intro n
  induction n with
  | zero =>
    intro s hg hl ⟨gs, hgs, hgo⟩
    refine codeAny_builtin PySem.F.entry_all_loop ?_
    rw [Around.under_plainId PySem.F.plain_all_loop _]
    show wpAny _ X.A.in1 (pyNext (.ref a) >>= _) _ _ s
    refine wpAny_bind (next_genG (A := X.A.in1) hr.hd hl (by have := hr.dp; show X.A.depth < _; omega) hg hgs hgo (fun v s1 gs' hbare hv => ?_) (fun s1 hp h' hk => ?_) fun e s1 hF => hF.elim)
    · obtain ⟨c, τ, H, rfl, I, q1, q2⟩ := hv
      have bare1 := allBare_setGen (g := g) I.bare hbare
      refine wpAny_bind (wpAny_holding (wpAny_truthy_bool (wpAny_bind (wpAny_letGo ?_))))
      cases c with
      | false =>
        rw [if_neg Bool.false_ne_true]
        exact wpAny_bind (wpAny_rule (wpAny_pure (hs s1 _ τ H I (q1 hst.symm) rfl bare1 (fun _ _ e => e) hst)))
      | true =>
        rw [if_pos rfl]
        have ne : true ≠ stop := by rw [hst]; exact fun z => Bool.false_ne_true z.symm
        exact (q2 ne s1 rfl rfl I.bare).elim
    · obtain ⟨τ, H, I, qe⟩ := hp
      exact wpAny_bind (wpAny_rule (wpAny_pure (he s1 _ τ H I qe rfl (allBare_setGen I.bare rfl) hk hst)))
  | succ n ih =>
    intro s hg hl ⟨gs, hgs, hgo⟩
    have hgl : g < s.gens.size := (Array.getElem?_eq_some_iff.mp hgs).1
    refine codeAny_builtin PySem.F.entry_all_loop ?_
    rw [Around.under_plainId PySem.F.plain_all_loop _]
    show wpAny _ X.A.in1 (pyNext (.ref a) >>= _) _ _ s
    refine wpAny_bind (wpAny_gsz (n := g + 1) hgl (next_genG (A := X.A.in1) hr.hd hl (by have := hr.dp; show X.A.depth < _; omega) hg hgs hgo (fun v s1 gs' hbare hv => ?_) (fun s1 hp h' hk => ?_) fun e s1 hF => hF.elim))
    · intro hsz
      obtain ⟨c, τ, H, rfl, I, q1, q2⟩ := hv
      have bare1 := allBare_setGen (g := g) I.bare hbare
      refine wpAny_bind (wpAny_holding (wpAny_truthy_bool (wpAny_bind (wpAny_letGo ?_))))
      cases c with
      | false =>
        rw [if_neg Bool.false_ne_true]
        exact wpAny_bind (wpAny_rule (wpAny_pure (hs s1 _ τ H I (q1 hst.symm) rfl bare1 (fun _ _ e => e) hst)))
      | true =>
        rw [if_pos rfl]
        have ne : true ≠ stop := by rw [hst]; exact fun z => Bool.false_ne_true z.symm
        have szg : g < s1.gens.size := by
          have q : (s1.setGen g gs').gens.size = s1.gens.size := setGen_size _ _ _
          have hsz' : g + 1 ≤ (s1.setGen g gs').gens.size := hsz
          omega
        have hgI : s1.heap.IsGen a g := hgen I
        have hlI : s1.heap.NoLimit := I.nolimit
        exact wpAny_pure ⟨plainId_quiet PySem.F.plain_all_loop _, ih (s1.setGen g gs') hgI hlI ⟨gs', setGen_at szg, q2 ne _ rfl rfl (allBare_setGen bare1 rfl)⟩⟩
    · intro hsz
      obtain ⟨τ, H, I, qe⟩ := hp
      exact wpAny_bind (wpAny_rule (wpAny_pure (he s1 _ τ H I qe rfl (allBare_setGen I.bare rfl) hk hst)))
end

section
open PySem.Spec PyProof.Rows GenW GxR
variable {X : Cx} {pins : List (Addr × Obj)} {σ : L2.St}
/-- a generator that has not begun, ready for any, all -/
def GxReady (X : Cx) (pins : List (Addr × Obj)) (σ : L2.St) (stop : Bool) (Qs Qe : Hp → Prop) (a : Addr) (s5 : Shared) : Prop := ∃ (Y : Cx) (g n : Nat), Y.prog = X.prog ∧ Y.w = X.w ∧ (∀ {τ : L2.St} {H : Hp} {s : Shared}, Inv Y [] τ H s → s.heap.IsGen a g) ∧
  (∀ {τ : L2.St} {H : Hp} {s1 s' : Shared}, Inv Y [] τ H s1 → s'.os = s1.os → AllBare s'.gens → (∀ b o, s1.heap.get? b = some o → s'.heap.get? b = some o) → Inv X pins σ H s') ∧ s5.heap.IsGen a g ∧ s5.heap.NoLimit ∧
  ∃ gs, s5.gens[g]? = some gs ∧ gs.Goes (model X.prog X.w) X.A.in1.in1 (gxR Y Qe) (gxY Y stop Qs) n (.send .none) (s5.setGen g .running)
/-- the slots of the generator: none for its own names, the def's j-th for a captured one -/
def capSt (js : List (Option Nat)) (σ : L2.St) : L2.St := js.map fun o => match o with | none => none | some j => (σ[j]?).getD none
def tGx (P : Addr) (js : List (Option Nat)) (wi : TI) (g : TG) (tt : TT) (te : TE) (stop : Bool) : TE := fun σ H Q => wi σ H fun J H1 => TabG H1 P ∧ ∀ H2, Tabbed P H1 H2 → ∃ W : Nat → Nat → L2.St → Hp → Prop, (∃ m, W 0 m (capSt js σ) H2) ∧ tGxW J g tt te stop (fun H' => Q (.bl stop) H') (fun H' => Q (.bl (!stop)) H') W
/-- what a generator's scope needs -/
structure GxS (env : Env) (scope : Scope) : Prop where
  kind : scope.kind = .function
  co : scope.isCoroutine = false
  cell : ∀ y ∈ scope.names, y.2 ≠ .cell
  dot : scope.names.lookup (".0" : Str) = some NameKind.local
  free : ∀ y ∈ scope.names, y.2 = .free → ∃ c, env.cells.lookup y.1 = some c
theorem gx_made {c P : Addr} {elt iter tg : Expr} {ifs : List Expr} {gpos : Pos} {scope : Scope} {N : List Str} {js : List (Option Nat)} {wi : TI} {g : TG} {tt : TT} {te : TE} {k : Nat} {stop : Bool} {H : Hp} {s : Shared} {Q : VK} {Q' : Value → Shared → Prop} (hr : Room k X.A) (hcal : X.calm = true) (TB : TabB X.base X.mg c P) (hcode : X.env.code = .ref c) (S : GxS X.env scope)
    (hcap : ∀ σ : L2.St, CapOk X scope N σ (capSt js σ)) (hi : PI X tg iter wi) (hg : ∀ code s H ex pn, PG (gxOf X N scope code s H ex pn) tg g) (ht : ∀ code s H ex pn, PTs (gxOf X N scope code s H ex pn) ifs tt) (he : ∀ code s H ex pn, PE (gxOf X N scope code s H ex pn) elt te)
    (hs : ∀ v, genFold iter X.env v = pure v) (I : Inv X pins σ H s) (h : tGx P js wi g tt te stop σ H Q) (hQ : ∀ a s5, GxReady X pins σ stop (fun H' => Q (.bl stop) H') (fun H' => Q (.bl (!stop)) H') a s5 → Q' (.ref a) s5) :
    wpAny (model X.prog X.w) X.A (eval (.GeneratorExp elt [⟨tg, iter, ifs, 0⟩] scope gpos) X.env) Q' X.xe s := by
  refine wpAny_GeneratorExp_make S.co (closure_ok S.free) S.cell S.dot S.kind (by have := hr.dp; omega) ?_ hs
  refine thn (hi.run pins s σ H _ I h) fun xv s1 h1 => thn h1 fun itv s2 h2 => ?_
  obtain ⟨it, fp, tn, J, H1, rfl, I2, T, st2, f2, hP, step⟩ := h2
  obtain ⟨ps, eP, tr⟩ := hP
  have lim2 : s2.heap.NoLimit := I2.nolimit
  refine ⟨lim2, ?_⟩
  have hPs : s2.heap.get? P = some { cls := .none, data := .fields ps } := I2.hok P _ eP
  have cd : PySem.W.CodeHd s2.heap c P := TB.code.keeps fun b u e => I2.bk b u e
  have cont : ∀ (code : Value) (h3 : Heap) (tk : Nat) (ps' : Array Value), Heap.ExtBut P s2.heap h3 → s2.heap.objs.size ≤ h3.objs.size → h3.get? P = some { cls := .none, data := .fields ps' } → (∃ more, ps' = ps ++ more) → TriplesOk ps'.toList →
      wpAny (model X.prog X.w) X.A (builtinsFor X.env.globals X.env.builtins) (fun bi s4 => ∀ h', h'.Ns s4.heap.objs.size (fun (y : Str) => if y = ".0" then some (.ref it) else none) → Heap.SameBut s4.heap.objs.size (s4.heap.push { cls := .type "frame", data := .dict #[] }) h' →
        Q' (.ref h'.objs.size) { s4 with gens := s4.gens.push (.fresh (.compStart (.GeneratorExp elt [⟨tg, iter, ifs, 0⟩] scope gpos) 0 (.ref it) .none (genEnv scope (cloFrom X.env.cells scope.names []) s4.heap.objs.size code bi X.env))), toks := s4.toks + 1 + 1 + 1, heap := h'.push { cls := .type "generator", data := .fields #[.int s4.gens.size 0, .str "<genexpr>" (s4.toks + 1), .str (X.env.qual ++ "<genexpr>") (s4.toks + 1 + 1)] } }) X.xe { s2 with heap := h3, toks := tk } := by
    intro code h3 tk ps' hx hsz hP3 hmore ht3
    obtain ⟨bm, ob, e1, e2, e3, e4, e5, e6, e7, e8⟩ := TB.bm
    obtain ⟨more, rfl⟩ := hmore
    have kp3 : ∀ b u, b ≠ P → s2.heap.get? b = some u → h3.get? b = some u := fun b u hb e => hx b u hb e
    refine wpAny_builtinsFor (m := X.mg) (by rw [I2.ok.glob]; exact (I2.mod.glob.keeps I2.bk).extBut hx TB.gP) e1 e2 (kp3 _ _ e4 (I2.bk _ _ e5)) e6 e7 e8 ?_
    intro h' hn hsb
    obtain ⟨s4, hs4⟩ : ∃ s4 : Shared, s4 = { s2 with heap := h3, toks := tk } := ⟨_, rfl⟩
    have s4h : s4.heap = h3 := by rw [hs4]
    have J4 : Inv X pins σ (upd H1 P (.tbl (ps ++ more))) s4 := by
      rw [hs4]
      exact inv_tab (h' := h3) (g' := s2.gens) (d' := s2.drawn) (t' := tk) I2 eP kp3 hP3 I2.bare
    have fpP : ∀ b ∈ fp, b ≠ P := fun b hb e => by
      have := (f2 b hb).1
      rw [e, eP] at this; cases this
    have f4 : ∀ b ∈ fp, FpOk X pins (upd H1 P (.tbl (ps ++ more))) b ∧ ∃ o, s4.heap.get? b = some o := fun b hb => by
      obtain ⟨o, e, _⟩ := T.obj _ _ st2 b hb
      obtain ⟨g0, g1⟩ := f2 b hb
      exact ⟨⟨by rw [upd_ne (fpP b hb)]; exact g0, g1⟩, o, by rw [s4h]; exact kp3 b o (fpP b hb) e⟩
    have st4 : tn 0 s4.heap := by rw [s4h]; exact T.keep _ _ _ st2 fun b hb o e => kp3 b o (fpP b hb) e
    obtain ⟨W, ⟨m0, w0⟩, turn⟩ := step (upd H1 P (.tbl (ps ++ more))) ⟨⟨ps ++ more, upd_same, ht3⟩, fun b hb => upd_ne hb⟩
    show Q' (.ref h'.objs.size) _
    have hn4 : h'.Ns s4.heap.objs.size (fun (y : Str) => if y = ".0" then some (.ref it) else none) := by rw [s4h]; exact hn
    have sz' : h'.objs.size = s4.heap.objs.size + 1 := by rw [s4h]; rw [hsb.1, Heap.size_push]
    have k4 : ∀ b o, s4.heap.get? b = some o → h'.get? b = some o := fun b o e => by
      rw [s4h] at e
      exact hsb.extBut b o (Nat.ne_of_lt (Heap.lt_size e)) (Heap.get?_push_of_some _ e)
    obtain ⟨go, hgo⟩ : ∃ go : Obj, go = { cls := .type "generator", data := .fields #[.int s2.gens.size 0, .str "<genexpr>" (tk + 1), .str (X.env.qual ++ "<genexpr>") (tk + 1 + 1)] } := ⟨_, rfl⟩
    have kg : ∀ b o, s4.heap.get? b = some o → (h'.push go).get? b = some o := fun b o e => Heap.get?_push_of_some _ (k4 b o e)
    have eg : (h'.push go).get? h'.objs.size = some go := Heap.get?_push_size _ (by rw [hgo]; rfl)
    have gcell : ∀ v, go.data ≠ .cell v := fun v q => by rw [hgo] at q; cases q
    have isg : ∀ {h : Heap}, h.get? h'.objs.size = some go → h.IsGen h'.objs.size s2.gens.size := fun {h} e => ⟨go, _, _, e, by rw [hgo], by rw [hgo], by rw [hgo]⟩
    have lim5 : (h'.push go).NoLimit := J4.nolimit.keeps kg
    rw [← hgo]
    refine hQ _ _ ⟨gxOf X N scope code s4 (upd H1 P (.tbl (ps ++ more))) fp [(h'.objs.size, go)], s2.gens.size, m0 + 1, rfl, rfl, fun {τ H s} J => isg (J.pin (h'.objs.size, go) (List.mem_append_left _ (List.mem_singleton.mpr rfl))).1, fun {τ H s1 s'} J eo eb kk => ?_, isg eg, lim5, _, Array.getElem?_push_size .., rfl, ?_⟩
    · exact J4.call' (ch := fp) (eo.trans J.os) (J.base.trans (Un.kept kk)) (J.hok.kept kk) eb fun b hb => by
        obtain ⟨g0, g1, g2, g3, g4, g5⟩ := (f4 b hb).1
        exact ⟨g3, g1, g4, g5⟩
    · subst hs4
      have bare5 : AllBare (s2.gens.push (GenState.fresh (.compStart (.GeneratorExp elt [⟨tg, iter, ifs, 0⟩] scope gpos) 0 (.ref it) .none (gxEnv X scope h3.objs.size code)))) := AllBare.push I2.bare rfl
      have J5 : Inv (gxOf X N scope code { s2 with heap := h3, toks := tk } (upd H1 P (.tbl (ps ++ more))) fp [(h'.objs.size, go)]) [] (capSt js σ) (upd H1 P (.tbl (ps ++ more))) (Shared.setGen { s2 with gens := s2.gens.push (GenState.fresh (.compStart (.GeneratorExp elt [⟨tg, iter, ifs, 0⟩] scope gpos) 0 (.ref it) .none (gxEnv X scope h3.objs.size code))), toks := tk + 1 + 1 + 1, heap := h'.push go } s2.gens.size .running) :=
        gx_inv (m := fun (y : Str) => if y = ".0" then some (.ref it) else none) J4 hr.hd S.kind S.free S.cell f4 rfl (allBare_setGen bare5 rfl) kg (hn4.push _) eg (by rw [sz']; exact Nat.lt_succ_self _) gcell (hcap σ)
      refine gx_start (n := m0 + 1) hr.hd S.co T (hg _ _ _ _ _) (ht _ _ _ _ _) (he _ _ _ _ _) (fun {H'} hn0 b hb => ?_) turn (Nat.lt_succ_self m0) w0 J5 (T.keep _ _ _ st4 fun b hb o e => kg b o e) fun b hb => (f4 b hb).1.1
      obtain ⟨x1, x2⟩ := J5.ok.exf b hb
      refine ⟨hn0 b hb, x1, J5.ok.exfs b hb, .inl hb, x2, fun p hp e => ?_⟩
      have ep : p = (h'.objs.size, go) := by simpa [gxOf] using hp
      obtain ⟨o, eo⟩ := (f4 b hb).2
      have lt := Heap.lt_size eo
      rw [← e, ep] at lt
      have lt2 : (h'.objs.size : Nat) < h3.objs.size := lt
      have e3 : (h'.objs.size : Nat) = h3.objs.size + 1 := sz'
      omega
  cases hf : codeAmong gpos ps.toList with
  | none =>
    refine wpAny_genexprCodeX hcode (cd.code hPs tr) (cd.tab hPs) hf fun c' h' tk hx hge hlt hco' _ htab' _ => ?_
    obtain ⟨o1, vs, f1, tf, fl, tg', inF, tx, t2, op, _, _, _, _, _, _, _, _, _, htr, _⟩ := hco'
    exact cont _ h' tk _ hx (Nat.le_trans hge (Nat.le_of_lt hlt)) htab'.2 ⟨_, rfl⟩ htr
  | some cv =>
    refine wpAny_genexprCode_hit hcode (cd.code hPs tr) hf ?_
    exact cont cv s2.heap s2.toks ps (Heap.ExtBut.refl _ _) (Nat.le_refl _) hPs ⟨#[], by simp⟩ tr
end

section
open PySem.Spec PyProof.Rows GenW GxR
variable {X : Cx}
theorem pe_anyX {c P : Addr} {elt iter tg : Expr} {ifs : List Expr} {p pos gpos : Pos} {scope : Scope} {N : List Str} {js : List (Option Nat)} {wi : TI} {g : TG} {tt : TT} {te : TE} {k : Nat} (hr : Room (k + 1) X.A) (hcal : X.calm = true) (hgl : Gl X "any") (hmg : X.mg "any" = none) (TB : TabB X.base X.mg c P) (hcode : X.env.code = .ref c) (S : GxS X.env scope)
    (hcap : ∀ σ : L2.St, CapOk X scope N σ (capSt js σ)) (hi : PI X tg iter wi) (hg : ∀ code s H ex pn, PG (gxOf X N scope code s H ex pn) tg g) (ht : ∀ code s H ex pn, PTs (gxOf X N scope code s H ex pn) ifs tt) (he : ∀ code s H ex pn, PE (gxOf X N scope code s H ex pn) elt te) (hs : ∀ v, genFold iter X.env v = pure v)
    (hst : starEach [.GeneratorExp elt [⟨tg, iter, ifs, 0⟩] scope gpos] X.env = (false, eval (.GeneratorExp elt [⟨tg, iter, ifs, 0⟩] scope gpos) X.env) :: starEach [] X.env := by rfl) :
    PE X (.Call (.Name "any" p) [.GeneratorExp elt [⟨tg, iter, ifs, 0⟩] scope gpos] [] pos) (tGx P js wi g tt te true) := by
  refine ⟨fun pins s σ H Q I h => ?_⟩
  refine wpAny_Call_Name_kw (ld_blt I hgl hmg boot_any ?_)
  refine PyProof.Rows.callWith_builtin1 ?_ hst (by rfl)
  rw [hst]
  show wpAny _ _ (spliced ((false, eval (.GeneratorExp elt [⟨tg, iter, ifs, 0⟩] scope gpos) X.env) :: backTo pos (starEach [] X.env))) _ _ s
  refine Calls.spliced_cons (gx_made hr hcal TB hcode S hcap hi hg ht he hs I h fun a s5 hG => Calls.spliced_nil ?_)
  obtain ⟨Y, gg, n, hp, hw, hgen, back, hg5, hl5, hgs⟩ := hG
  refine call_function_tree PySem.F.kind_any PySem.F.plain_any PySem.F.entry_any (PySem.F.args_any1 _) ?_
  unfold Builtin.«any»
  refine wpAny_bind (m := oneArg "any" _) (wpAny_pure ?_)
  refine wpAny_bind (wpAny_pyIter_gen hg5 (wpAny_pure ⟨plainId_quiet PySem.F.plain_any_loop _, ?_⟩))
  refine gx_any (Y := Y) ⟨hp, hw⟩ (hr.mono (by omega)) hgen (fun s1 s' τ H' J qs eo eb kk _ => ?_) (fun s1 s' τ H' J qe eo eb kk _ => ?_) rfl n s5 hg5 hl5 hgs
  · exact ⟨.bl true, H', back J eo eb kk, rfl, qs⟩
  · exact ⟨.bl false, H', back J eo eb kk, rfl, qe⟩
theorem pe_allX {c P : Addr} {elt iter tg : Expr} {ifs : List Expr} {p pos gpos : Pos} {scope : Scope} {N : List Str} {js : List (Option Nat)} {wi : TI} {g : TG} {tt : TT} {te : TE} {k : Nat} (hr : Room (k + 1) X.A) (hcal : X.calm = true) (hgl : Gl X "all") (hmg : X.mg "all" = none) (TB : TabB X.base X.mg c P) (hcode : X.env.code = .ref c) (S : GxS X.env scope)
    (hcap : ∀ σ : L2.St, CapOk X scope N σ (capSt js σ)) (hi : PI X tg iter wi) (hg : ∀ code s H ex pn, PG (gxOf X N scope code s H ex pn) tg g) (ht : ∀ code s H ex pn, PTs (gxOf X N scope code s H ex pn) ifs tt) (he : ∀ code s H ex pn, PE (gxOf X N scope code s H ex pn) elt te) (hs : ∀ v, genFold iter X.env v = pure v)
    (hbt : bootBuiltins "all" = some (.builtin "all")) (hst : starEach [.GeneratorExp elt [⟨tg, iter, ifs, 0⟩] scope gpos] X.env = (false, eval (.GeneratorExp elt [⟨tg, iter, ifs, 0⟩] scope gpos) X.env) :: starEach [] X.env := by rfl) :
    PE X (.Call (.Name "all" p) [.GeneratorExp elt [⟨tg, iter, ifs, 0⟩] scope gpos] [] pos) (tGx P js wi g tt te false) := by
  refine ⟨fun pins s σ H Q I h => ?_⟩
  refine wpAny_Call_Name_kw (ld_blt I hgl hmg hbt ?_)
  refine PyProof.Rows.callWith_builtin1 ?_ hst (by rfl)
  rw [hst]
  show wpAny _ _ (spliced ((false, eval (.GeneratorExp elt [⟨tg, iter, ifs, 0⟩] scope gpos) X.env) :: backTo pos (starEach [] X.env))) _ _ s
  refine Calls.spliced_cons (gx_made hr hcal TB hcode S hcap hi hg ht he hs I h fun a s5 hG => Calls.spliced_nil ?_)
  obtain ⟨Y, gg, n, hp, hw, hgen, back, hg5, hl5, hgs⟩ := hG
  refine call_function_tree PySem.F.kind_all PySem.F.plain_all PySem.F.entry_all (PySem.F.args_all1 _) ?_
  unfold Builtin.«all»
  refine wpAny_bind (m := oneArg "all" _) (wpAny_pure ?_)
  refine wpAny_bind (wpAny_pyIter_gen hg5 (wpAny_pure ⟨plainId_quiet PySem.F.plain_all_loop _, ?_⟩))
  refine gx_all (Y := Y) ⟨hp, hw⟩ (hr.mono (by omega)) hgen (fun s1 s' τ H' J qs eo eb kk _ => ?_) (fun s1 s' τ H' J qe eo eb kk _ => ?_) rfl n s5 hg5 hl5 hgs
  · exact ⟨.bl false, H', back J eo eb kk, rfl, qs⟩
  · exact ⟨.bl true, H', back J eo eb kk, rfl, qe⟩
end

section
open PySem.Spec PyProof.Rows GenW GxR
def gxNames (d : Scope) (dN : List Str) (sc : Scope) (N : List Str) (js : List (Option Nat)) : Bool := (N.zip js).all fun p => match p.2 with
  | none => true
  | some j => decide (sc.names.lookup p.1 = some .free) && decide (d.names.lookup p.1 = some .cell) && decide (dN[j]? = some p.1)
theorem capOk_by {X : Cx} {sc d : Scope} {N dN : List Str} {js : List (Option Nat)} (e1 : X.env.scope = d) (e2 : X.N = dN) (hl : js.length = N.length) (h : gxNames d dN sc N js = true) : ∀ σ : L2.St, CapOk X sc N σ (capSt js σ) := by
  intro σ
  refine ⟨by unfold capSt; rw [List.length_map]; exact hl, fun i y v h1 h2 => ?_⟩
  unfold capSt at h2
  rw [List.getElem?_map] at h2
  obtain ⟨o, ho, hv⟩ := Option.map_eq_some_iff.mp h2
  cases o with
  | none => cases hv
  | some j =>
    have hv2 : (σ[j]?).getD none = some v := hv
    have hm : (y, some j) ∈ N.zip js := by
      refine List.mem_iff_getElem?.mpr ⟨i, ?_⟩
      rw [List.getElem?_zip_eq_some]
      exact ⟨h1, ho⟩
    have q := List.all_eq_true.mp h _ hm
    simp only [Bool.and_eq_true, decide_eq_true_eq] at q
    obtain ⟨⟨q1, q2⟩, q3⟩ := q
    have kd : X.env.scope.names.lookup y = some .cell := by rw [e1]; exact q2
    refine ⟨q1, .inl kd, .inr (.inl kd), j, by rw [e2]; exact q3, ?_⟩
    cases hs : σ[j]? with
    | none => rw [hs] at hv2; cases hv2
    | some u =>
      rw [hs] at hv2
      have : u = some v := hv2
      rw [this]
def gxLook (d sc : Scope) : Bool := decide (sc.kind = .function) && !sc.isCoroutine && sc.names.all (fun y => !decide (y.2 = .cell)) && decide (sc.names.lookup (".0" : Str) = some NameKind.local) && sc.names.all (fun y => !decide (y.2 = .free) || decide (d.names.lookup y.1 = some .cell))
theorem gxS_by {env : Env} {sc d : Scope} {n : Nat} (e1 : env.cells = cellsFrom n d.names []) (h : gxLook d sc = true) : GxS env sc := by
  unfold gxLook at h
  simp only [Bool.and_eq_true, Bool.not_eq_true', decide_eq_true_eq, List.all_eq_true, decide_eq_false_iff_not, Bool.or_eq_true] at h
  obtain ⟨⟨⟨⟨h1, h2⟩, h3⟩, h4⟩, h5⟩ := h
  refine ⟨h1, h2, h3, h4, fun y hy hf => ?_⟩
  rw [e1]
  rcases h5 y hy with z | z
  · exact absurd hf z
  · exact cell_has z
theorem room_gx {k : Nat} {A : Around} {e : Env} (r : Room (k + 3) A) : Room k (A.in1.in1.deeper e) := r.in1.in1.deeper e
/-- the generator's turns over a walk -/
theorem gx_it {J : It} {n : Nat} {G : Hp → Prop} {Y : Nat → Hp → V → Hp → Prop} (w : Walk J n G Y) {g : TG} {tt : TT} {te : TE} {τ : L2.St} {H1 : Hp} {stop : Bool} {Qs Qe : Hp → Prop} (Pv : Nat → L2.St → Hp → Prop) (h0 : Pv 0 τ H1) (hG : ∀ i τ H, i ≤ n → Pv i τ H → G H)
    (hs : ∀ i x τ H H', i < n → Pv i τ H → Y i H x H' → g x τ H' fun τ2 H2 => tt τ2 H2 fun b H3 => if b = true then te τ2 H3 fun y H4 => ∃ c, y = .bl c ∧ if c = stop then Qs H4 else Pv (i + 1) τ2 H4 else Pv (i + 1) τ2 H3) (hd : ∀ τ H, Pv n τ H → Qe H) :
    ∃ W : Nat → Nat → L2.St → Hp → Prop, (∃ m, W 0 m τ H1) ∧ tGxW J g tt te stop Qs Qe W := by
  refine ⟨fun i m τ H => m = n - i ∧ i ≤ n ∧ Pv i τ H, ⟨n, by simp, Nat.zero_le _, h0⟩, ?_⟩
  rintro i m τ H ⟨rfl, hi, p⟩
  have q := hG i τ H hi p
  by_cases hlt : i < n
  · exact .inr ⟨w.goes i H hlt q, Pv (i + 1), fun τ' H' p' => ⟨n - (i + 1), by omega, rfl, hlt, p'⟩, fun x H' y => hs i x τ H H' hlt p (w.yields i H x H' hlt q y)⟩
  · have e : i = n := by omega
    subst e
    exact .inl ⟨w.stops H q, hd τ H p⟩
end
section
open PySem.Spec PyProof.Rows
variable {P : Program} {w : World} {K : PySem.W.Frag} {mg : Str → Option Value} {base : Heap}
/-- a def whose code object is known by its place -/
theorem fun_okC {x qual : Str} {st : Stmt} {f c : Addr} {fd : FuncData} {N ps : List Str} {k : Nat} {sp : Sp} (F : Fun K x qual st f fd) (hc : fd.code = .ref c) (S : FnScope N ps (defScope st)) (len : ∀ vs H Q E, sp vs H Q E → vs.length = ps.length)
    (hbody : ∀ (A : Around) (outer : List Env) (s : Shared) (H : Hp) (vs : List V) (Q : VK) (E : XK), Room k (A.deeper (envOfC qual (defScope st) s.heap.objs.size f (.ref c))) → sp vs H Q E →
      ∃ t, PSs (cxOf CX0 P w K mg base N qual (defScope st) f (.ref c) A outer s H E).nox (defBody st) t ∧ t { nx := fun _ H' => Q .non H', rt := Q } (start N vs) H) : FnOk P w K mg base CX0 (k + 1) f fd ps sp := by
  obtain ⟨oc, od, kV, doc, pm, an, cdv, ct, osl, rfl, lk, hcd⟩ := F.ex
  have e : cdv = .ref c := hc
  subst e
  refine fn_of lk hcd S len fun A outer s H vs Q E hr hsp => ?_
  obtain ⟨t, h, q⟩ := hbody A outer s H vs Q E hr hsp
  exact ⟨t, h.nox, q⟩
end

open TL
theorem atI_mem {α : Type} {l : List α} {r : Int} (h0 : 0 ≤ r) (h1 : r < (l.length : Int)) : ∃ c, atI l r = some c ∧ c ∈ l := by
  obtain ⟨n, rfl⟩ := Int.eq_ofNat_of_zero_le h0
  have hn : n < l.length := by omega
  exact ⟨l[n], atI_nat (List.getElem?_eq_getElem hn), List.getElem_mem hn⟩
theorem tl_sgn (c : Nat) : tl (⟨#[c]⟩ : Str) = [c] := rfl

def ySpLaw (K : PySem.W.Frag) : Sp := fun vs H Q _ => ∃ (a : Addr) (ns : List Int), vs = [.ref a] ∧ SqL K H a (ns.map V.int) ∧ ns.length ≤ 63 ∧ ∀ H', Q (.bl true) H'
theorem box_new {H1 : Hp} {p bx : Addr} {ds : List Int} (hp : H1 p = some (.lst (ds.map V.int))) (hb : H1 bx = none) : BoxAt (upd H1 bx (.lst [.ref p, .int 0])) bx p :=
  ⟨ds, 0, upd_same, by rw [upd_ne (ne_of_none hp hb)]; exact hp⟩
theorem pick2 {a b : V} {r : Int} (h0 : 0 ≤ r) (h1 : r < 2) : atI [a, b] r = some (if r = 0 then a else b) := by
  by_cases e : r = 0
  · subst e; rfl
  · have e1 : r = 1 := by omega
    subst e1; rfl
theorem pick2i {x y r : Int} (h0 : 0 ≤ r) (h1 : r < 2) : atI [V.int x, V.int y] r = some (V.int (if r = 0 then x else y)) := by
  rw [pick2 h0 h1]; split <;> rfl
theorem pick2s {x y : Str} {r : Int} (h0 : 0 ≤ r) (h1 : r < 2) : atI [V.str x, V.str y] r = some (V.str (if r = 0 then x else y)) := by
  rw [pick2 h0 h1]; split <;> rfl
theorem atI_map {α β : Type} {f : α → β} {l : List α} {r : Int} {x : α} (h0 : 0 ≤ r) (h : atI l r = some x) : atI (l.map f) r = some (f x) := by
  obtain ⟨n, rfl⟩ := Int.eq_ofNat_of_zero_le h0
  by_cases hn : n < l.length
  · have e : atI l (n : Int) = some l[n] := atI_nat (List.getElem?_eq_getElem hn)
    have e2 : l[n] = x := Option.some.inj (e.symm.trans h)
    exact atI_nat (by rw [List.getElem?_map, List.getElem?_eq_getElem hn, e2]; rfl)
  · unfold atI ixN at h
    rw [if_pos h0, if_neg (by omega)] at h
    cases h

/-! ### a blank, so many times -/
theorem rep_fold (c : Nat) : ∀ (n : Nat) (a : Array Nat), (List.replicate n (#[c] : Array Nat)).foldl (· ++ ·) a = a ++ (List.replicate n c).toArray
  | 0, a => by simp
  | n + 1, a => by
    rw [List.replicate_succ, List.foldl_cons, rep_fold c n, List.replicate_succ]
    apply Array.toList_inj.mp
    rw [Array.toList_append, Array.toList_append, Array.toList_append, List.append_assoc]
    rfl
section
variable {X : Cx}
def rMulSp : R2 := fun x y H Q => ∃ (c n : Nat), x = .str ⟨#[c]⟩ ∧ y = .int (n : Int) ∧ n ≤ 1000 ∧ Q (.str ⟨(List.replicate n c).toArray⟩) H
theorem op_mul_sp : OpR X (binaryOp .Mult) rMulSp := by
  intro pins s σ H x y v u Q I rx ry h
  obtain ⟨c, n, rfl, rfl, hn, q⟩ := h
  obtain ⟨t, rfl⟩ := rx
  obtain ⟨t', rfl⟩ := ry
  refine PySem.P.mul_str ?_ ?_ ?_ ?_
  · rw [decide_eq_false (by omega), decide_eq_false (by omega)]; rfl
  · intro h1 _ h2
    have h3 : (1 : Int) ≤ (2 ^ 63 - 1) / (n : Int) := Int.le_ediv_of_mul_le (by omega) (by omega)
    have h4 : (((⟨#[c]⟩ : Str).length : Nat) : Int) = 1 := rfl
    omega
  · intro h1 _
    have h4 : (⟨#[c]⟩ : Str).length = 1 := rfl
    rw [h4, Int.toNat_natCast, Nat.one_mul]
    exact PyProof.Rows.short24 (by omega)
  · by_cases h1 : (n : Int) < 1
    · rw [if_pos h1]
      have e : n = 0 := by omega
      subst e
      exact ⟨by decide, .str ⟨#[]⟩, H, I.tok _, ⟨_, rfl⟩, q⟩
    · rw [if_neg h1]
      by_cases h2 : ((n : Int) == 1 || (⟨#[c]⟩ : Str).length == 0) = true
      · rw [if_pos h2]
        have e : n = 1 := by
          rcases Bool.or_eq_true_iff.mp h2 with h | h
          · have := eq_of_beq h; omega
          · have := eq_of_beq h; exact absurd (show (1 : Nat) = 0 from this) (by decide)
        subst e
        exact ⟨.str ⟨#[c]⟩, H, I, ⟨_, rfl⟩, q⟩
      · rw [if_neg h2]
        have e : ((List.replicate (n : Int).toNat (⟨#[c]⟩ : Str).cps).foldl (· ++ ·) #[]) = (List.replicate n c).toArray := by
          rw [Int.toNat_natCast]
          show (List.replicate n (#[c] : Array Nat)).foldl (· ++ ·) #[] = _
          rw [rep_fold]; simp
        rw [e]
        refine ⟨?_, .str ⟨(List.replicate n c).toArray⟩, H, I.tok _, ⟨_, rfl⟩, q⟩
        show (List.replicate n c).toArray.size ≤ 16777216
        rw [List.size_toArray, List.length_replicate]
        omega
end

/-! ### several tables of code objects -/
theorem fa_nil {α : Type} {M : α → Prop} : ∀ p ∈ ([] : List α), M p := fun p hp => nomatch hp
theorem fa_cons {α : Type} {M : α → Prop} {a : α} {l : List α} (h : M a) (t : ∀ p ∈ l, M p) : ∀ p ∈ a :: l, M p := fun p hp => by
  rcases List.mem_cons.mp hp with rfl | hp
  · exact h
  · exact t p hp
/-- the def's code object has its table at P -/
def TbF (base : Heap) (mg : Str → Option Value) (fd : FuncData) (P : Addr) : Prop := ∃ c, fd.code = .ref c ∧ LamX.TabB base mg c P
theorem tabB_of {base : Heap} {mg : Str → Option Value} {c P : Addr} (t : LamX.TabB base mg c P) : GxR.TabB base mg c P := ⟨t.code, t.bm, t.gP⟩
section
open GxR
def TabsG (H : Hp) (Ps : List Addr) : Prop := ∀ P ∈ Ps, TabG H P
/-- all but the tables stand as before -/
def KT (Ps : List Addr) (H H' : Hp) : Prop := TabsG H' Ps ∧ ∀ c o, H c = some o → c ∉ Ps → H' c = some o
variable {Ps : List Addr} {P : Addr} {H H1 H2 : Hp}
theorem TabsG.same (h : TabsG H Ps) (s : Same H H1) : TabsG H1 Ps := fun P hP => let ⟨ps, e, t⟩ := h P hP; ⟨ps, s _ _ e, t⟩
theorem TabsG.kp {b : Addr} {xs : List V} (h : TabsG H Ps) (hb : H b = some (.lst xs)) (k : Kp b H H1) : TabsG H1 Ps := fun P hP => by
  obtain ⟨ps, e, t⟩ := h P hP
  exact ⟨ps, k _ _ e (fun z => by rw [z, hb] at e; cases e), t⟩
theorem TabsG.box {b p : Addr} (h : TabsG H Ps) (B : BoxAt H b p) (k : Kp b H H1) : TabsG H1 Ps := by
  obtain ⟨ns, n, h1, h2⟩ := B
  exact h.kp h1 k
theorem TabsG.no {o : HO} {c : Addr} (h : TabsG H Ps) (hc : H c = some o) (hn : ∀ ps, o ≠ .tbl ps) : c ∉ Ps := fun z => by
  obtain ⟨ps, e, _⟩ := h c z
  rw [hc] at e
  exact hn ps (Option.some.inj e)
theorem KT.refl (h : TabsG H Ps) : KT Ps H H := ⟨h, fun _ _ e _ => e⟩
theorem KT.trans (a : KT Ps H H1) (b : KT Ps H1 H2) : KT Ps H H2 := ⟨b.1, fun c o h n => b.2 c o (a.2 c o h n) n⟩
theorem KT.same (a : KT Ps H H1) (s : Same H1 H2) : KT Ps H H2 := ⟨a.1.same s, fun c o h n => s _ _ (a.2 c o h n)⟩
theorem KT.of (h : TabsG H Ps) (s : Same H H1) : KT Ps H H1 := (KT.refl h).same s
theorem KT.tabbed (h : TabsG H Ps) (hP : P ∈ Ps) (t : Tabbed P H H1) : KT Ps H H1 := by
  refine ⟨fun R hR => ?_, fun c o e n => by rw [t.2 c (fun z => n (by rw [z]; exact hP))]; exact e⟩
  by_cases e : R = P
  · rw [e]; exact t.1
  · obtain ⟨ps, e1, e2⟩ := h R hR
    exact ⟨ps, by rw [t.2 R e]; exact e1, e2⟩
theorem KT.at_ (a : KT Ps H H1) (h : TabsG H Ps) {c : Addr} {o : HO} (e : H c = some o) (n : ∀ ps, o ≠ .tbl ps) : H1 c = some o := a.2 c o e (h.no e n)
theorem KT.tk (a : KT Ps H H1) (h : TabsG H Ps) : TK H H1 := by
  intro c u hu r
  obtain ⟨ys, rfl⟩ := hu
  rcases r with r | ⟨o, r⟩
  · exact .inl (a.at_ h r fun ps z => nomatch z)
  · exact .inr ⟨o, a.at_ h r fun ps z => nomatch z⟩
theorem KT.lst (a : KT Ps H H1) (h : TabsG H Ps) {c : Addr} {xs : List V} (e : H c = some (.lst xs)) : H1 c = some (.lst xs) := a.at_ h e fun ps z => nomatch z
theorem KT.seqL {K : PySem.W.Frag} (a : KT Ps H H1) (h : TabsG H Ps) {c : Addr} {xs : List V} (e : SqL K H c xs) : SqL K H1 c xs := by
  rcases e with (e | ⟨o, e⟩) | e
  · exact .inl (.inl (a.lst h e))
  · exact .inl (.inr ⟨o, a.at_ h e fun ps z => nomatch z⟩)
  · exact .inr e
theorem KT.box {b p : Addr} (a : KT Ps H H1) (h : TabsG H Ps) (B : BoxAt H b p) : BoxAt H1 b p := by
  obtain ⟨ns, n, h1, h2⟩ := B
  exact ⟨ns, n, a.lst h h1, a.lst h h2⟩
theorem KT.lat {K : PySem.W.Frag} {d : Addr} {ds : List PyData} (a : KT Ps H H1) (h : TabsG H Ps) (L : LAt K H d ds) : LAt K H1 d ds := L.tk (a.tk h) fun o e => by
  obtain ⟨vs, e1, _⟩ := L
  rw [e1] at e
  have e := Option.some.inj e
  subst e
  exact a.lst h e1
end
def ySpLawT (K : PySem.W.Frag) (Ps : List Addr) : Sp := fun vs H Q E => TabsG H Ps ∧ ySpLaw K vs H Q E

/-! ### what may be told: times, keys, texts of any kind -/
def AtomD : PyData → Prop
  | .list _ => False
  | .dict _ => False
  | _ => True
def kindD : PyData → String
  | .none => "NoneType"
  | .bool _ => "bool"
  | .int _ => "int"
  | .str _ => "str"
  | .tuple _ => "tuple"
  | .list _ => "list"
  | .dict _ => "dict"
theorem ty_at {K : PySem.W.Frag} {H : Hp} : ∀ {v : V} {d : PyData}, Dp K H v d → AtomD d → TyX K H v (.type (kindD d))
  | _, _, .non, _ => .base .non
  | _, _, .bl _, _ => .base (.bl _)
  | _, _, .int _, _ => .base (.int _)
  | _, _, .str _, _ => .base (.str _)
  | _, _, .tup h _, _ => ty_t h
  | _, _, .lst _ _, a => a.elim
theorem isi_use {K : PySem.W.Frag} {H : Hp} {Q : VK} {v : V} {d : PyData} {t : String} {b : Bool} (h : Dp K H v d) (a : AtomD d) (hb : kitB (kindD d) t = some b) (q : Q (.bl b) H) : rIsi K [v, .ty t] H Q :=
  ⟨v, .ty t, _, _, b, rfl, .ty _, ty_at h a, kit_ty hb, q⟩
def intB : PyData → Bool
  | .int _ => true
  | _ => false
def timeB : PyData → Bool
  | .int i => decide (0 ≤ i ∧ i ≤ 100000)
  | _ => false
def smallB (m : Int) : PyData → Bool
  | .str z => decide (1 ≤ z.length ∧ (z.length : Int) ≤ m) && (tl z).all fun c => decide (c ∈ tl smallS)
  | _ => false
theorem smallB_str (m : Int) (z : Str) : smallB m (.str z) = (decide (1 ≤ z.length ∧ (z.length : Int) ≤ m) && (tl z).all fun c => decide (c ∈ tl smallS)) := rfl
def codeB (c : Nat) : Bool := decide (c = 10) || (decide (32 ≤ c ∧ c ≤ 126) && decide (c ≠ 37))
def textB : PyData → Bool
  | .str z => decide (z.length ≤ 400) && (tl z).all codeB
  | _ => false
theorem textB_str (z : Str) : textB (.str z) = (decide (z.length ≤ 400) && (tl z).all codeB) := rfl
def faultX : PyData → Option Str
  | .none => none
  | d => if textB d = false then some "text" else none
def faultC (dt dk dx : PyData) : Option Str := if timeB dt = false then some "time" else if smallB 8 dk = false then some "key" else faultX dx
def LenD : PyData → Prop
  | .str z => z.length ≤ 100000
  | _ => True
theorem tab_of {Ps : List Addr} {P : Addr} {H : Hp} (h : TabsG H Ps) (m : P ∈ Ps) : GxR.TabG H P := h P m
def yIsNum (K : PySem.W.Frag) : Sp := fun vs H Q _ => ∃ (v : V) (d : PyData), vs = [v] ∧ Dp K H v d ∧ AtomD d ∧ Q (.bl (intB d)) H
def yCode : Sp := fun vs H Q _ => ∃ c : Nat, vs = [.int (c : Int)] ∧ Q (.bl (codeB c)) H
def ySmall (K : PySem.W.Frag) (Ps : List Addr) : Sp := fun vs H Q _ => ∃ (v : V) (d : PyData) (m : Int), vs = [v, .int m] ∧ Dp K H v d ∧ AtomD d ∧ LenD d ∧ TabsG H Ps ∧ ∀ H', KT Ps H H' → Q (.bl (smallB m d)) H'
def yText (K : PySem.W.Frag) (Ps : List Addr) : Sp := fun vs H Q _ => ∃ (v : V) (d : PyData), vs = [v] ∧ Dp K H v d ∧ AtomD d ∧ LenD d ∧ TabsG H Ps ∧ ∀ H', KT Ps H H' → Q (.bl (textB d)) H'
/-- told or refused: the error's own dict at d -/
def yCheck (K : PySem.W.Frag) (Ps : List Addr) (C : Addr) : Sp := fun vs H Q E => ∃ (v : V) (dt dk dx : PyData), vs = [v] ∧ Dp K H v (.tuple [dt, dk, dx]) ∧ (AtomD dt ∧ AtomD dk ∧ AtomD dx) ∧ (LenD dt ∧ LenD dk ∧ LenD dx) ∧ TabsG H Ps ∧ (Imm dt ∧ Imm dk ∧ Imm dx) ∧
  (faultC dt dk dx = none → ∀ H', KT Ps H H' → Q .non H') ∧ ∀ z, faultC dt dk dx = some z → ∀ d H', KT Ps H H' → H' d = some (.xd [("word", .str z)]) → E (.ref C) (some d) H'
section
variable {P : Program} {w : World} {K : PySem.W.Frag} {mg : Str → Option Value} {base : Heap} {A : Nat → Addr} {D : Nat → FuncData}
theorem ok_is_number (T : Txt K mg A D) : FnOk P w K mg base CX0 1 (A 0) (D 0) ["value"] (yIsNum K) := by
  refine T.F_is_number.ok sc_is_number (fun vs H Q E h => ?_) (fun cdv A' outer s H vs Q E hr h => ?_)
  · obtain ⟨v, d, rfl, _⟩ := h; rfl
  obtain ⟨v, d, rfl, hd, ha, q⟩ := h
  refine ⟨_, (pss_one (ps_ret (pe_and (pe_callB call_isi rfl T.z_isinstance (by decide +kernel) (pa_cons (pv 0) (pa_cons (pe_bltn (v := .ty "int") rfl T.z_int (by decide +kernel) rfl) pa_nil))) (pe_one (pe_not (pe_callB call_isi rfl T.z_isinstance (by decide +kernel) (pa_cons (pv 0) (pa_cons (pe_bltn (v := .ty "bool") rfl T.z_bool (by decide +kernel) rfl) pa_nil)))))))), ?_⟩
  cases d with
  | list _ => exact ha.elim
  | dict _ => exact ha.elim
  | int i => exact ⟨_, rfl, _, _, _, _, true, rfl, .ty _, ty_at hd ha, kit_ty (show kitB "int" "int" = some true by decide +kernel), ⟨_, rfl, _, rfl, _, _, _, _, false, rfl, .ty _, ty_at hd ha, kit_ty (show kitB "int" "bool" = some false by decide +kernel), ⟨_, rfl, q⟩⟩⟩
  | bool b => exact ⟨_, rfl, _, _, _, _, true, rfl, .ty _, ty_at hd ha, kit_ty (show kitB "bool" "int" = some true by decide +kernel), ⟨_, rfl, _, rfl, _, _, _, _, true, rfl, .ty _, ty_at hd ha, kit_ty (show kitB "bool" "bool" = some true by decide +kernel), ⟨_, rfl, q⟩⟩⟩
  | none => exact ⟨_, rfl, _, _, _, _, false, rfl, .ty _, ty_at hd ha, kit_ty (show kitB "NoneType" "int" = some false by decide +kernel), ⟨_, rfl, q⟩⟩
  | str z => exact ⟨_, rfl, _, _, _, _, false, rfl, .ty _, ty_at hd ha, kit_ty (show kitB "str" "int" = some false by decide +kernel), ⟨_, rfl, q⟩⟩
  | tuple ds => exact ⟨_, rfl, _, _, _, _, false, rfl, .ty _, ty_at hd ha, kit_ty (show kitB "tuple" "int" = some false by decide +kernel), ⟨_, rfl, q⟩⟩
theorem ok_is_code (T : Txt K mg A D) : FnOk P w K mg base CX0 1 (A 4) (D 4) ["code"] yCode := by
  refine T.F_is_code.ok sc_is_code (fun vs H Q E h => ?_) (fun cdv A' outer s H vs Q E hr h => ?_)
  · obtain ⟨c, rfl, _⟩ := h; rfl
  obtain ⟨c, rfl, q⟩ := h
  obtain ⟨t1, hNEWLINE⟩ := T.c_NEWLINE
  obtain ⟨t2, hPERCENT⟩ := T.c_PERCENT
  refine ⟨_, (pss_one (ps_ret (pe_or (pe_cmpR op_eq (pv 0) (pe_glob (v := V.int _) rfl hNEWLINE ⟨_, rfl⟩) (nomark _)) (pe_one (pe_and (pe_chain op_le op_le pe_int (pv 0) pe_int) (pe_one (pe_cmpR op_ne (pv 0) (pe_glob (v := V.int _) rfl hPERCENT ⟨_, rfl⟩) (nomark _)))))))), ?_⟩
  have fin : ∀ b, b = codeB c → Q (.bl b) H := fun b e => by rw [e]; exact q
  refine ⟨_, rfl, rfl, _, rfl, ite2 (fun c1 => fin _ ?_) (fun c1 => ?_)⟩
  · have c1' : c = 10 := by have := V.int.inj (of_decide_eq_true c1); omega
    rw [c1']; rfl
  have c1' : ¬ c = 10 := fun z => c1 (decide_eq_true (by rw [z]; rfl))
  have e0 : codeB c = (decide (32 ≤ c ∧ c ≤ 126) && decide (c ≠ 37)) := by
    unfold codeB
    rw [decide_eq_false c1', Bool.false_or]
  refine ⟨_, rfl, _, _, rfl, rfl, _, rfl, ite2 (fun c2 => ?_) (fun c2 => ?_)⟩
  · have c2' : (32 : Int) ≤ (c : Int) := of_decide_eq_true c2
    refine ⟨_, _, rfl, rfl, _, rfl, ite2 (fun c3 => ?_) (fun c3 => fin _ ?_)⟩
    · have c3' : (c : Int) ≤ 126 := of_decide_eq_true c3
      refine ⟨_, rfl, rfl, fin _ ?_⟩
      rw [e0, decide_eq_true (show 32 ≤ c ∧ c ≤ 126 by omega), Bool.true_and, ← decide_not]
      exact decide_eq_decide.mpr ⟨fun h z => h (by rw [z]; rfl), fun h z => h (by have := V.int.inj z; omega)⟩
    · have c3' : ¬ (c : Int) ≤ 126 := fun z => c3 (decide_eq_true z)
      rw [e0, decide_eq_false (show ¬ (32 ≤ c ∧ c ≤ 126) by omega)]; rfl
  · have c2' : ¬ (32 : Int) ≤ (c : Int) := fun z => c2 (decide_eq_true z)
    refine ⟨_, rfl, fin _ ?_⟩
    rw [e0, decide_eq_false (show ¬ (32 ≤ c ∧ c ≤ 126) by omega)]; rfl
theorem all_upto {M : Nat → Bool} {l : List Nat} (h : ∀ j (hj : j < l.length), M l[j] = true) : l.all M = true := List.all_eq_true.mpr fun c hc => by
  obtain ⟨j, hj, e⟩ := List.mem_iff_getElem.mp hc
  rw [← e]; exact h j hj
theorem ok_is_small (T : Txt K mg A D) {Ps : List Addr} {P1 : Addr} (TF : TbF base mg (D 1) P1) (hP : P1 ∈ Ps) : FnOk P w K mg base CX0 8 (A 1) (D 1) ["value", "most"] (ySmall K Ps) := by
  obtain ⟨cc, hc, TB0⟩ := TF
  have TB := tabB_of TB0
  refine (fun_okC (k := 7) T.F_is_small hc sc_is_small (fun vs H Q E h => ?_) (fun A' outer s H vs Q E hr h => ?_) : FnOk P w K mg base CX0 8 _ _ _ _)
  · obtain ⟨v, d, m, rfl, _⟩ := h; rfl
  obtain ⟨v, d, m, rfl, hd, ha, hl, hT, q⟩ := h
  have hnd := sc_is_small.nd
  obtain ⟨t1, hSMALL⟩ := T.c_SMALL
  refine ⟨_, (pss_cons (ps_if (PW.pt (pw_or (pt_not (pt_val (pe_callB call_isi rfl T.z_isinstance (by decide +kernel) (pa_cons (pv 0) (pa_cons (pe_bltn (v := .ty "str") rfl T.z_str (by decide +kernel) rfl) pa_nil))))) (pw_or1 (pt_not (pt_chain op_le op_le pe_int (pe_callB call_len_str rfl T.z_len PySem.boot_len (pa_cons (pv 0) pa_nil)) (pv 1)))))) (pss_one (ps_ret pe_bl)) pss_nil) (pss_one (ps_ret (pe_allX (N := ["letter"]) (js := [none]) hr rfl rfl T.z_all TB rfl (gxS_by (n := s.heap.objs.size + 1) (d := defScope s_is_small) rfl (by decide +kernel)) (capOk_by (d := defScope s_is_small) (dN := N_is_small) rfl rfl rfl (by decide +kernel)) (pi_str (pv 0)) (fun _ _ _ _ _ => (pg_name (i := 0) (show List.Nodup (["letter"] : List Str) by decide) rfl (Or.inl rfl))) (fun _ _ _ _ _ => pts_nil) (fun _ _ _ _ _ => (pe_cmpR op_in_sign (pv 0) (pe_glob (v := V.str _) rfl hSMALL ⟨_, rfl⟩) rfl)) (by intro _; rfl) (by decide +kernel))))), ?_⟩
  have hd' := hd
  cases d with
  | list _ => exact ha.elim
  | dict _ => exact ha.elim
  | int i => exact ⟨_, rfl, _, _, _, _, false, rfl, .ty _, ty_at hd ha, kit_ty (show kitB "int" "str" = some false by decide +kernel), _, rfl, iteT (q H (KT.refl hT))⟩
  | bool b => exact ⟨_, rfl, _, _, _, _, false, rfl, .ty _, ty_at hd ha, kit_ty (show kitB "bool" "str" = some false by decide +kernel), _, rfl, iteT (q H (KT.refl hT))⟩
  | none => exact ⟨_, rfl, _, _, _, _, false, rfl, .ty _, ty_at hd ha, kit_ty (show kitB "NoneType" "str" = some false by decide +kernel), _, rfl, iteT (q H (KT.refl hT))⟩
  | tuple ds => exact ⟨_, rfl, _, _, _, _, false, rfl, .ty _, ty_at hd ha, kit_ty (show kitB "tuple" "str" = some false by decide +kernel), _, rfl, iteT (q H (KT.refl hT))⟩
  | str z =>
    have hv := Dp.strI hd
    subst hv
    have hl' : z.length ≤ 100000 := hl
    have fin : ∀ b H', KT Ps H H' → b = smallB m (.str z) → Q (.bl b) H' := fun b H' k e => by rw [e]; exact q H' k
    refine ⟨_, rfl, _, _, _, _, true, rfl, .ty _, ty_at hd ha, kit_ty (show kitB "str" "str" = some true by decide +kernel), _, rfl, iteF ?_⟩
    refine ⟨_, rfl, _, rfl, (by show z.length ≤ 16777216; omega), _, _, rfl, rfl, _, rfl, ite2 (fun c1 => ?_) (fun c1 => ?_)⟩
    · have c1' : (1 : Int) ≤ (z.length : Int) := of_decide_eq_true c1
      refine ⟨_, rfl, _, _, rfl, rfl, _, rfl, ?_⟩
      by_cases c2 : (z.length : Int) ≤ m
      · rw [decide_eq_true c2]
        refine iteF ?_
        refine ⟨_, rfl, _, rfl, tab_of hT hP, fun H2 t2 => ?_⟩
        have k2 := KT.tabbed hT hP t2
        refine gx_it (walk_str (z := z)) (fun i τ H' => KT Ps H H' ∧ (∃ c0, τ = [c0]) ∧ ∀ j (hj : j < (tl z).length), j < i → (tl z)[j] ∈ tl smallS) ⟨k2, ⟨_, rfl⟩, fun j hj h0 => absurd h0 (Nat.not_lt_zero j)⟩ (fun _ _ _ _ _ => trivial) ?_ ?_
        · rintro i x τ H3 H4 hi ⟨k3, ⟨c0, rfl⟩, no⟩ ⟨rfl, c, hc, rfl⟩
          have hi2 : i < (tl z).length := by rw [← len_tl]; exact hi
          have ec : (tl z)[i] = c := by
            have : (tl z)[i]? = some c := by
              rw [← hc]
              exact Array.getElem?_toList
            rw [List.getElem?_eq_getElem hi2] at this
            exact Option.some.inj this
          refine ⟨_, rfl, _, _, rfl, rfl, _, rfl, ?_⟩
          by_cases cm : c ∈ tl smallS
          · rw [decide_eq_true (show c ∈ (Str.ofString "0123456789abcdefghijklmnopqrstuvwxyz").cps.toList from cm)]
            rw [if_neg (fun z => Bool.false_ne_true z.symm)]
            refine ⟨k3, ⟨_, rfl⟩, fun j hj h0 => ?_⟩
            by_cases ej : j = i
            · subst ej; rw [ec]; exact cm
            · exact no j hj (by omega)
          · rw [decide_eq_false (show ¬ c ∈ (Str.ofString "0123456789abcdefghijklmnopqrstuvwxyz").cps.toList from cm)]
            rw [if_pos rfl]
            refine fin _ _ k3 ?_
            have : ((tl z).all fun c => decide (c ∈ tl smallS)) = false := List.all_eq_false.mpr ⟨c, by rw [← ec]; exact List.getElem_mem hi2, by rw [decide_eq_false cm]; exact Bool.false_ne_true⟩
            rw [smallB_str, this, Bool.and_false]
        · rintro τ H3 ⟨k3, _, no⟩
          refine fin _ _ k3 ?_
          have : ((tl z).all fun c => decide (c ∈ tl smallS)) = true := all_upto fun j hj => decide_eq_true (no j hj (by
            have e := len_tl z
            show j < z.length
            omega))
          rw [smallB_str, this, Bool.and_true]
          exact (decide_eq_true ⟨by omega, c2⟩).symm
      · rw [decide_eq_false c2]
        refine iteT (fin _ _ (KT.refl hT) ?_)
        rw [smallB_str, decide_eq_false (fun h => c2 h.2), Bool.false_and]
    · have c1' : ¬ (1 : Int) ≤ (z.length : Int) := fun h => c1 (decide_eq_true h)
      refine ⟨_, rfl, iteT (fin _ _ (KT.refl hT) ?_)⟩
      rw [smallB_str, decide_eq_false (fun h => c1' (by omega)), Bool.false_and]
theorem ok_is_text (T : Txt K mg A D) {Ps : List Addr} {P1 : Addr} (TF : TbF base mg (D 3) P1) (hP : P1 ∈ Ps) : FnOk P w K mg base CX0 8 (A 3) (D 3) ["value"] (yText K Ps) := by
  obtain ⟨cc, hc, TB0⟩ := TF
  have TB := tabB_of TB0
  refine (fun_okC (k := 7) T.F_is_text hc sc_is_text (fun vs H Q E h => ?_) (fun A' outer s H vs Q E hr h => ?_) : FnOk P w K mg base CX0 8 _ _ _ _)
  · obtain ⟨v, d, rfl, _⟩ := h; rfl
  obtain ⟨v, d, rfl, hd, ha, hl, hT, q⟩ := h
  have hnd := sc_is_text.nd
  have G_is_code := ok_is_code (P := P) (w := w) (base := base) T
  obtain ⟨t1, hLONGEST_TEXT⟩ := T.c_LONGEST_TEXT
  refine ⟨_, (pss_cons (ps_if (PW.pt (pw_or (pt_not (pt_val (pe_callB call_isi rfl T.z_isinstance (by decide +kernel) (pa_cons (pv 0) (pa_cons (pe_bltn (v := .ty "str") rfl T.z_str (by decide +kernel) rfl) pa_nil))))) (pw_or1 (pt_cmpR op_gt (pe_callB call_len_str rfl T.z_len PySem.boot_len (pa_cons (pv 0) pa_nil)) (pe_glob (v := V.int _) rfl hLONGEST_TEXT ⟨_, rfl⟩) (nomark _))))) (pss_one (ps_ret pe_bl)) pss_nil) (pss_one (ps_ret (pe_allX (N := ["character"]) (js := [none]) hr rfl rfl T.z_all TB rfl (gxS_by (n := s.heap.objs.size + 1) (d := defScope s_is_text) rfl (by decide +kernel)) (capOk_by (d := defScope s_is_text) (dN := N_is_text) rfl rfl rfl (by decide +kernel)) (pi_str (pv 0)) (fun _ _ _ _ _ => (pg_name (i := 0) (show List.Nodup (["character"] : List Str) by decide) rfl (Or.inl rfl))) (fun _ _ _ _ _ => pts_nil) (fun _ _ _ _ _ => (pe_call G_is_code (room_gx (hr.mono (by first | decide | omega))) rfl T.m_is_code T.F_is_code.kp T.b_is_code .nil pass0 (pa_cons (pe_callB call_ord rfl T.z_ord (by decide +kernel) (pa_cons (pv 0) pa_nil)) pa_nil))) (by intro _; rfl) (by decide +kernel))))), ?_⟩
  cases d with
  | list _ => exact ha.elim
  | dict _ => exact ha.elim
  | int i => exact ⟨_, rfl, _, _, _, _, false, rfl, .ty _, ty_at hd ha, kit_ty (show kitB "int" "str" = some false by decide +kernel), _, rfl, iteT (q H (KT.refl hT))⟩
  | bool b => exact ⟨_, rfl, _, _, _, _, false, rfl, .ty _, ty_at hd ha, kit_ty (show kitB "bool" "str" = some false by decide +kernel), _, rfl, iteT (q H (KT.refl hT))⟩
  | none => exact ⟨_, rfl, _, _, _, _, false, rfl, .ty _, ty_at hd ha, kit_ty (show kitB "NoneType" "str" = some false by decide +kernel), _, rfl, iteT (q H (KT.refl hT))⟩
  | tuple ds => exact ⟨_, rfl, _, _, _, _, false, rfl, .ty _, ty_at hd ha, kit_ty (show kitB "tuple" "str" = some false by decide +kernel), _, rfl, iteT (q H (KT.refl hT))⟩
  | str z =>
    have hv := Dp.strI hd
    subst hv
    have hl' : z.length ≤ 100000 := hl
    have fin : ∀ b H', KT Ps H H' → b = textB (.str z) → Q (.bl b) H' := fun b H' k e => by rw [e]; exact q H' k
    refine ⟨_, rfl, _, _, _, _, true, rfl, .ty _, ty_at hd ha, kit_ty (show kitB "str" "str" = some true by decide +kernel), _, rfl, iteF ?_⟩
    refine ⟨_, rfl, _, rfl, (by show z.length ≤ 16777216; omega), _, _, rfl, rfl, _, rfl, ?_⟩
    by_cases c1 : (400 : Int) < (z.length : Int)
    · rw [decide_eq_true c1]
      refine iteT (fin _ _ (KT.refl hT) ?_)
      rw [textB_str, decide_eq_false (show ¬ z.length ≤ 400 by omega), Bool.false_and]
    · rw [decide_eq_false c1]
      refine iteF ?_
      refine ⟨_, rfl, _, rfl, tab_of hT hP, fun H2 t2 => ?_⟩
      have k2 := KT.tabbed hT hP t2
      refine gx_it (walk_str (z := z)) (fun i τ H' => KT Ps H H' ∧ (∃ c0, τ = [c0]) ∧ ∀ j (hj : j < (tl z).length), j < i → codeB (tl z)[j] = true) ⟨k2, ⟨_, rfl⟩, fun j hj h0 => absurd h0 (Nat.not_lt_zero j)⟩ (fun _ _ _ _ _ => trivial) ?_ ?_
      · rintro i x τ H3 H4 hi ⟨k3, ⟨c0, rfl⟩, no⟩ ⟨rfl, c, hc, rfl⟩
        have hi2 : i < (tl z).length := by rw [← len_tl]; exact hi
        have ec : (tl z)[i] = c := by
          have : (tl z)[i]? = some c := by
            rw [← hc]
            exact Array.getElem?_toList
          rw [List.getElem?_eq_getElem hi2] at this
          exact Option.some.inj this
        refine ⟨_, rfl, _, rfl, rfl, c, rfl, _, rfl, ?_⟩
        cases cm : codeB c with
        | true =>
          rw [if_neg (fun z => Bool.false_ne_true z.symm)]
          refine ⟨k3, ⟨_, rfl⟩, fun j hj h0 => ?_⟩
          by_cases ej : j = i
          · subst ej; rw [ec]; exact cm
          · exact no j hj (by omega)
        | false =>
          rw [if_pos rfl]
          refine fin _ _ k3 ?_
          have : (tl z).all codeB = false := List.all_eq_false.mpr ⟨c, by rw [← ec]; exact List.getElem_mem hi2, by rw [cm]; exact Bool.false_ne_true⟩
          rw [textB_str, this, Bool.and_false]
      · rintro τ H3 ⟨k3, _, no⟩
        refine fin _ _ k3 ?_
        have : (tl z).all codeB = true := all_upto fun j hj => no j hj (by
          have e := len_tl z
          show j < z.length
          omega)
        rw [textB_str, this, Bool.and_true]
        exact (decide_eq_true (by omega)).symm
theorem ok_check_change (T : Txt K mg A D) {Ps : List Addr} {P1 P2 : Addr} (TF1 : TbF base mg (D 1) P1) (hP1 : P1 ∈ Ps) (TF2 : TbF base mg (D 3) P2) (hP2 : P2 ∈ Ps) : FnOk P w K mg base (L2.CX P w) 9 (A 2) (D 2) ["change"] (yCheck K Ps (A 101)) := by
  refine T.F_check_change.okX (k := 8) sc_check_change (fun vs H Q E h => ?_) (fun cdv A' outer s H vs Q E hr h => ?_)
  · obtain ⟨v, dt, dk, dx, rfl, _⟩ := h; rfl
  obtain ⟨v, dt, dk, dx, rfl, hd, ⟨at_, ak, ax⟩, ⟨lt, lk, lx⟩, hT, ⟨it, ik, ix⟩, q1, q2⟩ := h
  have hnd := sc_check_change.nd
  have G_is_number := ok_is_number (P := P) (w := w) (base := base) T
  have G_is_small := ok_is_small (P := P) (w := w) (base := base) T TF1 hP1
  have G_is_text := ok_is_text (P := P) (w := w) (base := base) T TF2 hP2
  have GI_InvalidChange := ok_InvalidChange (P := P) (w := w) (base := base) T
  obtain ⟨t1, hLAST_TIME⟩ := T.c_LAST_TIME
  obtain ⟨t2, hLONGEST_KEY⟩ := T.c_LONGEST_KEY
  refine ⟨_, (pss_cons (ps_asg (pv 0) (pg_tup rfl (pgs_cons (pg_name (i := 1) hnd rfl (Or.inl rfl)) (pgs_cons (pg_name (i := 2) hnd rfl (Or.inl rfl)) (pgs_cons (pg_name (i := 3) hnd rfl (Or.inl rfl)) pgs_nil))))) (pss_cons (ps_if (PW.pt (pw_or (pt_not (pt_val (pe_call G_is_number (hr.mono (by first | decide | omega)) rfl T.m_is_number T.F_is_number.kp T.b_is_number .nil pass0 (pa_cons (pv 1) pa_nil)))) (pw_or1 (pt_not (pt_chain op_le op_le pe_int (pv 1) (pe_glob (v := V.int _) rfl hLAST_TIME ⟨_, rfl⟩)))))) (pss_one (ps_raise rfl (takes_of rfl rfl rfl rfl) (pmk_oex T.ox_InvalidChange T.iC_InvalidChange T.tI_InvalidChange GI_InvalidChange (hr.mono (by first | decide | omega)) T.b_InvalidChange .nil pass0 rfl T.gC_InvalidChange (pa_cons pe_str pa_nil)))) pss_nil) (pss_cons (ps_if (pt_not (pt_val (pe_call G_is_small (hr.mono (by first | decide | omega)) rfl T.m_is_small T.F_is_small.kp T.b_is_small .nil pass0 (pa_cons (pv 2) (pa_cons (pe_glob (v := V.int _) rfl hLONGEST_KEY ⟨_, rfl⟩) pa_nil))))) (pss_one (ps_raise rfl (takes_of rfl rfl rfl rfl) (pmk_oex T.ox_InvalidChange T.iC_InvalidChange T.tI_InvalidChange GI_InvalidChange (hr.mono (by first | decide | omega)) T.b_InvalidChange .nil pass0 rfl T.gC_InvalidChange (pa_cons pe_str pa_nil)))) pss_nil) (pss_one (ps_if (PW.pt (pw_and (pt_cmpR op_notN (pv 3) pe_non (nomark _)) (pw_and1 (pt_not (pt_val (pe_call G_is_text (hr.mono (by first | decide | omega)) rfl T.m_is_text T.F_is_text.kp T.b_is_text .nil pass0 (pa_cons (pv 3) pa_nil))))))) (pss_one (ps_raise rfl (takes_of rfl rfl rfl rfl) (pmk_oex T.ox_InvalidChange T.iC_InvalidChange T.tI_InvalidChange GI_InvalidChange (hr.mono (by first | decide | omega)) T.b_InvalidChange .nil pass0 rfl T.gC_InvalidChange (pa_cons pe_str pa_nil)))) pss_nil))))), ?_⟩
  obtain ⟨a, xs, rfl, h1, h2⟩ := Dp.tupI hd
  obtain ⟨vt, r, rfl, h3, h4⟩ := DpAll.consI h2
  obtain ⟨vk, r2, rfl, h5, h6⟩ := DpAll.consI h4
  obtain ⟨vx, r3, rfl, h7, h8⟩ := DpAll.consI h6
  have e9 := DpAll.nilI h8
  subst e9
  refine ⟨_, rfl, a, _, rfl, h1, rfl, _, _, rfl, _, _, rfl, _, _, rfl, rfl, ?_⟩
  have no : ∀ (zz : Str) (H' : Hp), KT Ps H H' → faultC dt dk dx = some zz → ([V.str zz] : List V).length ≤ 1000 ∧ ∀ a, H' a = none → yInit1 (A 101) "word" (.ref a :: ([V.str zz] ++ [])) (upd H' a (exo a (A 101) none))
      (fun u H2 => u = .non ∧ ∃ (d : Addr) (fs : List (Str × V)), H2 a = some (exo a (A 101) (some d)) ∧ H2 d = some (exd d fs) ∧ H' d = none ∧ E (.ref (A 101)) (some d) (upd (del H2 a) d (.xd fs))) (fun _ _ _ => False) := fun zz H' k e =>
    raise1_use fun d H'' s' h0 h1 => q2 zz e d H'' (k.same s') h1
  refine ⟨_, rfl, vt, dt, rfl, h3, at_, _, rfl, ?_⟩
  have r1 : timeB dt = false → faultC dt dk dx = some "time" := fun h => if_pos h
  cases dt with
  | list _ => exact at_.elim
  | dict _ => exact at_.elim
  | none => exact iteT (no _ H (KT.refl hT) (r1 rfl))
  | bool b => exact iteT (no _ H (KT.refl hT) (r1 rfl))
  | str z => exact iteT (no _ H (KT.refl hT) (r1 rfl))
  | tuple ds => exact iteT (no _ H (KT.refl hT) (r1 rfl))
  | int i =>
    have hv := Dp.intI h3
    subst hv
    refine iteF ?_
    have tB : timeB (.int i) = decide (0 ≤ i ∧ i ≤ 100000) := rfl
    refine ⟨_, rfl, _, _, rfl, rfl, _, rfl, ite2 (fun c1 => ?_) (fun c1 => ?_)⟩
    · have c1' : (0 : Int) ≤ i := of_decide_eq_true c1
      refine ⟨_, _, rfl, rfl, _, rfl, ?_⟩
      by_cases c2' : i ≤ 100000
      · rw [decide_eq_true c2']
        have yes : faultC (.int i) dk dx = if smallB 8 dk = false then some ("key" : Str) else faultX dx := if_neg (by rw [tB, decide_eq_true ⟨c1', c2'⟩]; exact fun z => Bool.false_ne_true z.symm)
        refine iteF ⟨_, rfl, vk, dk, 8, rfl, h5, ak, lk, hT, fun H2 k2 => ⟨_, rfl, ?_⟩⟩
        cases hk : smallB 8 dk with
        | false => exact iteT (no _ H2 k2 (by rw [yes, if_pos hk]))
        | true =>
          have yes2 : faultC (.int i) dk dx = faultX dx := by rw [yes]; exact if_neg (by rw [hk]; exact fun z => Bool.false_ne_true z.symm)
          refine iteF ⟨_, rfl, rfl, _, rfl, ?_⟩
          cases dx with
          | list _ => exact ax.elim
          | dict _ => exact ax.elim
          | none =>
            cases h7
            exact iteF (q1 yes2 H2 k2)
          | bool b =>
            cases h7
            exact iteT ⟨_, rfl, _, _, rfl, .bl b, ax, lx, k2.1, fun H3 k3 => ⟨_, rfl, iteT (no _ H3 (k2.trans k3) yes2)⟩⟩
          | int j =>
            cases h7
            exact iteT ⟨_, rfl, _, _, rfl, .int j, ax, lx, k2.1, fun H3 k3 => ⟨_, rfl, iteT (no _ H3 (k2.trans k3) yes2)⟩⟩
          | tuple ds =>
            obtain ⟨a5, ys, rfl, _, _⟩ := Dp.tupI h7
            exact iteT ⟨_, rfl, _, _, rfl, Dp.keep (k2.tk hT) h7 ix, ax, lx, k2.1, fun H3 k3 => ⟨_, rfl, iteT (no _ H3 (k2.trans k3) yes2)⟩⟩
          | str z =>
            cases h7
            refine iteT ⟨_, rfl, _, _, rfl, .str z, ax, lx, k2.1, fun H3 k3 => ⟨_, rfl, ?_⟩⟩
            have e : faultX (.str z) = if textB (.str z) = false then some ("text" : Str) else none := rfl
            cases ht : textB (.str z) with
            | false => exact iteT (no _ H3 (k2.trans k3) (by rw [yes2, e, if_pos ht]))
            | true => exact iteF (q1 (by rw [yes2, e]; exact if_neg (by rw [ht]; exact fun z => Bool.false_ne_true z.symm)) H3 (k2.trans k3))
      · rw [decide_eq_false c2']
        exact iteT (no _ H (KT.refl hT) (r1 (by rw [tB, decide_eq_false (fun h => c2' h.2)])))
    · have c1' : ¬ (0 : Int) ≤ i := fun z => c1 (decide_eq_true z)
      refine ⟨_, rfl, ?_⟩
      exact iteT (no _ H (KT.refl hT) (r1 (by rw [tB, decide_eq_false (fun h => c1' h.1)])))
end

/-! ### the law: drawn parts of changes -/
def Itm17 (K : PySem.W.Frag) (M : PyData → Bool) (H : Hp) (v : V) : Prop := ∃ (l : Addr) (x : V) (d : PyData), v = .ref l ∧ H l = some (.lst [x, .bl (M d)]) ∧ Dp K H x d ∧ AtomD d ∧ LenD d ∧ Imm d
theorem Itm17.same {K : PySem.W.Frag} {M : PyData → Bool} {H H' : Hp} {v : V} (h : Itm17 K M H v) (s : Same H H') : Itm17 K M H' v := by
  obtain ⟨l, x, d, h1, h2, h3, h4⟩ := h
  exact ⟨l, x, d, h1, s _ _ h2, Dp.same s h3, h4⟩
theorem Itm17.kp {K : PySem.W.Frag} {M : PyData → Bool} {H H' : Hp} {v : V} {b p : Addr} (h : Itm17 K M H v) (B : BoxAt H b p) (hn : v ≠ .ref b) (k : Kp b H H') : Itm17 K M H' v := by
  obtain ⟨l, x, d, h1, h2, h3, h4⟩ := h
  exact ⟨l, x, d, h1, k _ _ h2 (fun z => hn (by rw [h1, z])), Dp.keep (TK.box B k) h3 h4.2.2, h4⟩
theorem Itm17.kt {K : PySem.W.Frag} {M : PyData → Bool} {H H' : Hp} {v : V} {Ps : List Addr} (h : Itm17 K M H v) (T : TabsG H Ps) (k : KT Ps H H') : Itm17 K M H' v := by
  obtain ⟨l, x, d, h1, h2, h3, h4⟩ := h
  exact ⟨l, x, d, h1, k.lst T h2, Dp.keep (k.tk T) h3 h4.2.2, h4⟩
def Its17 (K : PySem.W.Frag) (M : PyData → Bool) (H : Hp) (vs : List V) : Prop := ∀ v ∈ vs, Itm17 K M H v
theorem Its17.new {K : PySem.W.Frag} {M : PyData → Bool} {H : Hp} {vs : List V} {l : Addr} {x : V} {d : PyData} {ok : Bool} (h : Its17 K M H vs) (hl : H l = none) (hx : Dp K H x d) (e : M d = ok) (h4 : AtomD d ∧ LenD d ∧ Imm d) : Its17 K M (upd H l (.lst [x, .bl ok])) (vs ++ [.ref l]) := fun v hv => by
  have s := same_new (o := .lst [x, .bl ok]) hl
  rcases List.mem_append.mp hv with hv | hv
  · exact (h v hv).same s
  · rw [List.mem_singleton.mp hv]
    exact ⟨l, x, d, rfl, by rw [e]; exact upd_same, Dp.same s hx, h4⟩
theorem Its17.same {K : PySem.W.Frag} {M : PyData → Bool} {H H' : Hp} {vs : List V} (h : Its17 K M H vs) (s : Same H H') : Its17 K M H' vs := fun v hv => (h v hv).same s
theorem Its17.nil {K : PySem.W.Frag} {M : PyData → Bool} {H : Hp} : Its17 K M H [] := fun v hv => nomatch hv
theorem imm_t1 (z : Str) : Imm (.tuple [.str z]) := .tup fun d hd => by rw [List.mem_singleton.mp hd]; exact .str _
theorem imm_i1 (z : Int) : Imm (.tuple [.int z]) := .tup fun d hd => by rw [List.mem_singleton.mp hd]; exact .int _
def keyM (d : PyData) : Bool := smallB 8 d
def textM : PyData → Bool
  | .none => true
  | d => textB d
def yLPart (K : PySem.W.Frag) (M : PyData → Bool) : Sp := fun vs H Q _ => ∃ (b p : Addr), vs = [.ref b] ∧ BoxAt H b p ∧ ∀ (v : V) (H' : Hp), Itm17 K M H' v → v ≠ .ref b → BoxAt H' b p → Kp b H H' → Q v H'
structure St17 (K : PySem.W.Frag) (M : PyData → Bool) (H0 H : Hp) (b : Addr) (vs : List V) : Prop where
  I : Its17 K M H vs
  S : Same H0 H
  N : ∀ v ∈ vs, v ≠ .ref b
theorem St17.nil {K : PySem.W.Frag} {M : PyData → Bool} {H : Hp} {b : Addr} : St17 K M H H b [] := ⟨Its17.nil, Same.refl H, fun v hv => nomatch hv⟩
theorem St17.new {K : PySem.W.Frag} {M : PyData → Bool} {H0 H : Hp} {b p : Addr} {vs : List V} {l : Addr} {x : V} {d : PyData} {ok : Bool} (t : St17 K M H0 H b vs) (B : BoxAt H0 b p) (hl : H l = none) (hx : Dp K H x d) (e : M d = ok) (h4 : AtomD d ∧ LenD d ∧ Imm d) : St17 K M H0 (upd H l (.lst [x, .bl ok])) b (vs ++ [.ref l]) :=
  ⟨t.I.new hl hx e h4, t.S.trans (same_new hl), fun v hv => by
    rcases List.mem_append.mp hv with hv | hv
    · exact t.N v hv
    · rw [List.mem_singleton.mp hv]
      exact fun z => ((B.keep t.S).ne hl).1 (V.ref.inj z)⟩
theorem St17.tup {K : PySem.W.Frag} {M : PyData → Bool} {H0 H : Hp} {b : Addr} {vs : List V} {l : Addr} {o : HO} (t : St17 K M H0 H b vs) (hl : H l = none) : St17 K M H0 (upd H l o) b vs :=
  ⟨t.I.same (same_new hl), t.S.trans (same_new hl), t.N⟩
section
variable {P : Program} {w : World} {K : PySem.W.Frag} {mg : Str → Option Value} {base : Heap} {A : Nat → Addr} {D : Nat → FuncData}
theorem pick17 {M : PyData → Bool} {H : Hp} {b p L : Addr} {vs : List V} {Q : VK} (I : Its17 K M H vs) (hL : H L = none) (B : BoxAt H b p) (hn : ∀ v ∈ vs, v ≠ .ref b) (q : ∀ (v : V) (H' : Hp), Itm17 K M H' v → v ≠ .ref b → BoxAt H' b p → Kp b H H' → Q v H') :
    ∀ (r : Int) (H' : Hp), 0 ≤ r → r < (vs.length : Int) → BoxAt H' b p → Kp b (upd H L (.lst vs)) H' → rIxL K (.ref L) (.int r) H' Q := by
  intro r H' h0 h1 B' k'
  have s := same_new (o := .lst vs) hL
  obtain ⟨c, hc, hm⟩ := atI_mem (l := vs) h0 h1
  have hLb : L ≠ b := (B.ne hL).1
  exact ⟨L, vs, r, c, rfl, rfl, SqL.of (k' _ _ upd_same hLb), hc, q c H' (((I.same s) c hm).kp (B.keep s) (hn c hm) k') (hn c hm) B' ((Kp.of s).trans k')⟩
theorem ok_ltime (T : Txt K mg A D) : FnOk P w K mg base CX0 2 (A 9) (D 9) ["box"] (yLPart K timeB) := by
  refine T.F__law_time.ok sc__law_time (fun vs H Q E h => ?_) (fun cdv A' outer s H vs Q E hr h => ?_)
  · obtain ⟨b, p, rfl, _⟩ := h; rfl
  obtain ⟨b, p, rfl, B, q⟩ := h
  have hnd := sc__law_time.nd
  have G__law_draw := ok_draw (P := P) (w := w) (base := base) T
  refine ⟨_, (pss_one (ps_ret (pe_ix (r := rIxL K) ix_list (pe_lst (pa_cons (pe_lst (pa_cons pe_int (pa_cons pe_bl pa_nil))) (pa_cons (pe_lst (pa_cons pe_int (pa_cons pe_bl pa_nil))) (pa_cons (pe_lst (pa_cons pe_int (pa_cons pe_bl pa_nil))) (pa_cons (pe_lst (pa_cons (pe_un un_neg pe_int) (pa_cons pe_bl pa_nil))) (pa_cons (pe_lst (pa_cons pe_int (pa_cons pe_bl pa_nil))) (pa_cons (pe_lst (pa_cons pe_bl (pa_cons pe_bl pa_nil))) (pa_cons (pe_lst (pa_cons pe_bl (pa_cons pe_bl pa_nil))) (pa_cons (pe_lst (pa_cons pe_str (pa_cons pe_bl pa_nil))) (pa_cons (pe_lst (pa_cons pe_non (pa_cons pe_bl pa_nil))) (pa_cons (pe_lst (pa_cons (pe_op op_pow pe_int pe_int) (pa_cons pe_bl pa_nil))) (pa_cons (pe_lst (pa_cons (pe_tup (pa_cons pe_int pa_nil)) (pa_cons pe_bl pa_nil))) pa_nil)))))))))))) (pe_call G__law_draw (hr.mono (by first | decide | omega)) rfl T.m__law_draw T.F__law_draw.kp T.b__law_draw .nil pass0 (pa_cons (pv 0) (pa_cons pe_int pa_nil))) (fun _ _ => rfl)))), ?_⟩
  have two : 2 ≤ sizeLine := by decide
  have t0 := St17.nil (K := K) (M := timeB) (H := H) (b := b)
  refine ⟨two, fun l1 h1 => ?_⟩
  have t1 := t0.new (d := .int 0) (ok := true) B h1 (.int _) (by decide +kernel) ⟨trivial, trivial, .int _⟩
  refine ⟨two, fun l2 h2 => ?_⟩
  have t2 := t1.new (d := .int 100000) (ok := true) B h2 (.int _) (by decide +kernel) ⟨trivial, trivial, .int _⟩
  refine ⟨two, fun l3 h3 => ?_⟩
  have t3 := t2.new (d := .int 7) (ok := true) B h3 (.int _) (by decide +kernel) ⟨trivial, trivial, .int _⟩
  refine ⟨_, rfl, two, fun l4 h4 => ?_⟩
  have t4 := t3.new (d := .int (-1)) (ok := false) B h4 (.int _) (by decide +kernel) ⟨trivial, trivial, .int _⟩
  refine ⟨two, fun l5 h5 => ?_⟩
  have t5 := t4.new (d := .int 100001) (ok := false) B h5 (.int _) (by decide +kernel) ⟨trivial, trivial, .int _⟩
  refine ⟨two, fun l6 h6 => ?_⟩
  have t6 := t5.new (d := .bool true) (ok := false) B h6 (.bl _) (by decide +kernel) ⟨trivial, trivial, .bl _⟩
  refine ⟨two, fun l7 h7 => ?_⟩
  have t7 := t6.new (d := .bool false) (ok := false) B h7 (.bl _) (by decide +kernel) ⟨trivial, trivial, .bl _⟩
  refine ⟨two, fun l8 h8 => ?_⟩
  have t8 := t7.new (d := .str "5") (ok := false) B h8 (.str _) (by decide +kernel) ⟨trivial, by show _ ≤ 100000; decide, .str _⟩
  refine ⟨two, fun l9 h9 => ?_⟩
  have t9 := t8.new (d := .none) (ok := false) B h9 .non (by decide +kernel) ⟨trivial, trivial, .non⟩
  refine ⟨_, _, rfl, rfl, ⟨by decide, by decide, by decide⟩, two, fun l10 h10 => ?_⟩
  have t10 := t9.new (d := .int (10 ^ 30)) (ok := false) B h10 (.int _) (by decide +kernel) ⟨trivial, trivial, .int _⟩
  refine ⟨(by show 1 ≤ sizeLine; decide), fun a11 ha11 => ?_⟩
  have t10 := t10.tup (o := .tup [.int 1]) ha11
  refine ⟨two, fun l11 h11 => ?_⟩
  have t11 := t10.new (d := .tuple [.int 1]) (ok := false) B h11 (.tup (SqT.of upd_same) (.cons (.int _) .nil)) (by decide +kernel) ⟨trivial, trivial, imm_i1 _⟩
  refine ⟨(by show 11 ≤ sizeLine; decide), fun L hL => ⟨_, rfl, b, p, _, rfl, (B.keep t11.S).keep (same_new hL), (by decide), ?_⟩⟩
  exact pick17 t11.I hL (B.keep t11.S) t11.N fun v H' i n B k => q v H' i n B ((Kp.of t11.S).trans k)
theorem ok_lkey (T : Txt K mg A D) : FnOk P w K mg base CX0 2 (A 10) (D 10) ["box"] (yLPart K keyM) := by
  refine T.F__law_key.ok sc__law_key (fun vs H Q E h => ?_) (fun cdv A' outer s H vs Q E hr h => ?_)
  · obtain ⟨b, p, rfl, _⟩ := h; rfl
  obtain ⟨b, p, rfl, B, q⟩ := h
  have hnd := sc__law_key.nd
  have G__law_draw := ok_draw (P := P) (w := w) (base := base) T
  refine ⟨_, (pss_one (ps_ret (pe_ix (r := rIxL K) ix_list (pe_lst (pa_cons (pe_lst (pa_cons pe_str (pa_cons pe_bl pa_nil))) (pa_cons (pe_lst (pa_cons pe_str (pa_cons pe_bl pa_nil))) (pa_cons (pe_lst (pa_cons pe_str (pa_cons pe_bl pa_nil))) (pa_cons (pe_lst (pa_cons pe_str (pa_cons pe_bl pa_nil))) (pa_cons (pe_lst (pa_cons pe_str (pa_cons pe_bl pa_nil))) (pa_cons (pe_lst (pa_cons pe_str (pa_cons pe_bl pa_nil))) (pa_cons (pe_lst (pa_cons pe_str (pa_cons pe_bl pa_nil))) (pa_cons (pe_lst (pa_cons pe_int (pa_cons pe_bl pa_nil))) (pa_cons (pe_lst (pa_cons pe_non (pa_cons pe_bl pa_nil))) (pa_cons (pe_lst (pa_cons (pe_tup (pa_cons pe_str pa_nil)) (pa_cons pe_bl pa_nil))) (pa_cons (pe_lst (pa_cons pe_str (pa_cons pe_bl pa_nil))) pa_nil)))))))))))) (pe_call G__law_draw (hr.mono (by first | decide | omega)) rfl T.m__law_draw T.F__law_draw.kp T.b__law_draw .nil pass0 (pa_cons (pv 0) (pa_cons pe_int pa_nil))) (fun _ _ => rfl)))), ?_⟩
  have two : 2 ≤ sizeLine := by decide
  have t0 := St17.nil (K := K) (M := keyM) (H := H) (b := b)
  refine ⟨two, fun l1 h1 => ?_⟩
  have t1 := t0.new (d := .str "a") (ok := true) B h1 (.str _) (by decide +kernel) ⟨trivial, by show _ ≤ 100000; decide, .str _⟩
  refine ⟨two, fun l2 h2 => ?_⟩
  have t2 := t1.new (d := .str "abcdefgh") (ok := true) B h2 (.str _) (by decide +kernel) ⟨trivial, by show _ ≤ 100000; decide, .str _⟩
  refine ⟨two, fun l3 h3 => ?_⟩
  have t3 := t2.new (d := .str "0z9") (ok := true) B h3 (.str _) (by decide +kernel) ⟨trivial, by show _ ≤ 100000; decide, .str _⟩
  refine ⟨two, fun l4 h4 => ?_⟩
  have t4 := t3.new (d := .str "") (ok := false) B h4 (.str _) (by decide +kernel) ⟨trivial, by show _ ≤ 100000; decide, .str _⟩
  refine ⟨two, fun l5 h5 => ?_⟩
  have t5 := t4.new (d := .str "abcdefghi") (ok := false) B h5 (.str _) (by decide +kernel) ⟨trivial, by show _ ≤ 100000; decide, .str _⟩
  refine ⟨two, fun l6 h6 => ?_⟩
  have t6 := t5.new (d := .str "A") (ok := false) B h6 (.str _) (by decide +kernel) ⟨trivial, by show _ ≤ 100000; decide, .str _⟩
  refine ⟨two, fun l7 h7 => ?_⟩
  have t7 := t6.new (d := .str "a b") (ok := false) B h7 (.str _) (by decide +kernel) ⟨trivial, by show _ ≤ 100000; decide, .str _⟩
  refine ⟨two, fun l8 h8 => ?_⟩
  have t8 := t7.new (d := .int 7) (ok := false) B h8 (.int _) (by decide +kernel) ⟨trivial, trivial, .int _⟩
  refine ⟨two, fun l9 h9 => ?_⟩
  have t9 := t8.new (d := .none) (ok := false) B h9 .non (by decide +kernel) ⟨trivial, trivial, .non⟩
  refine ⟨(by show 1 ≤ sizeLine; decide), fun a10 ha10 => ?_⟩
  have t9 := t9.tup (o := .tup [.str "a"]) ha10
  refine ⟨two, fun l10 h10 => ?_⟩
  have t10 := t9.new (d := .tuple [.str "a"]) (ok := false) B h10 (.tup (SqT.of upd_same) (.cons (.str _) .nil)) (by decide +kernel) ⟨trivial, trivial, imm_t1 _⟩
  refine ⟨two, fun l11 h11 => ?_⟩
  have t11 := t10.new (d := .str "a_") (ok := false) B h11 (.str _) (by decide +kernel) ⟨trivial, by show _ ≤ 100000; decide, .str _⟩
  refine ⟨(by show 11 ≤ sizeLine; decide), fun L hL => ⟨_, rfl, b, p, _, rfl, (B.keep t11.S).keep (same_new hL), (by decide), ?_⟩⟩
  exact pick17 t11.I hL (B.keep t11.S) t11.N fun v H' i n B k => q v H' i n B ((Kp.of t11.S).trans k)
theorem ok_ltext (T : Txt K mg A D) : FnOk P w K mg base CX0 2 (A 11) (D 11) ["box"] (yLPart K textM) := by
  refine T.F__law_text.ok sc__law_text (fun vs H Q E h => ?_) (fun cdv A' outer s H vs Q E hr h => ?_)
  · obtain ⟨b, p, rfl, _⟩ := h; rfl
  obtain ⟨b, p, rfl, B, q⟩ := h
  have hnd := sc__law_text.nd
  have G__law_draw := ok_draw (P := P) (w := w) (base := base) T
  refine ⟨_, (pss_one (ps_ret (pe_ix (r := rIxL K) ix_list (pe_lst (pa_cons (pe_lst (pa_cons pe_non (pa_cons pe_bl pa_nil))) (pa_cons (pe_lst (pa_cons pe_str (pa_cons pe_bl pa_nil))) (pa_cons (pe_lst (pa_cons pe_str (pa_cons pe_bl pa_nil))) (pa_cons (pe_lst (pa_cons (pe_op op_mul_sp pe_str pe_int) (pa_cons pe_bl pa_nil))) (pa_cons (pe_lst (pa_cons (pe_op op_mul_sp pe_str pe_int) (pa_cons pe_bl pa_nil))) (pa_cons (pe_lst (pa_cons pe_int (pa_cons pe_bl pa_nil))) (pa_cons (pe_lst (pa_cons (pe_tup (pa_cons pe_str pa_nil)) (pa_cons pe_bl pa_nil))) (pa_cons (pe_lst (pa_cons pe_bl (pa_cons pe_bl pa_nil))) (pa_cons (pe_lst (pa_cons pe_str (pa_cons pe_bl pa_nil))) pa_nil)))))))))) (pe_call G__law_draw (hr.mono (by first | decide | omega)) rfl T.m__law_draw T.F__law_draw.kp T.b__law_draw .nil pass0 (pa_cons (pv 0) (pa_cons pe_int pa_nil))) (fun _ _ => rfl)))), ?_⟩
  have two : 2 ≤ sizeLine := by decide
  have t0 := St17.nil (K := K) (M := textM) (H := H) (b := b)
  refine ⟨two, fun l1 h1 => ?_⟩
  have t1 := t0.new (d := .none) (ok := true) B h1 .non (by decide +kernel) ⟨trivial, trivial, .non⟩
  refine ⟨two, fun l2 h2 => ?_⟩
  have t2 := t1.new (d := .str "") (ok := true) B h2 (.str _) (by decide +kernel) ⟨trivial, by show _ ≤ 100000; decide, .str _⟩
  refine ⟨two, fun l3 h3 => ?_⟩
  have t3 := t2.new (d := .str "a\n~ Z") (ok := true) B h3 (.str _) (by decide +kernel) ⟨trivial, by show _ ≤ 100000; decide, .str _⟩
  refine ⟨120, 400, rfl, rfl, (by decide), two, fun l4 h4 => ?_⟩
  have t4 := t3.new (d := .str (⟨(List.replicate 400 120).toArray⟩ : Str)) (ok := true) B h4 (.str _) (by decide +kernel) ⟨trivial, by show _ ≤ 100000; decide, .str _⟩
  refine ⟨120, 401, rfl, rfl, (by decide), two, fun l5 h5 => ?_⟩
  have t5 := t4.new (d := .str (⟨(List.replicate 401 120).toArray⟩ : Str)) (ok := false) B h5 (.str _) (by decide +kernel) ⟨trivial, by show _ ≤ 100000; decide, .str _⟩
  refine ⟨two, fun l6 h6 => ?_⟩
  have t6 := t5.new (d := .int 5) (ok := false) B h6 (.int _) (by decide +kernel) ⟨trivial, trivial, .int _⟩
  refine ⟨(by show 1 ≤ sizeLine; decide), fun a7 ha7 => ?_⟩
  have t6 := t6.tup (o := .tup [.str "a"]) ha7
  refine ⟨two, fun l7 h7 => ?_⟩
  have t7 := t6.new (d := .tuple [.str "a"]) (ok := false) B h7 (.tup (SqT.of upd_same) (.cons (.str _) .nil)) (by decide +kernel) ⟨trivial, trivial, imm_t1 _⟩
  refine ⟨two, fun l8 h8 => ?_⟩
  have t8 := t7.new (d := .bool false) (ok := false) B h8 (.bl _) (by decide +kernel) ⟨trivial, trivial, .bl _⟩
  refine ⟨two, fun l9 h9 => ?_⟩
  have t9 := t8.new (d := .str "a\tb") (ok := false) B h9 (.str _) (by decide +kernel) ⟨trivial, by show _ ≤ 100000; decide, .str _⟩
  refine ⟨(by show 9 ≤ sizeLine; decide), fun L hL => ⟨_, rfl, b, p, _, rfl, (B.keep t9.S).keep (same_new hL), (by decide), ?_⟩⟩
  exact pick17 t9.I hL (B.keep t9.S) t9.N fun v H' i n B k => q v H' i n B ((Kp.of t9.S).trans k)
end

def fV : Option Str → V
  | none => .non
  | some z => .str z
def fD : Option Str → PyData
  | none => .none
  | some z => .str z
theorem dp_fV {K : PySem.W.Frag} {H : Hp} : ∀ o, Dp K H (fV o) (fD o)
  | none => .non
  | some z => .str z
theorem fits_fD (o : Option Str) : Fits 1 (fD o) := by cases o <;> exact True.intro
def words17 : List Str := ["time", "key", "text"]
def dueAt (ok : List Bool) : Nat → Option Str
  | 0 => none
  | i + 1 => match dueAt ok i with
    | some z => some z
    | none => if ok.getD i true = false then some (words17.getD i "") else none
theorem dueAt3 (d1 d2 d3 : PyData) : dueAt [timeB d1, keyM d2, textM d3] 3 = faultC d1 d2 d3 := by
  have e3 : faultX d3 = if textM d3 = false then some ("text" : Str) else none := by cases d3 <;> rfl
  unfold faultC
  rw [e3]
  show dueAt [timeB d1, smallB 8 d2, textM d3] 3 = _
  cases timeB d1 <;> cases smallB 8 d2 <;> cases textM d3 <;> rfl
def yTold17 (K : PySem.W.Frag) (Ps : List Addr) : Sp := fun vs H Q _ => ∃ (v : V) (dt dk dx : PyData), vs = [v] ∧ Dp K H v (.tuple [dt, dk, dx]) ∧ (AtomD dt ∧ AtomD dk ∧ AtomD dx) ∧ (LenD dt ∧ LenD dk ∧ LenD dx) ∧ TabsG H Ps ∧ (Imm dt ∧ Imm dk ∧ Imm dx) ∧
  ∀ H', KT Ps H H' → Q (fV (faultC dt dk dx)) H'
section
variable {P : Program} {w : World} {K : PySem.W.Frag} {mg : Str → Option Value} {base : Heap} {A : Nat → Addr} {D : Nat → FuncData}
theorem ok_ltold17 (T : Txt K mg A D) {Ps : List Addr} {P1 P2 : Addr} (TF1 : TbF base mg (D 1) P1) (hP1 : P1 ∈ Ps) (TF2 : TbF base mg (D 3) P2) (hP2 : P2 ∈ Ps) : FnOk P w K mg base CX0 10 (A 12) (D 12) ["change"] (yTold17 K Ps) := by
  refine T.F__law_told.ok sc__law_told (fun vs H Q E h => ?_) (fun cdv A' outer s H vs Q E hr h => ?_)
  · obtain ⟨v, dt, dk, dx, rfl, _⟩ := h; rfl
  obtain ⟨v, dt, dk, dx, rfl, hd, ha, hl, hT, hi, q⟩ := h
  have hnd := sc__law_told.nd
  have G_check_change := ok_check_change (P := P) (w := w) (base := base) T TF1 hP1 TF2 hP2
  refine ⟨_, (pss_one (ps_try_as (i := 1) (tb := fun W => tRet (tCallS (yCheck K Ps (A 101)) (WE W) (tCons (tVar 0) tNil))) (ts := fun a cls d => tRet (tXf a cls d (A 101) "word" (tVar 1))) (Wout := fun _ _ _ _ => False) rfl rfl hnd rfl rfl ⟨rfl, by decide, Or.inl T.gC_InvalidChange⟩ takes0 (fun W pn xe tk _ => pss_one (ps_ret (by exact (pe_callS G_check_change (hr.mono (by decide)) rfl T.m_check_change T.F_check_change.kp T.b_check_change (fun σ => passAt tk σ) (pa_cons (pv 0) pa_nil))))) (fun a oe cls d pn hz hf => pss_one (ps_ret (by exact (pe_xf T.xf_InvalidChange T.no_InvalidChange_word hz hf (pv 1))))))), ?_⟩
  refine ⟨_, rfl, v, dt, dk, dx, rfl, hd, ha, hl, hT, hi, fun e H' k => ?_, fun z e d H' k h1 => ?_⟩
  · rw [e] at q; exact q H' k
  · rw [e] at q
    refine ⟨true, T.te_InvalidChange, fun _ a ha => ?_, fun q => Bool.noConfusion q⟩
    exact ⟨_, rfl, rfl, rfl, d, _, _, rfl, h1, rfl, q H' k⟩
theorem ok_law (T : Txt K mg A D) {P1 P2 : Addr} (TF1 : TbF base mg (D 1) P1) (TF2 : TbF base mg (D 3) P2) : FnOk P w K mg base CX0 12 (A 13) (D 13) ["script"] (ySpLawT K [P1, P2]) := by
  refine T.F_law.ok (k := 11) sc_law (fun vs H Q E h => ?_) (fun cdv A' outer s H vs Q E hr h => ?_)
  · obtain ⟨_, a, ns, rfl, _⟩ := h; rfl
  obtain ⟨hT, a, ns, rfl, hS, hn, fin⟩ := h
  have hnd := sc_law.nd
  have G__law_draw := ok_draw (P := P) (w := w) (base := base) T
  have G__law_digits := ok_digits (P := P) (w := w) (base := base) T
  have G__law_same := ok_same (P := P) (w := w) (base := base) T 1
  have G__law_time := ok_ltime (P := P) (w := w) (base := base) T
  have G__law_key := ok_lkey (P := P) (w := w) (base := base) T
  have G__law_text := ok_ltext (P := P) (w := w) (base := base) T
  have G__law_told := ok_ltold17 (P := P) (w := w) (base := base) (Ps := [P1, P2]) T TF1 (.head _) TF2 (.tail _ (.head _))
  refine ⟨_, (pss_cons (ps_set (i := 1) hnd rfl (Or.inl rfl) (pe_lst (pa_cons (pe_call G__law_digits (hr.mono (by first | decide | omega)) rfl T.m__law_digits T.F__law_digits.kp T.b__law_digits .nil pass0 (pa_cons (pv 0) (pa_cons pe_int (pa_cons pe_int pa_nil)))) (pa_cons pe_int pa_nil)))) (pss_cons (ps_for PassesOwn.never rfl (pi_range1 rfl T.z_range (pa_cons pe_int pa_nil)) (pg_name (i := 2) hnd rfl (Or.inl rfl)) (pss_cons (ps_set (i := 3) hnd rfl (Or.inl rfl) (pe_lst (pa_cons (pe_call G__law_time (hr.mono (by first | decide | omega)) rfl T.m__law_time T.F__law_time.kp T.b__law_time .nil pass0 (pa_cons (pv 1) pa_nil)) (pa_cons (pe_call G__law_key (hr.mono (by first | decide | omega)) rfl T.m__law_key T.F__law_key.kp T.b__law_key .nil pass0 (pa_cons (pv 1) pa_nil)) (pa_cons (pe_call G__law_text (hr.mono (by first | decide | omega)) rfl T.m__law_text T.F__law_text.kp T.b__law_text .nil pass0 (pa_cons (pv 1) pa_nil)) pa_nil))))) (pss_cons (ps_set (i := 4) hnd rfl (Or.inl rfl) pe_non) (pss_cons (ps_for PassesOwn.never rfl (pi_range1 rfl T.z_range (pa_cons pe_int pa_nil)) (pg_name (i := 5) hnd rfl (Or.inl rfl)) (pss_one (ps_if (PW.pt (pw_and (pt_cmpR op_isN (pv 4) pe_non (nomark _)) (pw_and1 (pt_not (pt_val (pe_ix (r := rIxL K) ix_list (pe_ix (r := rIxL K) ix_list (pv 3) (pv 5) (fun _ _ => rfl)) pe_int (fun _ _ => rfl))))))) (pss_one (ps_set (i := 4) hnd rfl (Or.inl rfl) (pe_ix (r := rIxL K) ix_list (pe_lst (pa_cons pe_str (pa_cons pe_str (pa_cons pe_str pa_nil)))) (pv 5) (fun _ _ => rfl)))) pss_nil))) (pss_one (ps_if (pt_not (pt_val (pe_call G__law_same (hr.mono (by first | decide | omega)) rfl T.m__law_same T.F__law_same.kp T.b__law_same .nil pass0 (pa_cons (pe_call G__law_told (hr.mono (by first | decide | omega)) rfl T.m__law_told T.F__law_told.kp T.b__law_told .nil pass0 (pa_cons (pe_tup (pa_cons (pe_ix (r := rIxL K) ix_list (pe_ix (r := rIxL K) ix_list (pv 3) pe_int (fun _ _ => rfl)) pe_int (fun _ _ => rfl)) (pa_cons (pe_ix (r := rIxL K) ix_list (pe_ix (r := rIxL K) ix_list (pv 3) pe_int (fun _ _ => rfl)) pe_int (fun _ _ => rfl)) (pa_cons (pe_ix (r := rIxL K) ix_list (pe_ix (r := rIxL K) ix_list (pv 3) pe_int (fun _ _ => rfl)) pe_int (fun _ _ => rfl)) pa_nil)))) pa_nil)) (pa_cons (pv 4) pa_nil))))) (pss_one (ps_ret pe_bl)) pss_nil)))))) (pss_one (ps_ret pe_bl)))), ?_⟩
  refine ⟨_, rfl, a, ns, rfl, hS, fun p ds H1 s1 hp0 hp1 hl => ⟨(by show 2 ≤ sizeLine; decide), fun b hb => ?_⟩⟩
  have B1 := box_new hp1 hb
  have T1 : TabsG (upd H1 b (.lst [.ref p, .int 0])) [P1, P2] := hT.same (s1.trans (same_new hb))
  refine ⟨_, rfl, (by decide), (by decide), ?_⟩
  refine for_range (n := 4) (fun i σ H' => (∃ c2 c3 c4 c5, σ = [some (.ref a), some (.ref b), c2, c3, c4, c5]) ∧ BoxAt H' b p ∧ TabsG H' [P1, P2]) ⟨⟨_, _, _, _, rfl⟩, B1, T1⟩ ?_ ?_
  · rintro i σ H2 hi ⟨⟨c2, c3, c4, c5, rfl⟩, B2, T2⟩
    refine ⟨_, rfl, b, p, rfl, B2, fun v1 H3 i1 n1 B3 k3 => ?_⟩
    have T3 := T2.box B2 k3
    refine ⟨_, rfl, b, p, rfl, B3, fun v2 H4 i2 n2 B4 k4 => ?_⟩
    have T4 := T3.box B3 k4
    have i1 := i1.kp B3 n1 k4
    refine ⟨_, rfl, b, p, rfl, B4, fun v3 H5 i3 n3 B5 k5 => ?_⟩
    have T5 := T4.box B4 k5
    have i1 := i1.kp B4 n1 k5
    have i2 := i2.kp B4 n2 k5
    refine ⟨(by show 3 ≤ sizeLine; decide), fun pl hpl => ?_⟩
    have s6 := same_new (o := .lst [v1, v2, v3]) hpl
    have B6 := B5.keep s6
    have T6 := T5.same s6
    obtain ⟨l1, x1, d1, rfl, a1, b1, m1⟩ := i1.same s6
    obtain ⟨l2, x2, d2, rfl, a2, b2, m2⟩ := i2.same s6
    obtain ⟨l3, x3, d3, rfl, a3, b3, m3⟩ := i3.same s6
    refine ⟨_, rfl, (by decide), (by decide), ?_⟩
    refine for_range (n := 3) (fun k σ H' => (∃ c5, σ = [some (.ref a), some (.ref b), some (.int (0 + (i : Int))), some (.ref pl), some (fV (dueAt [timeB d1, keyM d2, textM d3] k)), c5]) ∧ Same (upd H5 pl (.lst [.ref l1, .ref l2, .ref l3])) H') ⟨⟨_, rfl⟩, Same.refl _⟩ ?_ ?_
    · rintro k σ H7 hk ⟨⟨c5, rfl⟩, s7⟩
      have hpl7 := s7 _ _ upd_same
      have a17 := s7 _ _ a1
      have a27 := s7 _ _ a2
      have a37 := s7 _ _ a3
      obtain ⟨lk, xk, e1, e2⟩ : ∃ lk xk, ([V.ref l1, .ref l2, .ref l3] : List V)[k]? = some (.ref lk) ∧ H7 lk = some (.lst [xk, .bl ([timeB d1, keyM d2, textM d3].getD k true)]) := by
        match k, hk with
        | 0, _ => exact ⟨l1, x1, rfl, a17⟩
        | 1, _ => exact ⟨l2, x2, rfl, a27⟩
        | 2, _ => exact ⟨l3, x3, rfl, a37⟩
      have ew : atI [V.str "time", .str "key", .str "text"] (0 + (k : Int)) = some (.str (words17.getD k "")) := by
        match k, hk with
        | 0, _ => rfl
        | 1, _ => rfl
        | 2, _ => rfl
      refine ⟨_, rfl, rfl, _, rfl, ?_⟩
      have st : dueAt [timeB d1, keyM d2, textM d3] (k + 1) = match dueAt [timeB d1, keyM d2, textM d3] k with
        | some z => some z
        | none => if [timeB d1, keyM d2, textM d3].getD k true = false then some (words17.getD k "") else none := rfl
      cases hdu : dueAt [timeB d1, keyM d2, textM d3] k with
      | some z =>
        rw [hdu] at st
        refine iteF ?_
        refine ⟨⟨some (.int (0 + (k : Int))), ?_⟩, s7⟩
        rw [st]; rfl
      | none =>
        rw [hdu] at st
        refine iteT ⟨_, rfl, _, rfl, pl, _, _, _, rfl, rfl, SqL.of hpl7, at_of (Int.zero_add _) e1, lk, _, 1, _, rfl, rfl, SqL.of e2, rfl, _, rfl, ?_⟩
        cases hok : [timeB d1, keyM d2, textM d3].getD k true with
        | true =>
          refine iteF ?_
          refine ⟨⟨some (.int (0 + (k : Int))), ?_⟩, s7⟩
          rw [st, hok]; rfl
        | false =>
          refine iteT ⟨(by show 3 ≤ sizeLine; decide), fun l9 hl9 => ?_⟩
          refine ⟨_, rfl, l9, _, _, _, rfl, rfl, SqL.of upd_same, ew, ?_⟩
          refine ⟨⟨some (.int (0 + (k : Int))), ?_⟩, s7.trans (same_new hl9)⟩
          rw [st, hok]; rfl
    · rintro σ H7 ⟨⟨c5, rfl⟩, s7⟩
      have hpl7 := s7 _ _ upd_same
      have a17 := s7 _ _ a1
      have a27 := s7 _ _ a2
      have a37 := s7 _ _ a3
      have T7 := T6.same s7
      rw [dueAt3]
      refine ⟨_, rfl, pl, _, 0, _, rfl, rfl, SqL.of hpl7, rfl, l1, _, 0, _, rfl, rfl, SqL.of a17, rfl, ?_⟩
      refine ⟨_, rfl, pl, _, 1, _, rfl, rfl, SqL.of hpl7, rfl, l2, _, 0, _, rfl, rfl, SqL.of a27, rfl, ?_⟩
      refine ⟨_, rfl, pl, _, 2, _, rfl, rfl, SqL.of hpl7, rfl, l3, _, 0, _, rfl, rfl, SqL.of a37, rfl, ?_⟩
      refine ⟨(by show 3 ≤ sizeLine; decide), fun t8 ht8 => ?_⟩
      have s8 := same_new (o := .tup [x1, x2, x3]) ht8
      have s78 := s7.trans s8
      refine ⟨.ref t8, d1, d2, d3, rfl, .tup (SqT.of upd_same) (.cons (Dp.same s78 b1) (.cons (Dp.same s78 b2) (.cons (Dp.same s78 b3) .nil))), ⟨m1.1, m2.1, m3.1⟩, ⟨m1.2.1, m2.2.1, m3.2.1⟩, T7.same s8, ⟨m1.2.2, m2.2.2, m3.2.2⟩, fun H9 k9 => ?_⟩
      refine ⟨_, rfl, _, _, fD (faultC d1 d2 d3), rfl, dp_fV _, dp_fV _, fits_fD _, _, rfl, iteF ?_⟩
      exact ⟨⟨_, _, _, _, rfl⟩, k9.box (T7.same s8) (B6.keep s78), k9.1⟩
  · rintro σ H2 ⟨⟨c2, c3, c4, c5, rfl⟩, B2, T2⟩
    exact fin _
end

theorem all_mk {l : PySem.W.OpenLaw} {w : World} {K : PySem.W.Frag} {h : Heap} {mg : Str → Option Value} {fa f0 f1 f2 f3 f4 f5 f6 f7 f8 f9 f10 f11 f12 f13 : Addr} (X : K.In h) (G : h.Ns mainGlobals mg) (hfa : mg "law" = some (.ref fa))
    {od0 od1 od2 od3 od4 od5 od6 od7 od8 od9 od10 od11 od12 od13 an0 an1 an2 an3 an4 an5 an6 an7 an8 an9 an10 an11 an12 an13 : Option Addr} {sl0 sl1 sl2 sl3 sl4 sl5 sl6 sl7 sl8 sl9 sl10 sl11 sl12 sl13 : Array (Option Value)} {oc0 oc1 oc2 oc3 oc4 oc5 oc6 oc7 oc8 oc9 oc10 oc11 oc12 oc13 kV0 kV1 kV2 kV3 kV4 kV5 kV6 kV7 kV8 kV9 kV10 kV11 kV12 kV13 dc0 dc1 dc2 dc3 dc4 dc5 dc6 dc7 dc8 dc9 dc10 dc11 dc12 dc13 pm0 pm1 pm2 pm3 pm4 pm5 pm6 pm7 pm8 pm9 pm10 pm11 pm12 pm13 cd0 cd1 cd2 cd3 cd4 cd5 cd6 cd7 cd8 cd9 cd10 cd11 cd12 cd13 ct0 ct1 ct2 ct3 ct4 ct5 ct6 ct7 ct8 ct9 ct10 ct11 ct12 ct13 : Value} {t0 t1 t2 t3 t4 t5 : Tok} {C1 fi1 Nx1 : Addr} {nm1 qx1 : Str} {bs1 sub1 : List Value} {bm1 : List Value} {sn1 : List Str} {ab1 : Bool} {col1 : Option Bool} {dd1 odi1 ani1 : Option Addr} {m01 m11 m21 m31 m51 : Option Value} {sli1 : Array (Option Value)} {oci1 kVi1 dci1 pmi1 cdi1 cti1 : Value}
    (a0 : PySem.W.nsIn K mainGlobals "is_number" = some (some (.ref f0))) (l0 : K.lookup f0 = some ⟨oc0, od0, .func (PySem.W.fnOf "is_number" "is_number" (defArgs s_is_number) (defBody s_is_number) (defScope s_is_number) .none kV0 dc0 pm0 an0 cd0 ct0), sl0⟩) (c0 : PySem.W.codeIn K cd0 "is_number" = true) (k0 : PySem.W.keepIn K (.ref f0) = true)
    (a1 : PySem.W.nsIn K mainGlobals "is_small" = some (some (.ref f1))) (l1 : K.lookup f1 = some ⟨oc1, od1, .func (PySem.W.fnOf "is_small" "is_small" (defArgs s_is_small) (defBody s_is_small) (defScope s_is_small) .none kV1 dc1 pm1 an1 cd1 ct1), sl1⟩) (c1 : PySem.W.codeIn K cd1 "is_small" = true) (k1 : PySem.W.keepIn K (.ref f1) = true)
    (a2 : PySem.W.nsIn K mainGlobals "check_change" = some (some (.ref f2))) (l2 : K.lookup f2 = some ⟨oc2, od2, .func (PySem.W.fnOf "check_change" "check_change" (defArgs s_check_change) (defBody s_check_change) (defScope s_check_change) .none kV2 dc2 pm2 an2 cd2 ct2), sl2⟩) (c2 : PySem.W.codeIn K cd2 "check_change" = true) (k2 : PySem.W.keepIn K (.ref f2) = true)
    (a3 : PySem.W.nsIn K mainGlobals "is_text" = some (some (.ref f3))) (l3 : K.lookup f3 = some ⟨oc3, od3, .func (PySem.W.fnOf "is_text" "is_text" (defArgs s_is_text) (defBody s_is_text) (defScope s_is_text) .none kV3 dc3 pm3 an3 cd3 ct3), sl3⟩) (c3 : PySem.W.codeIn K cd3 "is_text" = true) (k3 : PySem.W.keepIn K (.ref f3) = true)
    (a4 : PySem.W.nsIn K mainGlobals "is_code" = some (some (.ref f4))) (l4 : K.lookup f4 = some ⟨oc4, od4, .func (PySem.W.fnOf "is_code" "is_code" (defArgs s_is_code) (defBody s_is_code) (defScope s_is_code) .none kV4 dc4 pm4 an4 cd4 ct4), sl4⟩) (c4 : PySem.W.codeIn K cd4 "is_code" = true) (k4 : PySem.W.keepIn K (.ref f4) = true)
    (a5 : PySem.W.nsIn K mainGlobals "_law_cell" = some (some (.ref f5))) (l5 : K.lookup f5 = some ⟨oc5, od5, .func (PySem.W.fnOf "_law_cell" "_law_cell" (defArgs s__law_cell) (defBody s__law_cell) (defScope s__law_cell) .none kV5 dc5 pm5 an5 cd5 ct5), sl5⟩) (c5 : PySem.W.codeIn K cd5 "_law_cell" = true) (k5 : PySem.W.keepIn K (.ref f5) = true)
    (a6 : PySem.W.nsIn K mainGlobals "_law_digits" = some (some (.ref f6))) (l6 : K.lookup f6 = some ⟨oc6, od6, .func (PySem.W.fnOf "_law_digits" "_law_digits" (defArgs s__law_digits) (defBody s__law_digits) (defScope s__law_digits) .none kV6 dc6 pm6 an6 cd6 ct6), sl6⟩) (c6 : PySem.W.codeIn K cd6 "_law_digits" = true) (k6 : PySem.W.keepIn K (.ref f6) = true)
    (a7 : PySem.W.nsIn K mainGlobals "_law_draw" = some (some (.ref f7))) (l7 : K.lookup f7 = some ⟨oc7, od7, .func (PySem.W.fnOf "_law_draw" "_law_draw" (defArgs s__law_draw) (defBody s__law_draw) (defScope s__law_draw) .none kV7 dc7 pm7 an7 cd7 ct7), sl7⟩) (c7 : PySem.W.codeIn K cd7 "_law_draw" = true) (k7 : PySem.W.keepIn K (.ref f7) = true)
    (a8 : PySem.W.nsIn K mainGlobals "_law_same" = some (some (.ref f8))) (l8 : K.lookup f8 = some ⟨oc8, od8, .func (PySem.W.fnOf "_law_same" "_law_same" (defArgs s__law_same) (defBody s__law_same) (defScope s__law_same) .none kV8 dc8 pm8 an8 cd8 ct8), sl8⟩) (c8 : PySem.W.codeIn K cd8 "_law_same" = true) (k8 : PySem.W.keepIn K (.ref f8) = true)
    (a9 : PySem.W.nsIn K mainGlobals "_law_time" = some (some (.ref f9))) (l9 : K.lookup f9 = some ⟨oc9, od9, .func (PySem.W.fnOf "_law_time" "_law_time" (defArgs s__law_time) (defBody s__law_time) (defScope s__law_time) .none kV9 dc9 pm9 an9 cd9 ct9), sl9⟩) (c9 : PySem.W.codeIn K cd9 "_law_time" = true) (k9 : PySem.W.keepIn K (.ref f9) = true)
    (a10 : PySem.W.nsIn K mainGlobals "_law_key" = some (some (.ref f10))) (l10 : K.lookup f10 = some ⟨oc10, od10, .func (PySem.W.fnOf "_law_key" "_law_key" (defArgs s__law_key) (defBody s__law_key) (defScope s__law_key) .none kV10 dc10 pm10 an10 cd10 ct10), sl10⟩) (c10 : PySem.W.codeIn K cd10 "_law_key" = true) (k10 : PySem.W.keepIn K (.ref f10) = true)
    (a11 : PySem.W.nsIn K mainGlobals "_law_text" = some (some (.ref f11))) (l11 : K.lookup f11 = some ⟨oc11, od11, .func (PySem.W.fnOf "_law_text" "_law_text" (defArgs s__law_text) (defBody s__law_text) (defScope s__law_text) .none kV11 dc11 pm11 an11 cd11 ct11), sl11⟩) (c11 : PySem.W.codeIn K cd11 "_law_text" = true) (k11 : PySem.W.keepIn K (.ref f11) = true)
    (a12 : PySem.W.nsIn K mainGlobals "_law_told" = some (some (.ref f12))) (l12 : K.lookup f12 = some ⟨oc12, od12, .func (PySem.W.fnOf "_law_told" "_law_told" (defArgs s__law_told) (defBody s__law_told) (defScope s__law_told) .none kV12 dc12 pm12 an12 cd12 ct12), sl12⟩) (c12 : PySem.W.codeIn K cd12 "_law_told" = true) (k12 : PySem.W.keepIn K (.ref f12) = true)
    (a13 : PySem.W.nsIn K mainGlobals "law" = some (some (.ref f13))) (l13 : K.lookup f13 = some ⟨oc13, od13, .func (PySem.W.fnOf "law" "law" (defArgs s_law) (defBody s_law) (defScope s_law) .none kV13 dc13 pm13 an13 cd13 ct13), sl13⟩) (c13 : PySem.W.codeIn K cd13 "law" = true) (k13 : PySem.W.keepIn K (.ref f13) = true)
    (gc0 : PySem.W.nsIn K mainGlobals "SMALL" = some (some (.str "0123456789abcdefghijklmnopqrstuvwxyz" t0)))
    (gc1 : PySem.W.nsIn K mainGlobals "LAST_TIME" = some (some (.int 100000 t1)))
    (gc2 : PySem.W.nsIn K mainGlobals "LONGEST_KEY" = some (some (.int 8 t2)))
    (gc3 : PySem.W.nsIn K mainGlobals "LONGEST_TEXT" = some (some (.int 400 t3)))
    (gc4 : PySem.W.nsIn K mainGlobals "NEWLINE" = some (some (.int 10 t4)))
    (gc5 : PySem.W.nsIn K mainGlobals "PERCENT" = some (some (.int 37 t5)))
    (aC1 : PySem.W.nsIn K mainGlobals "InvalidChange" = some (some (.ref C1)))
    (xL1 : K.lookup C1 = some (excClassObj nm1 qx1 C1 Nx1 bs1 bm1 true sn1 sub1 ab1 col1 dd1 m01 m11 m21 m31 m51 "ValueError.__new__")) (xM1 : PySem.HandSPX.refsVE bm1 = true)
    (sa1 : PySem.W.findIn K (.ref C1) "__setattr__" = some (some (.builtin "object.__setattr__"))) (ga1 : PySem.W.findIn K (.ref C1) "__getattribute__" = some (some (.builtin "BaseException.__getattribute__"))) (gg1 : PySem.W.findIn K (.ref C1) "__getattr__" = some none)
    (nb1_word : PySem.W.findIn K (.ref C1) "word" = some none)
    (ai1 : PySem.W.findIn K (.ref C1) "__init__" = some (some (.ref fi1))) (ti1 : PySem.W.typeIn K (.ref fi1) = some (.type "function"))
    (li1 : K.lookup fi1 = some ⟨oci1, odi1, .func (PySem.W.fnOf "__init__" "InvalidChange.__init__" (defArgs s_InvalidChange) (defBody s_InvalidChange) (defScope s_InvalidChange) .none kVi1 dci1 pmi1 ani1 cdi1 cti1), sli1⟩) (ci1 : PySem.W.codeIn K cdi1 "InvalidChange.__init__" = true) (ki1 : PySem.W.keepIn K (.ref fi1) = true)
    (kC1 : PySem.W.keepIn K (.ref C1) = true) (eC1 : PySem.W.subIn K (.ref C1) (.type "BaseException") = some true) (tC1 : PySem.W.typeIn K (.ref C1) = some (.type "type")) (hC1 : PySem.W.hasDictIn K C1 = true) (iC1 : PySem.W.isClsIn K C1 = true) (sC1 : PySem.W.subIn K (.ref C1) (.ref C1) = some true)
    (z0 : PySem.W.nsIn K mainGlobals "all" = some none)
    (z1 : PySem.W.nsIn K mainGlobals "bool" = some none)
    (z2 : PySem.W.nsIn K mainGlobals "int" = some none)
    (z3 : PySem.W.nsIn K mainGlobals "isinstance" = some none)
    (z4 : PySem.W.nsIn K mainGlobals "len" = some none)
    (z5 : PySem.W.nsIn K mainGlobals "list" = some none)
    (z6 : PySem.W.nsIn K mainGlobals "ord" = some none)
    (z7 : PySem.W.nsIn K mainGlobals "range" = some none)
    (z8 : PySem.W.nsIn K mainGlobals "str" = some none)
    (z9 : PySem.W.nsIn K mainGlobals "tuple" = some none)
    {cG0 pG0 : Addr} (hG0 : cd1 = .ref cG0)
    {cG1 pG1 : Addr} (hG1 : cd3 = .ref cG1)
    : ∃ fd : FuncData, (∀ (s : Shared) (v : Value), BindsTo s fd ⟨[v], []⟩ [("script", v)]) ∧ ∀ base : Heap, K.In base → base.Ns mainGlobals mg → (∀ p ∈ [(cG0, pG0), (cG1, pG1)], LamX.TabB base mg p.1 p.2) → FnOk l.prog w K mg base CX0 12 fa fd ["script"] (ySpLawT K ([(cG0, pG0), (cG1, pG1)].map (·.2))) := by
  have e := hfa.symm.trans (PySem.W.mg_of X G a13)
  cases e
  have F0 := fun_mk (st := s_is_number) l0 c0 k0
  have F1 := fun_mk (st := s_is_small) l1 c1 k1
  have F2 := fun_mk (st := s_check_change) l2 c2 k2
  have F3 := fun_mk (st := s_is_text) l3 c3 k3
  have F4 := fun_mk (st := s_is_code) l4 c4 k4
  have F5 := fun_mk (st := s__law_cell) l5 c5 k5
  have F6 := fun_mk (st := s__law_digits) l6 c6 k6
  have F7 := fun_mk (st := s__law_draw) l7 c7 k7
  have F8 := fun_mk (st := s__law_same) l8 c8 k8
  have F9 := fun_mk (st := s__law_time) l9 c9 k9
  have F10 := fun_mk (st := s__law_key) l10 c10 k10
  have F11 := fun_mk (st := s__law_text) l11 c11 k11
  have F12 := fun_mk (st := s__law_told) l12 c12 k12
  have F13 := fun_mk (st := s_law) l13 c13 k13
  have b0 := F0.binds (ps := ["value"]) fun _ _ _ _ _ _ us hl => match us, hl with | [_], _ => rfl
  have b1 := F1.binds (ps := ["value", "most"]) fun _ _ _ _ _ _ us hl => match us, hl with | [_, _], _ => rfl
  have b2 := F2.binds (ps := ["change"]) fun _ _ _ _ _ _ us hl => match us, hl with | [_], _ => rfl
  have b3 := F3.binds (ps := ["value"]) fun _ _ _ _ _ _ us hl => match us, hl with | [_], _ => rfl
  have b4 := F4.binds (ps := ["code"]) fun _ _ _ _ _ _ us hl => match us, hl with | [_], _ => rfl
  have b5 := F5.binds (ps := ["script", "k"]) fun _ _ _ _ _ _ us hl => match us, hl with | [_, _], _ => rfl
  have b6 := F6.binds (ps := ["script", "first", "last"]) fun _ _ _ _ _ _ us hl => match us, hl with | [_, _, _], _ => rfl
  have b7 := F7.binds (ps := ["box", "many"]) fun _ _ _ _ _ _ us hl => match us, hl with | [_, _], _ => rfl
  have b8 := F8.binds (ps := ["actual", "due"]) fun _ _ _ _ _ _ us hl => match us, hl with | [_, _], _ => rfl
  have b9 := F9.binds (ps := ["box"]) fun _ _ _ _ _ _ us hl => match us, hl with | [_], _ => rfl
  have b10 := F10.binds (ps := ["box"]) fun _ _ _ _ _ _ us hl => match us, hl with | [_], _ => rfl
  have b11 := F11.binds (ps := ["box"]) fun _ _ _ _ _ _ us hl => match us, hl with | [_], _ => rfl
  have b12 := F12.binds (ps := ["change"]) fun _ _ _ _ _ _ us hl => match us, hl with | [_], _ => rfl
  have b13 := F13.binds (ps := ["script"]) fun _ _ _ _ _ _ us hl => match us, hl with | [_], _ => rfl
  have Fi1 := fun_mk (st := s_InvalidChange) li1 ci1 ki1
  have bi1 := Fi1.binds (ps := ["self", "word"]) fun _ _ _ _ _ _ us hl => match us, hl with | [_, _], _ => rfl
  let AA : Nat → Addr := fun i => match i with | 0 => f0 | 1 => f1 | 2 => f2 | 3 => f3 | 4 => f4 | 5 => f5 | 6 => f6 | 7 => f7 | 8 => f8 | 9 => f9 | 10 => f10 | 11 => f11 | 12 => f12 | 13 => fa | 101 => C1 | 201 => fi1 | _ => fa
  let DD : Nat → FuncData := fun i => match i with | 0 => PySem.W.fnOf "is_number" "is_number" (defArgs s_is_number) (defBody s_is_number) (defScope s_is_number) .none kV0 dc0 pm0 an0 cd0 ct0 | 1 => PySem.W.fnOf "is_small" "is_small" (defArgs s_is_small) (defBody s_is_small) (defScope s_is_small) .none kV1 dc1 pm1 an1 cd1 ct1 | 2 => PySem.W.fnOf "check_change" "check_change" (defArgs s_check_change) (defBody s_check_change) (defScope s_check_change) .none kV2 dc2 pm2 an2 cd2 ct2 | 3 => PySem.W.fnOf "is_text" "is_text" (defArgs s_is_text) (defBody s_is_text) (defScope s_is_text) .none kV3 dc3 pm3 an3 cd3 ct3 | 4 => PySem.W.fnOf "is_code" "is_code" (defArgs s_is_code) (defBody s_is_code) (defScope s_is_code) .none kV4 dc4 pm4 an4 cd4 ct4 | 5 => PySem.W.fnOf "_law_cell" "_law_cell" (defArgs s__law_cell) (defBody s__law_cell) (defScope s__law_cell) .none kV5 dc5 pm5 an5 cd5 ct5 | 6 => PySem.W.fnOf "_law_digits" "_law_digits" (defArgs s__law_digits) (defBody s__law_digits) (defScope s__law_digits) .none kV6 dc6 pm6 an6 cd6 ct6 | 7 => PySem.W.fnOf "_law_draw" "_law_draw" (defArgs s__law_draw) (defBody s__law_draw) (defScope s__law_draw) .none kV7 dc7 pm7 an7 cd7 ct7 | 8 => PySem.W.fnOf "_law_same" "_law_same" (defArgs s__law_same) (defBody s__law_same) (defScope s__law_same) .none kV8 dc8 pm8 an8 cd8 ct8 | 9 => PySem.W.fnOf "_law_time" "_law_time" (defArgs s__law_time) (defBody s__law_time) (defScope s__law_time) .none kV9 dc9 pm9 an9 cd9 ct9 | 10 => PySem.W.fnOf "_law_key" "_law_key" (defArgs s__law_key) (defBody s__law_key) (defScope s__law_key) .none kV10 dc10 pm10 an10 cd10 ct10 | 11 => PySem.W.fnOf "_law_text" "_law_text" (defArgs s__law_text) (defBody s__law_text) (defScope s__law_text) .none kV11 dc11 pm11 an11 cd11 ct11 | 12 => PySem.W.fnOf "_law_told" "_law_told" (defArgs s__law_told) (defBody s__law_told) (defScope s__law_told) .none kV12 dc12 pm12 an12 cd12 ct12 | 13 => PySem.W.fnOf "law" "law" (defArgs s_law) (defBody s_law) (defScope s_law) .none kV13 dc13 pm13 an13 cd13 ct13 | 201 => PySem.W.fnOf "__init__" "InvalidChange.__init__" (defArgs s_InvalidChange) (defBody s_InvalidChange) (defScope s_InvalidChange) .none kVi1 dci1 pmi1 ani1 cdi1 cti1 | _ => PySem.W.fnOf "law" "law" (defArgs s_law) (defBody s_law) (defScope s_law) .none kV13 dc13 pm13 an13 cd13 ct13
  have T : Txt K mg AA DD := { F_is_number := F0, b_is_number := b0, m_is_number := PySem.W.mg_of X G a0, F_is_small := F1, b_is_small := b1, m_is_small := PySem.W.mg_of X G a1, F_check_change := F2, b_check_change := b2, m_check_change := PySem.W.mg_of X G a2, F_is_text := F3, b_is_text := b3, m_is_text := PySem.W.mg_of X G a3, F_is_code := F4, b_is_code := b4, m_is_code := PySem.W.mg_of X G a4, F__law_cell := F5, b__law_cell := b5, m__law_cell := PySem.W.mg_of X G a5, F__law_digits := F6, b__law_digits := b6, m__law_digits := PySem.W.mg_of X G a6, F__law_draw := F7, b__law_draw := b7, m__law_draw := PySem.W.mg_of X G a7, F__law_same := F8, b__law_same := b8, m__law_same := PySem.W.mg_of X G a8, F__law_time := F9, b__law_time := b9, m__law_time := PySem.W.mg_of X G a9, F__law_key := F10, b__law_key := b10, m__law_key := PySem.W.mg_of X G a10, F__law_text := F11, b__law_text := b11, m__law_text := PySem.W.mg_of X G a11, F__law_told := F12, b__law_told := b12, m__law_told := PySem.W.mg_of X G a12, F_law := F13, b_law := b13, m_law := PySem.W.mg_of X G a13, c_SMALL := ⟨t0, PySem.W.mg_of X G gc0⟩, c_LAST_TIME := ⟨t1, PySem.W.mg_of X G gc1⟩, c_LONGEST_KEY := ⟨t2, PySem.W.mg_of X G gc2⟩, c_LONGEST_TEXT := ⟨t3, PySem.W.mg_of X G gc3⟩, c_NEWLINE := ⟨t4, PySem.W.mg_of X G gc4⟩, c_PERCENT := ⟨t5, PySem.W.mg_of X G gc5⟩, gC_InvalidChange := PySem.W.mg_of X G aC1, ox_InvalidChange := ⟨⟨nm1, qx1, Nx1, bs1, bm1, sn1, sub1, ab1, col1, dd1, m01, m11, m21, m31, m51, xL1, xM1⟩, sa1, eC1, tC1, kC1⟩, iC_InvalidChange := ai1, tI_InvalidChange := ti1, F_InvalidChange := Fi1, b_InvalidChange := bi1, xf_InvalidChange := ⟨ga1, gg1, eC1, hC1⟩, no_InvalidChange_word := nb1_word, te_InvalidChange := exm_self eC1 iC1 tC1 sC1, z_all := PySem.W.mg_none_of X G z0, z_bool := PySem.W.mg_none_of X G z1, z_int := PySem.W.mg_none_of X G z2, z_isinstance := PySem.W.mg_none_of X G z3, z_len := PySem.W.mg_none_of X G z4, z_list := PySem.W.mg_none_of X G z5, z_ord := PySem.W.mg_none_of X G z6, z_range := PySem.W.mg_none_of X G z7, z_str := PySem.W.mg_none_of X G z8, z_tuple := PySem.W.mg_none_of X G z9 }
  exact ⟨DD 13, fun s v => .of_eq rfl, fun base _ _ TB => ok_law (A := AA) (D := DD) T ⟨cG0, hG0, TB (cG0, pG0) (.head _)⟩ ⟨cG1, hG1, TB (cG1, pG1) (.tail _ (.head _))⟩⟩
theorem walk {l : PySem.W.OpenLaw} {q : Program} {loose : List Str} {XP : (Str → Option Value) → Heap → Prop} {YP : World → Heap → Prop} {d : DefRec} {K : Params → PySem.W.Frag} (cs : List (Addr × Addr)) (hn : l.most = some 63) (hdf : d.params.defaults = [])
    (hY : ∀ (w : World) (h : Heap), YP w h → (K w.params).In h) (hT : ∀ (w : World) (h : Heap), YP w h → ∀ p ∈ cs, h.get? p.2 = some { cls := .none, data := .fields #[] }) (nT : ∀ w : World, ∀ p ∈ cs, (K w.params).lookup p.2 = none) (cT : ∀ w : World, ∀ p ∈ cs, PySem.W.codeHdIn (K w.params) p.1 p.2 = true)
    (F : ∀ (w : World) (mg : Str → Option Value) (fa : Addr) (h : Heap), (K w.params).In h → h.Ns mainGlobals mg → mg d.name = some (.ref fa) →
      ∃ fd : FuncData, (∀ (s : Shared) (u : Value), BindsTo s fd ⟨[u], []⟩ [("script", u)]) ∧ ∀ base : Heap, (K w.params).In base → base.Ns mainGlobals mg → (∀ p ∈ cs, LamX.TabB base mg p.1 p.2) → FnOk l.prog w (K w.params) mg base CX0 12 fa fd ["script"] (ySpLawT (K w.params) (cs.map (·.2)))) :
    PySem.W.WalkO q loose XP YP l.row.toRowW d [] (fun f vs => PySem.call f vs) := by
  refine LamX.walk_ofTs (n := 63) (k := 12) (x := "script") (CX := fun _ => CX0) hn (by decide) hdf ⟨rfl, by decide, by decide⟩ hY (fun w mg fa h Y KX G hm => ?_) fun _ _ _ _ _ z => z
  obtain ⟨fd, hb, hF⟩ := F w mg fa h KX G hm
  exact ⟨fd, cs, ySpLawT (K w.params) (cs.map (·.2)), hT w h Y, nT w, fun p hp => PySem.W.codeHd_of_K KX (cT w p hp), hb, fun H a ns hl _ hH hS => ⟨fun P hP => by obtain ⟨p, hp, e⟩ := List.mem_map.mp hP; rw [← e]; exact ⟨#[], hH p hp, trivial⟩, a, ns, rfl, hS, hl, fun _ => rfl⟩, hF⟩
end Z
open PySem PySem.W PyProof.Rows
set_option maxRecDepth 100000 in
set_option maxHeartbeats 0 in
theorem PySem.Challenge.cw_timeshelf_k17_changes_are_checked_holds : PySem.Challenge.rw_timeshelf_k17_changes_are_checked.Holds := by
  w_on; o_law; k_head; (case hw => w_witness2)
  k_fill
  refine Z.walk (l := PySem.Challenge.rw_timeshelf_k17_changes_are_checked) [(59, 55), (73, 69)] rfl rfl (fun w h Y => PySem.W.km_in_of Y) (fun w h Y p hp => PySem.W.km_tabs_of Y _ (List.mem_map_of_mem (f := Prod.snd) hp)) (fun w => (Z.fa_cons ?nT0 (Z.fa_cons ?nT1 Z.fa_nil))) (fun w => (Z.fa_cons ?cT0 (Z.fa_cons ?cT1 Z.fa_nil))) ?F
  (case nT0 => first | k_is | rfl | kernel_rfl)
  (case nT1 => first | k_is | rfl | kernel_rfl)
  (case cT0 => first | k_is | rfl | kernel_rfl)
  (case cT1 => first | k_is | rfl | kernel_rfl)
  case F =>
    intro w mg fa h KX G hmg
    refine' Z.all_mk (cG0 := 59) (pG0 := 55) (cG1 := 73) (pG1 := 69) KX G hmg ?a0 ?l0 ?c0 ?k0 ?a1 ?l1 ?c1 ?k1 ?a2 ?l2 ?c2 ?k2 ?a3 ?l3 ?c3 ?k3 ?a4 ?l4 ?c4 ?k4 ?a5 ?l5 ?c5 ?k5 ?a6 ?l6 ?c6 ?k6 ?a7 ?l7 ?c7 ?k7 ?a8 ?l8 ?c8 ?k8 ?a9 ?l9 ?c9 ?k9 ?a10 ?l10 ?c10 ?k10 ?a11 ?l11 ?c11 ?k11 ?a12 ?l12 ?c12 ?k12 ?a13 ?l13 ?c13 ?k13 ?gc0 ?gc1 ?gc2 ?gc3 ?gc4 ?gc5 ?aC1 ?xL1 ?xM1 ?sa1 ?ga1 ?gg1 ?nb1_word ?ai1 ?ti1 ?li1 ?ci1 ?ki1 ?kC1 ?eC1 ?tC1 ?hC1 ?iC1 ?sC1 ?z0 ?z1 ?z2 ?z3 ?z4 ?z5 ?z6 ?z7 ?z8 ?z9 ?hG0 ?hG1
    (case a0 => first | k_is | rfl | decide +kernel)
    (case l0 => first | k_is | rfl | decide +kernel)
    (case c0 => first | k_is | rfl | decide +kernel)
    (case k0 => first | k_is | rfl | decide +kernel)
    (case a1 => first | k_is | rfl | decide +kernel)
    (case l1 => first | k_is | rfl | decide +kernel)
    (case c1 => first | k_is | rfl | decide +kernel)
    (case k1 => first | k_is | rfl | decide +kernel)
    (case a2 => first | k_is | rfl | decide +kernel)
    (case l2 => first | k_is | rfl | decide +kernel)
    (case c2 => first | k_is | rfl | decide +kernel)
    (case k2 => first | k_is | rfl | decide +kernel)
    (case a3 => first | k_is | rfl | decide +kernel)
    (case l3 => first | k_is | rfl | decide +kernel)
    (case c3 => first | k_is | rfl | decide +kernel)
    (case k3 => first | k_is | rfl | decide +kernel)
    (case a4 => first | k_is | rfl | decide +kernel)
    (case l4 => first | k_is | rfl | decide +kernel)
    (case c4 => first | k_is | rfl | decide +kernel)
    (case k4 => first | k_is | rfl | decide +kernel)
    (case a5 => first | k_is | rfl | decide +kernel)
    (case l5 => first | k_is | rfl | decide +kernel)
    (case c5 => first | k_is | rfl | decide +kernel)
    (case k5 => first | k_is | rfl | decide +kernel)
    (case a6 => first | k_is | rfl | decide +kernel)
    (case l6 => first | k_is | rfl | decide +kernel)
    (case c6 => first | k_is | rfl | decide +kernel)
    (case k6 => first | k_is | rfl | decide +kernel)
    (case a7 => first | k_is | rfl | decide +kernel)
    (case l7 => first | k_is | rfl | decide +kernel)
    (case c7 => first | k_is | rfl | decide +kernel)
    (case k7 => first | k_is | rfl | decide +kernel)
    (case a8 => first | k_is | rfl | decide +kernel)
    (case l8 => first | k_is | rfl | decide +kernel)
    (case c8 => first | k_is | rfl | decide +kernel)
    (case k8 => first | k_is | rfl | decide +kernel)
    (case a9 => first | k_is | rfl | decide +kernel)
    (case l9 => first | k_is | rfl | decide +kernel)
    (case c9 => first | k_is | rfl | decide +kernel)
    (case k9 => first | k_is | rfl | decide +kernel)
    (case a10 => first | k_is | rfl | decide +kernel)
    (case l10 => first | k_is | rfl | decide +kernel)
    (case c10 => first | k_is | rfl | decide +kernel)
    (case k10 => first | k_is | rfl | decide +kernel)
    (case a11 => first | k_is | rfl | decide +kernel)
    (case l11 => first | k_is | rfl | decide +kernel)
    (case c11 => first | k_is | rfl | decide +kernel)
    (case k11 => first | k_is | rfl | decide +kernel)
    (case a12 => first | k_is | rfl | decide +kernel)
    (case l12 => first | k_is | rfl | decide +kernel)
    (case c12 => first | k_is | rfl | decide +kernel)
    (case k12 => first | k_is | rfl | decide +kernel)
    (case a13 => first | k_is | rfl | decide +kernel)
    (case l13 => first | k_is | rfl | decide +kernel)
    (case c13 => first | k_is | rfl | decide +kernel)
    (case k13 => first | k_is | rfl | decide +kernel)
    (case gc0 => first | k_is | rfl | decide +kernel)
    (case gc1 => first | k_is | rfl | decide +kernel)
    (case gc2 => first | k_is | rfl | decide +kernel)
    (case gc3 => first | k_is | rfl | decide +kernel)
    (case gc4 => first | k_is | rfl | decide +kernel)
    (case gc5 => first | k_is | rfl | decide +kernel)
    (case aC1 => first | k_is | rfl | decide +kernel)
    (case xL1 => first | k_is | rfl | decide +kernel)
    (case xM1 => first | k_is | rfl | decide +kernel)
    (case sa1 => first | k_is | rfl | decide +kernel)
    (case ga1 => first | k_is | rfl | decide +kernel)
    (case gg1 => first | k_is | rfl | decide +kernel)
    (case nb1_word => first | k_is | rfl | decide +kernel)
    (case ai1 => first | k_is | rfl | decide +kernel)
    (case ti1 => first | k_is | rfl | decide +kernel)
    (case li1 => first | k_is | rfl | decide +kernel)
    (case ci1 => first | k_is | rfl | decide +kernel)
    (case ki1 => first | k_is | rfl | decide +kernel)
    (case kC1 => first | k_is | rfl | decide +kernel)
    (case eC1 => first | k_is | rfl | decide +kernel)
    (case tC1 => first | k_is | rfl | decide +kernel)
    (case hC1 => first | k_is | rfl | decide +kernel)
    (case iC1 => first | k_is | rfl | decide +kernel)
    (case sC1 => first | k_is | rfl | decide +kernel)
    (case z0 => first | k_is | rfl | decide +kernel)
    (case z1 => first | k_is | rfl | decide +kernel)
    (case z2 => first | k_is | rfl | decide +kernel)
    (case z3 => first | k_is | rfl | decide +kernel)
    (case z4 => first | k_is | rfl | decide +kernel)
    (case z5 => first | k_is | rfl | decide +kernel)
    (case z6 => first | k_is | rfl | decide +kernel)
    (case z7 => first | k_is | rfl | decide +kernel)
    (case z8 => first | k_is | rfl | decide +kernel)
    (case z9 => first | k_is | rfl | decide +kernel)
    (case hG0 => first | rfl | k_is)
    (case hG1 => first | rfl | k_is)
