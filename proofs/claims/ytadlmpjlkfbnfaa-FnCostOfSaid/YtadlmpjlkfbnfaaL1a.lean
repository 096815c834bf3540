/- What the functions answer, as equations: L1a. No conditions. -/
import Derived.Test.YtadlmpjlkfbnfaaE2
import Derived.Test.YtadlmpjlkfbnfaaE4
namespace Zz
open Go.Lg Md
set_option linter.unusedSimpArgs false
set_option linter.unusedVariables false
attribute [local simp] ex_skip ex_ret ex_exit ks_region ks_seq ks_cond ks_block seqK_n seqK_e seqK_r regK_some condK_t condK_f blkK_n blkK_r blkK_e endK_n endK_r ex_ghost rr_false rr_true rd_free mo_nil mo_cons drK_some drK_none nxW_some nxW_none rw_nil rw_gen rw_gate ak_newnil ak_make ak_alloc ak_box ak_build ak_bslice ak_call ak_store ak_app iw_mm iw_idxp ef_mmx ef_mmn ef_idxp nxD_some nxD_none ov_i ov_y ov_b ov_s ov_st ov_sl ov_own ov_oad ov_adr ov_nil ov_np ov_und ov_dead ov_tup oldN_some oldN_nil oldN_none so_none so_i so_y so_b so_s so_st so_sl so_adr so_nil so_np so_und so_dead anyM_nil anyM_t anyM_c so_own so_oad rd_nil rd_gen rd_mv rd_gate iw_mv iw_newnil iw_pick iw_bin iw_eqb iw_eqs iw_un iw_len iw_lens iw_chk iw_fld iw_fldv iw_idxa iw_idx iw_load iw_store iw_slice iw_slices iw_make iw_alloc iw_box iw_build iw_bslice iw_app iw_b2i iw_i2b iw_i2i iw_same iw_b2s iw_s2b iw_ext iw_call nm_i nm_y nm_b nm_s nm_st nm_sl nm_own nm_oad nm_adr nm_nil nm_np nm_und nm_dead nm_tup rl_nil rl_gate rl_mv rl_gen opv_t opv_c nx_some nx_none gate_tt gate_tf gate_ft gate_ff gate_u fr_ap em_nil em_i em_y em_b em_s em_st em_sl em_own em_adr em_oad em_ref em_nl em_np em_und em_dead em_tup0 em_tup_i em_tup_b em_tup_s em_tup_sl em_tup_st em_tup_np em_tup_own em_tup_oad mm_i mm_y mm_b mm_s mm_st mm_sl mm_own mm_oad mm_adr mm_nil mm_np mm_und mm_dead ef_mv ef_newnil ef_pickt ef_pickf ef_bin ef_eqb ef_eqs ef_un ef_lens ef_len_sl ef_len_own ef_len_nil ef_chk_adr ef_chk_oad ef_fld_adr ef_fld_oad ef_fldv idxR_some ef_idxa_sl ef_idxa_own ef_idx ef_load_adr_st ef_load_adr_i ef_load_adr_y ef_load_adr_b ef_load_adr_s ef_load_adr_sl atN_nil atN_zero atN_succ ef_load_oad ef_store ef_slice ef_slices ef_make ef_alloc ef_box ef_build ef_bslice ef_app_own ef_app_nil ef_b2i ef_i2b ef_i2i ef_same ef_ext ret1 ret2_some calL_some ef_call retC_i retC_y retC_b retC_s retC_st retC_sl retC_np retC_fr retC_ref retC_tup rk_nil rk_i rk_y rk_b rk_s rk_st rk_sl rk_own rk_oad rk_nl ok_nil ok_i ok_y ok_b ok_s ok_st ok_sl ok_own ok_oad ok_nl lo_nil lo_i lo_y lo_b lo_s lo_st lo_sl lo_own lo_oad lo_nl pr_nil pr_i pr_y pr_b pr_s pr_st pr_sl pr_own pr_nl pr_oad nr_i nr_y nr_b nr_s nr_st nr_sl nr_fr nr_np nr_tup ng_i ng_b ng_s ng_fr ng_nil resV effP_eff binD bi_add bi_sub bi_mul bi_quo bi_rem bi_eql bi_neq bi_lss bi_leq bi_gtr bi_geq bi_shl bi_shr bi_and bi_or bi_xor bi_andNot binY binS unD look put putD LS.get LS.drop killE sweep lookO putO dropO enter leave giveBackL giveBack outs lendArgs lendArg newOuts takeIn takeInL lendL DV.lend adoptL DV.adopt elems apartKs part DV.cells unpart settle settleL over mkId szId fillP fillE tk_e2 tk_i tk_y lt_e2 lt_i lt_y lend_rep lend_app adopt_app new_app lend_e2 lend_i lend_y adopt_e2 adopt_i adopt_y new_e2 new_i allNewL DV.allNew bounds sliceD sliceS
attribute [local congr] gate_congr nx_congr nxD_congr runL_congr runD_congr eff_congr calL_congr ret2_congr seqK_congr regK_congr condK_congr endK_congr drK_congr nxW_congr
attribute [local simp ↓] gate_tt gate_tf gate_ft gate_ff gate_u nx_some nxD_some rl_nil rl_mv rl_gen rl_gate rd_nil rd_mv rd_gen rd_gate rd_free rr_false rr_true drK_some drK_none nxW_some rw_nil rw_gen rw_gate ks_region ks_seq ks_cond ks_block seqK_n seqK_e seqK_r regK_some condK_t condK_f blkK_n blkK_r endK_n endK_r calL_some ret2_some opv_t opv_c

theorem tsOk_take {us : List T} (h : tsOk us = true) (h2 : 2 ≤ us.length) : tsOk (us.take (us.length - 1)) = true := by
  rw [tsOk_iff] at *
  refine ⟨by simp; omega, ?_⟩
  rw [List.all_eq_true] at *
  exact fun x hx => h.2 x (List.mem_of_mem_take hx)
set_option maxHeartbeats 4000000 in
theorem law_FnTestsOk (x : List Nat) (_ : x.length ≤ Go.maxLen) (hb : ∀ y ∈ x, y < 256) : call lf n_laws_FnTestsOk [bys x] = some (.b true, []) := by
  show call lf n_laws_FnTestsOk [.sl 0 (x.map .y)] = _
  rw [call_k lf n_laws_FnTestsOk _ (F := F_laws_FnTestsOk) rfl rfl]
  by_cases hl : 1048576 < (x.length : Int)
  · simp (config := { maxSteps := 2000000 }) [F_laws_FnTestsOk, hl]
  · obtain ⟨us, u1, d⟩ := c_DrawTestsOk hb (by omega)
    have C1 := c_impl_TestsOk us (by omega)
    have C2 := c_spec_TestsOk us (by omega)
    have a := c_impl_TestsOk [(1, 1)] (by simp)
    have b := c_impl_TestsOk [] (by simp)
    rw [show tsOk [(1, 1)] = true by decide] at a
    rw [show tsOk [] = false by decide] at b
    simp [e2] at a b
    cases h1 : tsOk us with
    | false => simp (config := { maxSteps := 2000000 }) [F_laws_FnTestsOk, hl, d, C1, C2, a, b, h1, c_alive]
    | true =>
      by_cases h2 : (us.length : Int) < 2
      · simp (config := { maxSteps := 2000000 }) [F_laws_FnTestsOk, hl, d, C1, C2, a, b, h1, h2, c_alive]
      · have C3 := c_impl_TestsOk (us.take (us.length - 1)) (by simp; omega)
        rw [tsOk_take h1 (by omega), List.map_take] at C3
        have w : wr ((us.length : Int) - 1) = us.length - 1 := wr_id (by omega) (by omega)
        have p1 : (1 : Int) ≤ us.length := by omega
        have p3 : (us.length : Int) - 1 ≤ us.length := by omega
        have p2 : ((us.length : Int) - 1).toNat = us.length - 1 := by omega
        simp (config := { maxSteps := 2000000 }) [F_laws_FnTestsOk, hl, d, C1, C2, a, b, h1, h2, c_alive, C3, w, p1, p2, p3]

set_option maxHeartbeats 4000000 in
theorem law_FnStateOk (x : List Nat) (_ : x.length ≤ Go.maxLen) (hb : ∀ y ∈ x, y < 256) : call lf n_laws_FnStateOk [bys x] = some (.b true, []) := by
  show call lf n_laws_FnStateOk [.sl 0 (x.map .y)] = _
  rw [call_k lf n_laws_FnStateOk _ (F := F_laws_FnStateOk) rfl rfl]
  by_cases hl : 1048576 < (x.length : Int)
  · simp (config := { maxSteps := 2000000 }) [F_laws_FnStateOk, hl]
  · obtain ⟨m, s, m1, s1, d⟩ := c_DrawStateOk hb (by omega)
    by_cases h1 : m < 1
    · have e : stOk m s = false := by
        cases h : stOk m s with
        | false => rfl
        | true => have := (stOk_iff.1 h).1; omega
      simp (config := { maxSteps := 2000000 }) [F_laws_FnStateOk, hl, d, c_impl_StateOk, c_spec_StateOk, h1, e, c_alive]
    · by_cases h2 : 5 < m
      · have e : stOk m s = false := by
          cases h : stOk m s with
          | false => rfl
          | true => have := (stOk_iff.1 h).1; omega
        simp (config := { maxSteps := 2000000 }) [F_laws_FnStateOk, hl, d, c_impl_StateOk, c_spec_StateOk, h1, h2, e, c_alive]
      · have n0 : ¬ m < 0 := by omega
        have sh := shl1 (k := m) (by omega) (by omega)
        have P := pow2_le (k := m) (by omega) (by omega)
        have w1 : wr (2 ^ m.toNat - 1) = 2 ^ m.toNat - 1 := wr_id (by omega) (by omega)
        have w2 : wr (2 ^ m.toNat - 1 - s) = 2 ^ m.toNat - 1 - s := wr_id (by omega) (by omega)
        have w3 : wr (2 ^ m.toNat) = 2 ^ m.toNat := wr_id (by omega) (by omega)
        have e1 : stOk m 0 = true := by rw [stOk_iff]; omega
        have e2 : stOk m (2 ^ m.toNat - 1) = true := by rw [stOk_iff]; omega
        have e3 : stOk m (2 ^ m.toNat - 1 - s) = stOk m s := by rw [Bool.eq_iff_iff, stOk_iff, stOk_iff]; omega
        have e4 : stOk m (2 ^ m.toNat) = false := by
          cases h : stOk m (2 ^ m.toNat) with
          | false => rfl
          | true => have := (stOk_iff.1 h).2; omega
        simp (config := { maxSteps := 2000000 }) [F_laws_FnStateOk, hl, d, c_impl_StateOk, c_spec_StateOk, h1, h2, n0, sh, w1, w2, w3, e1, e2, e3, e4, c_alive]

theorem wsum_wt {ts : List T} (h : tsOk ts = true) {m : Nat} (hm : m ≤ 2 ^ ts.length) : 0 ≤ sumTo (fun s => wt ts s) m ∧ sumTo (fun s => wt ts s) m ≤ 1000000 := by
  have h' := tsOk_iff.1 h
  have a := sumTo_nonneg (f := fun s => wt ts s) (B := 7776) (by omega) m (fun k _ => by
    have := wt_le h'.2 (by omega) (k : Int)
    omega)
  have b := p2 h
  omega
theorem wtOf_neg {ts : List T} {s : Int} (h : (tsOk ts && stOk ts.length s) = false) : wtOf ts s = -1 := by simp [wtOf, h]
def sw (ts : List T) (i : Nat) : Int := sumTo (fun s => wt ts s) i
theorem sw_succ (ts : List T) (i : Nat) : sw ts (i + 1) = sw ts i + wt ts i := rfl
set_option maxHeartbeats 4000000 in
theorem law_FnWeightOf (x : List Nat) (_ : x.length ≤ Go.maxLen) (hb : ∀ y ∈ x, y < 256) : call lf n_laws_FnWeightOf [bys x] = some (.b true, []) := by
  show call lf n_laws_FnWeightOf [.sl 0 (x.map .y)] = _
  rw [call_k lf n_laws_FnWeightOf _ (F := F_laws_FnWeightOf) rfl rfl]
  by_cases hl : 1048576 < (x.length : Int)
  · simp [F_laws_FnWeightOf, hl]
  · obtain ⟨us, s, u1, s1, d⟩ := c_DrawWeightOf hb (by omega)
    have C1 := c_impl_WeightOf us s (by omega)
    have C2 := c_spec_WeightOf us s (by omega)
    cases h : (tsOk us && stOk us.length s) with
    | false =>
      rw [wtOf_neg h] at C1 C2
      simp (config := { maxSteps := 2000000 }) [F_laws_FnWeightOf, hl, d, C1, C2, c_alive]
    | true =>
      rw [Bool.and_eq_true] at h
      obtain ⟨h1, h2⟩ := h
      have h1' := tsOk_iff.1 h1
      have h2' := (stOk_iff.1 h2).2
      simp only [Int.toNat_natCast] at h2'
      rw [wtOf_of h1 h2'.1 h2'.2] at C1 C2
      have P := p2 h1
      have B := wt_le h1'.2 (by omega) s
      have n1 : ¬ wt us s < 0 := by omega
      have n2 : ¬ ((us.length : Int) < 0) := by omega
      have sh := shl1 (k := us.length) (by omega) (by omega)
      simp at sh
      have L : ex lf F_laws_FnWeightOf_W0 ⟨[(3, .own 6673 us.length 0 us.length), (4, .i s), (5, .i (wt us s)), (6, .i 0), (7, .i 0)], [(6673, us.map e2)]⟩ =
          some (.exit 0, ⟨[(3, .own 6673 us.length 0 us.length), (4, .i s), (5, .i (wt us s)), (6, .i (sw us (2 ^ us.length))), (7, .i (2 ^ us.length))], [(6673, us.map e2)]⟩) := by
        refine loop_count (2 ^ us.length) (fun i => ⟨[(3, .own 6673 us.length 0 us.length), (4, .i s), (5, .i (wt us s)), (6, .i (sw us i)), (7, .i i)], [(6673, us.map e2)]⟩) (fun i hi => ?_) ?_ (by simp)
        · have hlt : ((i : Nat) : Int) < 2 ^ us.length := by omega
          have W := c_impl_WeightOf us i (by omega)
          rw [wtOf_of h1 (by omega) hlt] at W
          have b1 : 0 ≤ sw us i ∧ sw us i ≤ 1000000 := wsum_wt h1 (m := i) (by omega)
          have b2 := wt_le h1'.2 (by omega) (i : Int)
          have w1 : wr ((i : Int) + 1) = (i : Int) + 1 := wr_id (by omega) (by omega)
          have w2 : wr (sw us i + wt us i) = sw us i + wt us i := wr_id (by omega) (by omega)
          simp [F_laws_FnWeightOf_L0, n2, sh, hlt, W, w1, w2, sw_succ]
        · simp [F_laws_FnWeightOf_L0, n2, sh]
      have S : sw us (2 ^ us.length) = 6 ^ us.length := wt_sum us
      rw [S] at L
      have pw := c_power us.length (by omega) (by omega)
      simp at pw
      have O := c_impl_OtherTests us (by omega)
      simp only [others, h1, if_true] at O
      have W := c_impl_WeightOf (us.map other) (2 ^ us.length - 1 - s) (by simp; omega)
      rw [wtOf_of (others_ok h1) (by omega) (by simp; omega), wt_other us s h2'.1 h2'.2] at W
      have w1 : wr (2 ^ us.length - 1) = 2 ^ us.length - 1 := wr_id (by omega) (by omega)
      have w2 : wr (2 ^ us.length - 1 - s) = 2 ^ us.length - 1 - s := wr_id (by omega) (by omega)
      have g1 : 1 ≤ wt us s := B.1
      generalize List.map other us = vs at *
      simp (config := { maxSteps := 2000000 }) [F_laws_FnWeightOf, hl, d, C1, C2, n1, n2, L, pw, O, W, sh, w1, w2, g1]
set_option maxHeartbeats 4000000 in
theorem law_FnOtherTests (x : List Nat) (_ : x.length ≤ Go.maxLen) (hb : ∀ y ∈ x, y < 256) : call lf n_laws_FnOtherTests [bys x] = some (.b true, []) := by
  show call lf n_laws_FnOtherTests [.sl 0 (x.map .y)] = _
  rw [call_k lf n_laws_FnOtherTests _ (F := F_laws_FnOtherTests) rfl rfl]
  by_cases hl : 1048576 < (x.length : Int)
  · simp [F_laws_FnOtherTests, hl]
  · obtain ⟨us, u1, d⟩ := c_DrawOtherTests hb (by omega)
    have O1 := c_impl_OtherTests us (by omega)
    have O2 := c_spec_OtherTests us (by omega)
    have C1 := c_impl_TestsOk us (by omega)
    cases h1 : tsOk us with
    | false =>
      have e : others us = [] := by simp [others, h1]
      rw [e] at O1 O2
      have S := c_sameTests [] [] (by simp)
      simp only [beq_self_eq_true, List.map_nil] at O1 O2 S
      simp (config := { maxSteps := 2000000 }) [F_laws_FnOtherTests, hl, d, O1, O2, S, C1, h1, c_alive]
    | true =>
      have h1' := tsOk_iff.1 h1
      have e : others us = us.map other := by simp [others, h1]
      rw [e] at O1 O2
      have S := c_sameTests (us.map other) (us.map other) (by simp; omega)
      have S2 := c_sameTests us us (by omega)
      have O3 := c_impl_OtherTests (us.map other) (by simp; omega)
      have e3 : others (us.map other) = us := by rw [others, others_ok h1, if_pos rfl, other_other]
      rw [e3] at O3
      have C3 := c_impl_TestsOk (us.map other) (by simp; omega)
      rw [others_ok h1] at C3
      have K1 := c_impl_CostOf us (by omega)
      have K2 := c_impl_CostOf (us.map other) (by simp; omega)
      have e4 : costOf (us.map other) = costOf us := by simp [costOf, h1, others_ok h1, cost_other]
      rw [e4] at K2
      simp only [beq_self_eq_true] at S S2
      have lv : (us.map other).length = us.length := by simp
      generalize List.map other us = vs at *
      have q : ¬ ((us.length : Int) = 0) := by omega
      have q' : ((us.length : Int) == 0) = false := beq_eq_false_iff_ne.2 q
      rw [← lv] at q'
      simp (config := { maxSteps := 2000000 }) [F_laws_FnOtherTests, hl, d, O1, O2, O3, S, S2, C1, C3, K1, K2, h1, c_alive, q']

set_option maxHeartbeats 4000000 in
theorem law_FnKnownOk (x : List Nat) (_ : x.length ≤ Go.maxLen) (hb : ∀ y ∈ x, y < 256) : call lf n_laws_FnKnownOk [bys x] = some (.b true, []) := by
  show call lf n_laws_FnKnownOk [.sl 0 (x.map .y)] = _
  rw [call_k lf n_laws_FnKnownOk _ (F := F_laws_FnKnownOk) rfl rfl]
  by_cases hl : 1048576 < (x.length : Int)
  · simp [F_laws_FnKnownOk, hl]
  · obtain ⟨m, ks, m1, k1, d⟩ := c_DrawKnownOk hb (by omega)
    have C1 := c_impl_KnownOk m ks (by omega)
    have C2 := c_spec_KnownOk m ks (by omega)
    have h1 : ¬ m < 1 := by omega
    by_cases h2 : 5 < m
    · have e : ksOk m ks = false := by
        cases h : ksOk m ks with
        | false => rfl
        | true => have := (ksOk_iff.1 h).1; omega
      rw [e] at C1 C2
      simp (config := { maxSteps := 2000000 }) [F_laws_FnKnownOk, hl, d, C1, C2, h1, h2, c_alive]
    · obtain ⟨n, hn⟩ : ∃ n : Nat, m = n := ⟨m.toNat, by omega⟩
      subst hn
      have L : ex lf F_laws_FnKnownOk_W0 ⟨[(3, .i n), (6, .own 18440 0 0 0), (7, .own 18952 0 0 0), (8, .i 0)], [(18440, []), (18952, [])]⟩ =
          some (.exit 0, ⟨[(3, .i n), (6, .own 18440 n 0 n), (7, .own 18952 n 0 n), (8, .i n)], [(18440, (List.replicate n (-1)).map .i), (18952, (List.replicate n 1).map .i)]⟩) := by
        refine loop_count n (fun i => ⟨[(3, .i n), (6, .own 18440 i 0 i), (7, .own 18952 i 0 i), (8, .i i)], [(18440, (List.replicate i (-1)).map .i), (18952, (List.replicate i 1).map .i)]⟩) (fun i hi => ?_) ?_ (by simp)
        · have hlt : ((i : Nat) : Int) < n := by omega
          have w1 : wr ((i : Int) + 1) = (i : Int) + 1 := wr_id (by omega) (by omega)
          have b1 : i + 1 ≤ bound := by unfold bound; omega
          simp [F_laws_FnKnownOk_L0, hi, w1, b1, List.replicate_succ']
        · simp [F_laws_FnKnownOk_L0]
      have A1 := c_impl_KnownOk n (List.replicate n (-1)) (by simp; omega)
      have A2 := c_impl_KnownOk n (List.replicate n 1) (by simp; omega)
      have A3 := c_impl_KnownOk n (List.replicate n (-1) ++ [0]) (by simp; omega)
      have e1 : ksOk n (List.replicate n (-1)) = true := by
        rw [ksOk_iff]; refine ⟨by omega, by simp, ?_⟩; rw [List.all_eq_true]; intro y hy; rw [(List.mem_replicate.1 hy).2]; decide
      have e2 : ksOk n (List.replicate n 1) = true := by
        rw [ksOk_iff]; refine ⟨by omega, by simp, ?_⟩; rw [List.all_eq_true]; intro y hy; rw [(List.mem_replicate.1 hy).2]; decide
      have e3 : ksOk n (List.replicate n (-1) ++ [0]) = false := by
        cases h : ksOk n (List.replicate n (-1) ++ [0]) with
        | false => rfl
        | true => have := (ksOk_iff.1 h).2.1; simp at this; omega
      rw [e1] at A1
      rw [e2] at A2
      rw [e3] at A3
      simp at A1 A2 A3
      have b1 : n + 1 ≤ bound := by unfold bound; omega
      have tkx : List.take (n + 1) (List.replicate n (DV.i (-1)) ++ [DV.i 0]) = List.replicate n (DV.i (-1)) ++ [DV.i 0] := List.take_of_length_le (by simp)
      simp at L
      simp (config := { maxSteps := 2000000 }) [F_laws_FnKnownOk, hl, d, C1, C2, h1, h2, c_alive, L, A1, A2, A3, b1, tkx]
end Zz
