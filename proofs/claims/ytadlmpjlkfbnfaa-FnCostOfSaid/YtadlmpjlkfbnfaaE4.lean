/- What the functions answer, as equations: E4. No conditions. -/
import Derived.Test.YtadlmpjlkfbnfaaE3
namespace Zz
open Go.Lg Md
set_option linter.unusedSimpArgs false
set_option linter.unusedVariables false
attribute [local simp] ex_skip ex_ret ex_exit ks_region ks_seq ks_cond ks_block seqK_n seqK_e seqK_r regK_some condK_t condK_f blkK_n blkK_r blkK_e endK_n endK_r ex_ghost rr_false rr_true rd_free mo_nil mo_cons drK_some drK_none nxW_some nxW_none rw_nil rw_gen rw_gate ak_newnil ak_make ak_alloc ak_box ak_build ak_bslice ak_call ak_store ak_app iw_mm iw_idxp ef_mmx ef_mmn ef_idxp nxD_some nxD_none ov_i ov_y ov_b ov_s ov_st ov_sl ov_own ov_oad ov_adr ov_nil ov_np ov_und ov_dead ov_tup oldN_some oldN_nil oldN_none so_none so_i so_y so_b so_s so_st so_sl so_adr so_nil so_np so_und so_dead anyM_nil anyM_t anyM_c so_own so_oad rd_nil rd_gen rd_mv rd_gate iw_mv iw_newnil iw_pick iw_bin iw_eqb iw_eqs iw_un iw_len iw_lens iw_chk iw_fld iw_fldv iw_idxa iw_idx iw_load iw_store iw_slice iw_slices iw_make iw_alloc iw_box iw_build iw_bslice iw_app iw_b2i iw_i2b iw_i2i iw_same iw_b2s iw_s2b iw_ext iw_call nm_i nm_y nm_b nm_s nm_st nm_sl nm_own nm_oad nm_adr nm_nil nm_np nm_und nm_dead nm_tup rl_nil rl_gate rl_mv rl_gen opv_t opv_c nx_some nx_none gate_tt gate_tf gate_ft gate_ff gate_u fr_ap em_nil em_i em_y em_b em_s em_st em_sl em_own em_adr em_oad em_ref em_nl em_np em_und em_dead em_tup0 em_tup_i em_tup_b em_tup_s em_tup_sl em_tup_st em_tup_np em_tup_own em_tup_oad mm_i mm_y mm_b mm_s mm_st mm_sl mm_own mm_oad mm_adr mm_nil mm_np mm_und mm_dead ef_mv ef_newnil ef_pickt ef_pickf ef_bin ef_eqb ef_eqs ef_un ef_lens ef_len_sl ef_len_own ef_len_nil ef_chk_adr ef_chk_oad ef_fld_adr ef_fld_oad ef_fldv idxR_some ef_idxa_sl ef_idxa_own ef_idx ef_load_adr_st ef_load_adr_i ef_load_adr_y ef_load_adr_b ef_load_adr_s ef_load_adr_sl atN_nil atN_zero atN_succ ef_load_oad ef_store ef_slice ef_slices ef_make ef_alloc ef_box ef_build ef_bslice ef_app_own ef_app_nil ef_b2i ef_i2b ef_i2i ef_same ef_ext ret1 ret2_some calL_some ef_call retC_i retC_y retC_b retC_s retC_st retC_sl retC_np retC_fr retC_ref retC_tup rk_nil rk_i rk_y rk_b rk_s rk_st rk_sl rk_own rk_oad rk_nl ok_nil ok_i ok_y ok_b ok_s ok_st ok_sl ok_own ok_oad ok_nl lo_nil lo_i lo_y lo_b lo_s lo_st lo_sl lo_own lo_oad lo_nl pr_nil pr_i pr_y pr_b pr_s pr_st pr_sl pr_own pr_nl pr_oad nr_i nr_y nr_b nr_s nr_st nr_sl nr_fr nr_np nr_tup ng_i ng_b ng_s ng_fr ng_nil resV effP_eff binD bi_add bi_sub bi_mul bi_quo bi_rem bi_eql bi_neq bi_lss bi_leq bi_gtr bi_geq bi_shl bi_shr bi_and bi_or bi_xor bi_andNot binY binS unD look put putD LS.get LS.drop killE sweep lookO putO dropO enter leave giveBackL giveBack outs lendArgs lendArg newOuts takeIn takeInL lendL DV.lend adoptL DV.adopt elems apartKs part DV.cells unpart settle settleL over mkId szId fillP fillE tk_e2 tk_i tk_y lt_e2 lt_i lt_y lend_rep lend_app adopt_app new_app lend_e2 lend_i lend_y adopt_e2 adopt_i adopt_y new_e2 new_i allNewL DV.allNew bounds sliceD sliceS
attribute [local congr] gate_congr nx_congr nxD_congr runL_congr runD_congr eff_congr calL_congr ret2_congr seqK_congr regK_congr condK_congr endK_congr drK_congr nxW_congr
attribute [local simp ↓] gate_tt gate_tf gate_ft gate_ff gate_u nx_some nxD_some rl_nil rl_mv rl_gen rl_gate rd_nil rd_mv rd_gen rd_gate rd_free rr_false rr_true drK_some drK_none nxW_some rw_nil rw_gen rw_gate ks_region ks_seq ks_cond ks_block seqK_n seqK_e seqK_r regK_some condK_t condK_f blkK_n blkK_r endK_n endK_r calL_some ret2_some opv_t opv_c

/-! ### what the laws use -/
theorem c_alive : call lf n_laws_alive [] = some (.b true, []) := by
  rw [call_k lf n_laws_alive _ (F := F_laws_alive) rfl rfl]
  have a := c_impl_TestsOk [(1, 1)] (by simp)
  have b := c_impl_TestsOk [(0, 0)] (by simp)
  have a1 : tsOk [(1, 1)] = true := by decide
  have b1 : tsOk [(0, 0)] = false := by decide
  rw [a1] at a
  rw [b1] at b
  simp [e2] at a b
  simp [F_laws_alive, a, b]
theorem c_power (n : Int) (h0 : 0 ≤ n) (h5 : n ≤ 5) : call lf n_laws_power [.i n] = some (.i (6 ^ n.toNat), []) := by
  rw [call_k lf n_laws_power _ (F := F_laws_power) rfl rfl]
  have c : n = 0 ∨ n = 1 ∨ n = 2 ∨ n = 3 ∨ n = 4 ∨ n = 5 := by omega
  have w : ∀ m : Int, 0 ≤ m → m ≤ 8000 → wr m = m := fun m a b => wr_id (by omega) (by omega)
  have L : ex lf F_laws_power_W0 ⟨[(0, .i n), (3, .i 1), (4, .i 0)], []⟩ = some (.exit 0, ⟨[(0, .i n), (3, .i (6 ^ n.toNat)), (4, .i n)], []⟩) := by
    have := loop_count (lf := lf) (L := F_laws_power_L0) n.toNat (fun i => ⟨[(0, .i n), (3, .i (6 ^ i)), (4, .i i)], []⟩) (x := .exit 0) (R := ⟨[(0, .i n), (3, .i (6 ^ n.toNat)), (4, .i n)], []⟩) (fun i hi => ?_) ?_ (by simp)
    · rw [show F_laws_power_W0 = .loop F_laws_power_L0 from rfl]
      simpa using this
    · have hlt : ((i : Nat) : Int) < n := by omega
      have b := pow_le (n := i + 1) (m := 5) (by omega) 6 (by omega)
      have b0 : (0 : Int) ≤ 6 ^ i := Int.le_of_lt (Int.pow_pos (by omega))
      simp only [Int.pow_succ] at b
      have w2 : wr (6 ^ i * 6) = 6 ^ i * 6 := w _ (by omega) (by simp at b; omega)
      have w1 : wr ((i : Int) + 1) = (i : Int) + 1 := wr_id (by omega) (by omega)
      simp [F_laws_power_L0, hlt, w2, w1, Int.pow_succ]
    · have e : max n 0 = n := by omega
      simp [F_laws_power_L0, e]
  simp [F_laws_power, L]
def eqAt (as bs : List T) (i : Nat) : Bool := as[i]? == bs[i]?
theorem c_sameTests (as bs : List T) (ha : as.length ≤ 1000) : call lf n_laws_sameTests [.sl 0 (as.map e2), .sl 0 (bs.map e2)] = some (.b (as == bs), []) := by
  rw [call_k lf n_laws_sameTests _ (F := F_laws_sameTests) rfl rfl]
  by_cases hl : (as.length : Int) = bs.length
  · have L : ex lf F_laws_sameTests_W0 ⟨[(0, .sl 0 (as.map e2)), (1, .sl 0 (bs.map e2)), (5, .i 0)], []⟩ = if allTo (eqAt as bs) as.length = true then some (.exit 0, ⟨[(0, .sl 0 (as.map e2)), (1, .sl 0 (bs.map e2)), (5, .i as.length)], []⟩) else some (.ret, ⟨[(4, .b false)], []⟩) := by
      refine loop_all as.length (fun i => ⟨[(0, .sl 0 (as.map e2)), (1, .sl 0 (bs.map e2)), (5, .i i)], []⟩) _ (fun i hi => ?_) ?_ (by simp)
      · obtain ⟨t, q1, q2, q3, q4⟩ := at_e2 hi
        obtain ⟨u, r1, r2, r3, r4⟩ := at_e2 (ts := bs) (i := i) (by omega)
        have w1 : wr ((i : Int) + 1) = (i : Int) + 1 := wr_id (by omega) (by omega)
        by_cases x1 : t.1 = u.1
        · by_cases x2 : t.2 = u.2
          · have e : eqAt as bs i = true := by rw [eqAt, q1, r1]; simp [Prod.ext x1 x2]
            simp [F_laws_sameTests_L0, hi, q3, r3, w1, eqI, x1, x2, e]
          · have e : eqAt as bs i = false := by
              rw [eqAt, q1, r1, beq_eq_false_iff_ne]; intro h; injection h with h; exact x2 (by rw [h])
            simp [F_laws_sameTests_L0, hi, q3, r3, w1, eqI, x1, x2, e]
        · have e : eqAt as bs i = false := by
            rw [eqAt, q1, r1, beq_eq_false_iff_ne]; intro h; injection h with h; exact x1 (by rw [h])
          simp [F_laws_sameTests_L0, hi, q3, r3, w1, eqI, x1, e]
      · simp [F_laws_sameTests_L0]
    have e : allTo (eqAt as bs) as.length = (as == bs) := by
      rw [Bool.eq_iff_iff, allTo_iff, beq_iff_eq]
      constructor
      · intro h
        apply List.ext_getElem?
        intro i
        by_cases hi : i < as.length
        · have := h i hi
          unfold eqAt at this
          exact beq_iff_eq.1 this
        · rw [List.getElem?_eq_none (by omega), List.getElem?_eq_none (by omega)]
      · rintro rfl i _; simp [eqAt]
    rw [e] at L
    have hl' : as.length = bs.length := by omega
    cases h : (as == bs) <;> simp [F_laws_sameTests, L, hl', h]
  · have e : (as == bs) = false := by rw [beq_eq_false_iff_ne]; rintro rfl; exact hl rfl
    have y : ((as.length : Int) != bs.length) = true := bne_iff_ne.2 hl
    simp [F_laws_sameTests, y, e]
end Zz
