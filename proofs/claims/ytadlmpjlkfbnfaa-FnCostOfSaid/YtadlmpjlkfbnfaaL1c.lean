/- What the functions answer, as equations: L1c. No conditions. -/
import Derived.Test.YtadlmpjlkfbnfaaL1a
import Derived.Test.YtadlmpjlkfbnfaaL1b
namespace Zz
open Go.Lg Md
set_option linter.unusedSimpArgs false
set_option linter.unusedVariables false
attribute [local simp] ex_skip ex_ret ex_exit ks_region ks_seq ks_cond ks_block seqK_n seqK_e seqK_r regK_some condK_t condK_f blkK_n blkK_r blkK_e endK_n endK_r ex_ghost rr_false rr_true rd_free mo_nil mo_cons drK_some drK_none nxW_some nxW_none rw_nil rw_gen rw_gate ak_newnil ak_make ak_alloc ak_box ak_build ak_bslice ak_call ak_store ak_app iw_mm iw_idxp ef_mmx ef_mmn ef_idxp nxD_some nxD_none ov_i ov_y ov_b ov_s ov_st ov_sl ov_own ov_oad ov_adr ov_nil ov_np ov_und ov_dead ov_tup oldN_some oldN_nil oldN_none so_none so_i so_y so_b so_s so_st so_sl so_adr so_nil so_np so_und so_dead anyM_nil anyM_t anyM_c so_own so_oad rd_nil rd_gen rd_mv rd_gate iw_mv iw_newnil iw_pick iw_bin iw_eqb iw_eqs iw_un iw_len iw_lens iw_chk iw_fld iw_fldv iw_idxa iw_idx iw_load iw_store iw_slice iw_slices iw_make iw_alloc iw_box iw_build iw_bslice iw_app iw_b2i iw_i2b iw_i2i iw_same iw_b2s iw_s2b iw_ext iw_call nm_i nm_y nm_b nm_s nm_st nm_sl nm_own nm_oad nm_adr nm_nil nm_np nm_und nm_dead nm_tup rl_nil rl_gate rl_mv rl_gen opv_t opv_c nx_some nx_none gate_tt gate_tf gate_ft gate_ff gate_u fr_ap em_nil em_i em_y em_b em_s em_st em_sl em_own em_adr em_oad em_ref em_nl em_np em_und em_dead em_tup0 em_tup_i em_tup_b em_tup_s em_tup_sl em_tup_st em_tup_np em_tup_own em_tup_oad mm_i mm_y mm_b mm_s mm_st mm_sl mm_own mm_oad mm_adr mm_nil mm_np mm_und mm_dead ef_mv ef_newnil ef_pickt ef_pickf ef_bin ef_eqb ef_eqs ef_un ef_lens ef_len_sl ef_len_own ef_len_nil ef_chk_adr ef_chk_oad ef_fld_adr ef_fld_oad ef_fldv idxR_some ef_idxa_sl ef_idxa_own ef_idx ef_load_adr_st ef_load_adr_i ef_load_adr_y ef_load_adr_b ef_load_adr_s ef_load_adr_sl atN_nil atN_zero atN_succ ef_load_oad ef_store ef_slice ef_slices ef_make ef_alloc ef_box ef_build ef_bslice ef_app_own ef_app_nil ef_b2i ef_i2b ef_i2i ef_same ef_ext ret1 ret2_some calL_some ef_call retC_i retC_y retC_b retC_s retC_st retC_sl retC_np retC_fr retC_ref retC_tup rk_nil rk_i rk_y rk_b rk_s rk_st rk_sl rk_own rk_oad rk_nl ok_nil ok_i ok_y ok_b ok_s ok_st ok_sl ok_own ok_oad ok_nl lo_nil lo_i lo_y lo_b lo_s lo_st lo_sl lo_own lo_oad lo_nl pr_nil pr_i pr_y pr_b pr_s pr_st pr_sl pr_own pr_nl pr_oad nr_i nr_y nr_b nr_s nr_st nr_sl nr_fr nr_np nr_tup ng_i ng_b ng_s ng_fr ng_nil resV effP_eff binD bi_add bi_sub bi_mul bi_quo bi_rem bi_eql bi_neq bi_lss bi_leq bi_gtr bi_geq bi_shl bi_shr bi_and bi_or bi_xor bi_andNot binY binS unD look put putD LS.get LS.drop killE sweep lookO putO dropO enter leave giveBackL giveBack outs lendArgs lendArg newOuts takeIn takeInL lendL DV.lend adoptL DV.adopt elems apartKs part DV.cells unpart settle settleL over mkId szId fillP fillE tk_e2 tk_i tk_y lt_e2 lt_i lt_y lend_rep lend_app adopt_app new_app lend_e2 lend_i lend_y adopt_e2 adopt_i adopt_y new_e2 new_i allNewL DV.allNew bounds sliceD sliceS
attribute [local congr] gate_congr nx_congr nxD_congr runL_congr runD_congr eff_congr calL_congr ret2_congr seqK_congr regK_congr condK_congr endK_congr drK_congr nxW_congr
attribute [local simp ↓] gate_tt gate_tf gate_ft gate_ff gate_u nx_some nxD_some rl_nil rl_mv rl_gen rl_gate rd_nil rd_mv rd_gen rd_gate rd_free rr_false rr_true drK_some drK_none nxW_some rw_nil rw_gen rw_gate ks_region ks_seq ks_cond ks_block seqK_n seqK_e seqK_r regK_some condK_t condK_f blkK_n blkK_r endK_n endK_r calL_some ret2_some opv_t opv_c



theorem wk_app : ∀ (a b : List T) (ka kb : List Int), a.length = ka.length → wk (a ++ b) (ka ++ kb) = wk a ka * wk b kb
  | [], b, [], kb, _ => by simp [wk]
  | t :: a, b, k :: ka, kb, h => by
    simp only [List.cons_append, wk]
    rw [wk_app a b ka kb (by simpa using h), Int.mul_assoc]
theorem ww_wk {ts : List T} {ks : List Int} (h1 : tsOk ts = true) (h2 : ksOk ts.length ks = true) : ww ts ks = wk ts ks := by
  have h2' := ksOk_iff.1 h2
  have : ww ts ks = wa ts ks := by simp only [ww, h1, h2, Bool.and_self, if_true]; rfl
  rw [this]
  exact wa_wk (by omega) h2'.2.2
theorem ww_neg {ts : List T} {ks : List Int} (h : (tsOk ts && ksOk ts.length ks) = false) : ww ts ks = -1 := by simp [ww, h]
theorem wk_le {ts : List T} {ks : List Int} (h : ts.all tOk = true) (hl : ts.length ≤ 5) : 1 ≤ wk ts ks ∧ wk ts ks ≤ 7776 := by
  have a := wk_bound (ks := ks) h
  have := pow_le hl 6 (by omega)
  simp at this
  omega
theorem all_take {α : Type} {p : α → Bool} {l : List α} (h : l.all p = true) (n : Nat) : (l.take n).all p = true := by
  rw [List.all_eq_true] at *
  exact fun x hx => h x (List.mem_of_mem_take hx)
theorem atN_e2 {ts : List T} {i : Nat} {t : T} (h : ts[i]? = some t) : atN (ts.map e2) i = some (.st [.i t.1, .i t.2]) := by
  show (ts.map e2)[i]? = _
  rw [List.getElem?_map, h]; rfl
theorem atN_i {ks : List Int} {i : Nat} {k : Int} (h : ks[i]? = some k) : atN (ks.map .i) i = some (.i k) := by
  show (ks.map DV.i)[i]? = _
  rw [List.getElem?_map, h]; rfl
set_option maxHeartbeats 4000000 in
theorem law_FnWeightWhere (x : List Nat) (_ : x.length ≤ Go.maxLen) (hb : ∀ y ∈ x, y < 256) : call lf n_laws_FnWeightWhere [bys x] = some (.b true, []) := by
  show call lf n_laws_FnWeightWhere [.sl 0 (x.map .y)] = _
  rw [call_k lf n_laws_FnWeightWhere _ (F := F_laws_FnWeightWhere) rfl rfl]
  by_cases hl : 1048576 < (x.length : Int)
  · simp [F_laws_FnWeightWhere, hl]
  · obtain ⟨us, ks, u1, k1, d⟩ := c_DrawWeightWhere hb (by omega)
    have C1 := c_impl_WeightWhere us ks (by omega) (by omega)
    have C2 := c_spec_WeightWhere us ks (by omega) (by omega)
    cases h : (tsOk us && ksOk us.length ks) with
    | false =>
      rw [ww_neg h] at C1 C2
      simp (config := { maxSteps := 2000000 }) [F_laws_FnWeightWhere, hl, d, C1, C2, c_alive]
    | true =>
      rw [Bool.and_eq_true] at h
      obtain ⟨h1, h2⟩ := h
      have h1' := tsOk_iff.1 h1
      have h2' := ksOk_iff.1 h2
      rw [ww_wk h1 h2] at C1 C2
      have B := wk_le (ks := ks) h1'.2 (by omega)
      have n1 : ¬ wk us ks < 0 := by omega
      have L : ex lf F_laws_FnWeightWhere_W0 ⟨[(3, .own 6673 us.length 0 us.length), (4, .own 6666 ks.length 0 ks.length), (5, .i (wk us ks)), (6, .i 1), (7, .i 0)], [(6666, ks.map .i), (6673, us.map e2)]⟩ =
          some (.exit 0, ⟨[(3, .own 6673 us.length 0 us.length), (4, .own 6666 ks.length 0 ks.length), (5, .i (wk us ks)), (6, .i (wk us ks)), (7, .i us.length)], [(6666, ks.map .i), (6673, us.map e2)]⟩) := by
        have := loop_count (lf := lf) (L := F_laws_FnWeightWhere_L0) us.length (fun i => ⟨[(3, .own 6673 us.length 0 us.length), (4, .own 6666 ks.length 0 ks.length), (5, .i (wk us ks)), (6, .i (wk (us.take i) (ks.take i))), (7, .i i)], [(6666, ks.map .i), (6673, us.map e2)]⟩) (x := .exit 0) (R := ⟨[(3, .own 6673 us.length 0 us.length), (4, .own 6666 ks.length 0 ks.length), (5, .i (wk us ks)), (6, .i (wk (us.take us.length) (ks.take us.length))), (7, .i us.length)], [(6666, ks.map .i), (6673, us.map e2)]⟩) (fun i hi => ?_) ?_ (by simp)
        · have e : ks.take us.length = ks := List.take_of_length_le (by omega)
          rw [List.take_length, e] at this
          exact this
        · obtain ⟨t, t1, t2, t3, t4⟩ := at_e2 hi
          obtain ⟨k, v1, v2, v3, v4⟩ := at_i (ks := ks) (i := i) (by omega)
          have tk := tOk_iff.1 (List.all_eq_true.1 h1'.2 t t2)
          have kk : -1 ≤ k ∧ k ≤ 1 := by have := List.all_eq_true.1 h2'.2.2 k v2; simpa [kOk] using this
          have b := wk_le (ks := ks.take i) (all_take h1'.2 i) (by simp; omega)
          have e : wk (us.take (i + 1)) (ks.take (i + 1)) = wk (us.take i) (ks.take i) * wk [t] [k] := by
            rw [t4, v4]; exact wk_app _ _ _ _ (by simp; omega)
          have a1 := atN_e2 t1
          have a2 := atN_i v1
          have w1 : wr ((i : Int) + 1) = (i : Int) + 1 := wr_id (by omega) (by omega)
          have w6 : wr (6 - t.2) = 6 - t.2 := wr_id (by omega) (by omega)
          have ik : (i : Int) < ks.length := by omega
          have mul : ∀ c : Int, 1 ≤ c → c ≤ 6 → wr (wk (us.take i) (ks.take i) * c) = wk (us.take i) (ks.take i) * c := by
            intro c c1 c2
            have x1 : wk (us.take i) (ks.take i) * c ≤ 7776 * 6 := Int.mul_le_mul b.2 c2 (by omega) (by omega)
            have x2 : 1 * 1 ≤ wk (us.take i) (ks.take i) * c := Int.mul_le_mul b.1 c1 (by omega) (by omega)
            exact wr_id (by omega) (by omega)
          have m6 := mul 6 (by omega) (by omega)
          have mt := mul t.2 (by omega) (by omega)
          have mo := mul (6 - t.2) (by omega) (by omega)
          have lu : (us.map e2).length = us.length := by simp
          have lk : (ks.map DV.i).length = ks.length := by simp
          generalize wk (us.take i) (ks.take i) = u at *
          generalize wk (us.take (i + 1)) (ks.take (i + 1)) = v at *
          generalize us.map e2 = es at *
          generalize ks.map DV.i = fs at *
          have c3 : k = -1 ∨ k = 1 ∨ k = 0 := by omega
          rcases c3 with rfl | rfl | rfl
          · simp [wk] at e
            simp [F_laws_FnWeightWhere_L0, hi, ik, lu, lk, a1, a2, w1, m6, e]
          · simp [wk] at e
            simp [F_laws_FnWeightWhere_L0, hi, ik, lu, lk, a1, a2, w1, mt, e]
          · simp [wk] at e
            simp [F_laws_FnWeightWhere_L0, hi, ik, lu, lk, a1, a2, w1, w6, mo, e]
        · simp [F_laws_FnWeightWhere_L0]
      simp (config := { maxSteps := 2000000 }) [F_laws_FnWeightWhere, hl, d, C1, C2, n1, L]
end Zz
