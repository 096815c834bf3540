/- What the functions answer, as equations: E3. No conditions. -/
import Derived.Test.YtjallbfleicfnaaE1
set_option linter.unusedSectionVars false
set_option linter.unusedVariables false
set_option linter.unusedSimpArgs false
namespace Zz
open Go.Lg Md
set_option linter.unusedSimpArgs false
set_option linter.unusedVariables false
attribute [local simp] oldO_some oa_nil oa_i oa_y oa_b oa_s oa_st oa_sl oa_own oa_oad oa_nl al_nil al_cons al_i al_y al_b al_s al_st al_sl nxF_some nxF_none rf_nil rf_gen rf_gate hk_newnil hk_make hk_alloc hk_box hk_build hk_bslice hk_call hk_store hk_app cl_nil cl_cons ai_nil ai_cons il_i il_y il_b il_s il_st il_sl il_own il_adr il_oad il_ref il_fr il_tup il_nil il_np il_und il_dead oi_e oi_i oi_y oi_b oi_s oi_st oi_sl oi_own oi_adr oi_oad oi_ref oi_fr oi_tup oi_nil oi_np oi_und oi_dead as_nil as_cons ao_nil ao_cons av_i av_y av_b av_s av_st av_sl av_own av_adr av_oad av_ref av_fr av_tup av_nil av_np av_und av_dead pro_cons ghK_some ks_promote ks_rename ren_own dropO adoptP newP wholeP cutP allOldL ex_skip ex_ret ex_exit ks_region ks_seq ks_cond ks_block seqK_n seqK_e seqK_r regK_some condK_t condK_f blkK_n blkK_r blkK_e endK_n endK_r rr_false rr_true rd_free mo_nil mo_cons drK_some drK_none nxW_some nxW_none rw_nil rw_gen rw_gate ak_newnil ak_make ak_alloc ak_box ak_build ak_bslice ak_call ak_store ak_app iw_mm iw_idxp ef_mmx ef_mmn ef_idxp nxD_some nxD_none ov_i ov_y ov_b ov_s ov_st ov_sl ov_own ov_oad ov_adr ov_nil ov_np ov_und ov_dead ov_tup oldN_some oldN_nil oldN_none so_none so_i so_y so_b so_s so_st so_sl so_adr so_nil so_np so_und so_dead anyM_nil anyM_t anyM_c so_own so_oad rd_nil rd_gen rd_mv rd_gate iw_mv iw_newnil iw_pick iw_bin iw_eqb iw_eqs iw_un iw_len iw_lens iw_chk iw_fld iw_fldv iw_idxa iw_idx iw_load iw_store iw_slice iw_slices iw_make iw_alloc iw_box iw_build iw_bslice iw_app iw_b2i iw_i2b iw_i2i iw_same iw_b2s iw_s2b iw_ext iw_call nm_i nm_y nm_b nm_s nm_st nm_sl nm_own nm_oad nm_adr nm_nil nm_np nm_und nm_dead nm_tup rl_nil rl_gate rl_mv rl_gen opv_t opv_c nx_some nx_none gate_tt gate_tf gate_ft gate_ff gate_u fr_ap em_nil em_i em_y em_b em_s em_st em_sl em_own em_adr em_oad em_ref em_nl em_np em_und em_dead em_tup0 em_tup_i em_tup_b em_tup_s em_tup_sl em_tup_st em_tup_np em_tup_own em_tup_oad mm_i mm_y mm_b mm_s mm_st mm_sl mm_own mm_oad mm_adr mm_nil mm_np mm_und mm_dead ef_mv ef_newnil ef_pickt ef_pickf ef_bin ef_eqb ef_eqs ef_un ef_lens ef_len_sl ef_len_own ef_len_nil ef_chk_adr ef_chk_oad ef_fld_adr ef_fld_oad ef_fldv idxR_some ef_idxa_sl ef_idxa_own ef_idx ef_load_adr_st ef_load_adr_i ef_load_adr_y ef_load_adr_b ef_load_adr_s ef_load_adr_sl atN_nil atN_zero atN_succ ef_load_oad ef_store ef_slice ef_slices ef_make ef_alloc ef_box ef_build ef_bslice ef_app_own ef_app_nil ef_b2i ef_i2b ef_i2i ef_same ef_ext ret1 ret2_some calL_some ef_call retC_i retC_y retC_b retC_s retC_st retC_sl retC_np retC_fr retC_ref retC_tup rk_nil rk_i rk_y rk_b rk_s rk_st rk_sl rk_own rk_oad rk_nl ok_nil ok_i ok_y ok_b ok_s ok_st ok_sl ok_own ok_oad ok_nl lo_nil lo_i lo_y lo_b lo_s lo_st lo_sl lo_own lo_oad lo_nl pr_nil pr_i pr_y pr_b pr_s pr_st pr_sl pr_own pr_nl pr_oad nr_i nr_y nr_b nr_s nr_st nr_sl nr_fr nr_np nr_tup ng_i ng_b ng_s ng_fr ng_nil resV effP_eff binD bi_add bi_sub bi_mul bi_quo bi_rem bi_eql bi_neq bi_lss bi_leq bi_gtr bi_geq bi_shl bi_shr bi_and bi_or bi_xor bi_andNot binY binS unD look put putD LS.get LS.drop killE sweep lookO putO dropO enter leave giveBackL giveBack outs lendArgs lendArg newOuts takeIn takeInL lendL DV.lend adoptL DV.adopt elems apartKs part DV.cells unpart settle settleL over mkId szId fillP fillE tk_e2 tk_i tk_y lt_e2 lt_i lt_y lend_rep al_e2 al_is al_ys al_rep al_app lend_app adopt_app new_app lend_e2 lend_i lend_y adopt_e2 adopt_i adopt_y new_e2 new_i allNewL DV.allNew bounds sliceD sliceS em_w em_q em_r em_fn em_tup_w em_tup_q em_tup_r mm_w mm_q mm_r mm_fn ef_load_adr_w ef_load_adr_q ef_load_adr_r retC_w retC_q retC_r rk_w rk_q rk_r rk_fn ok_w ok_q ok_r ok_fn lo_w lo_q lo_r lo_fn pr_w pr_q pr_r pr_fn nr_w nr_q nr_r ng_w ng_q ng_r oa_w oa_q oa_r oa_fn al_w al_q al_r al_fn ov_w ov_q ov_r ov_fn so_w so_q so_r so_fn il_w il_q il_r il_fn oi_w oi_q oi_r oi_fn av_w av_q av_r av_fn nm_w nm_q nm_r nm_fn ef_i2r ef_r2s ef_mkfn ef_idxp_adr ef_calld capsOk DV.cell List.all_cons List.all_nil rk_own_t lo_own_t lk_f lk_t pr_own_t mutB ak_calld hk_calld iw_calld iw_mkfn iw_i2r iw_r2s bw_and bw_or bw_xor bw_andNot bw_eql bw_neq sw_shl sw_shr sq_shl gEnv_nil rk_adr ok_adr lo_adr pr_adr oa_adr capL capArg DV.cap ak_mkfn hk_mkfn
attribute [local congr] nxF_congr ghK_congr gate_congr nx_congr nxD_congr runL_congr runD_congr eff_congr calL_congr ret2_congr seqK_congr regK_congr condK_congr endK_congr drK_congr nxW_congr
attribute [local simp ↓] nxF_some rf_nil rf_gen rf_gate ks_promote ks_rename ghK_some gate_tt gate_tf gate_ft gate_ff gate_u nx_some nxD_some rl_nil rl_mv rl_gen rl_gate rd_nil rd_mv rd_gen rd_gate rd_free rr_false rr_true drK_some drK_none nxW_some rw_nil rw_gen rw_gate ks_region ks_seq ks_cond ks_block seqK_n seqK_e seqK_r regK_some condK_t condK_f blkK_n blkK_r endK_n endK_r calL_some ret2_some opv_t opv_c

/-! ### more of what stage 1's functions answer -/
theorem sumTo_nonneg {f : Nat → Int} {B : Int} (hB : 0 ≤ B) (n : Nat) : (∀ k, k < n → 0 ≤ f k ∧ f k ≤ B) → 0 ≤ sumTo f n ∧ sumTo f n ≤ B * n := by
  induction n with
  | zero => intro _; simp [sumTo]
  | succ n ih =>
    intro h
    have a := ih (fun k hk => h k (by omega))
    have b := h n (by omega)
    simp only [sumTo]
    rw [show ((n + 1 : Nat) : Int) = n + 1 by omega, Int.mul_add]
    omega
theorem p2 {ts : List T} (h : tsOk ts = true) : 1 ≤ (2 : Nat) ^ ts.length ∧ (2 : Nat) ^ ts.length ≤ 32 ∧ ((2 ^ ts.length : Nat) : Int) = 2 ^ ts.length := by
  have h' := tsOk_iff.1 h
  have a : (2 : Nat) ^ ts.length ≤ 2 ^ 5 := Nat.pow_le_pow_right (by omega) (by omega)
  exact ⟨Nat.pow_pos (by omega), by omega, by simp⟩
theorem ww_bound {ts : List T} (h : tsOk ts = true) (ks : List Int) {m : Nat} (hm : m ≤ 2 ^ ts.length) : 0 ≤ sumTo (fun s => if ag ks s then wt ts s else 0) m ∧ sumTo (fun s => if ag ks s then wt ts s else 0) m ≤ 1000000 := by
  have h' := tsOk_iff.1 h
  have a := sumTo_nonneg (f := fun s => if ag ks s then wt ts s else 0) (B := 7776) (by omega) m (fun k _ => by
    have := wt_le h'.2 (by omega) (k : Int)
    split <;> omega)
  have b := p2 h
  omega
theorem agOk_of {ts : List T} {ks : List Int} (h : ksOk ts.length ks = true) {s : Int} (h0 : 0 ≤ s) (h1 : s < 2 ^ ts.length) : stOk ts.length s = true ∧ agOk ts.length ks s = ag ks s := by
  have e : stOk ts.length s = true := by
    rw [stOk_iff]
    exact ⟨(ksOk_iff.1 h).1, h0, by simpa using h1⟩
  refine ⟨e, ?_⟩
  rw [agOk, h, e]; rfl
theorem wtOf_of {ts : List T} (h : tsOk ts = true) {s : Int} (h0 : 0 ≤ s) (h1 : s < 2 ^ ts.length) : wtOf ts s = wt ts s := by
  have e : stOk ts.length s = true := by
    rw [stOk_iff]
    exact ⟨(tsOk_iff.1 h).1, h0, by simpa using h1⟩
  simp [wtOf, h, e]
def wsum (ts : List T) (ks : List Int) (i : Nat) : Int := sumTo (fun s => if ag ks s then wt ts s else 0) i
theorem wsum_succ (ts : List T) (ks : List Int) (i : Nat) : wsum ts ks (i + 1) = wsum ts ks i + if ag ks i then wt ts i else 0 := rfl
/-! ### the likeliest state -/
def bst (ts : List T) (i : Nat) : Nat := best (fun s => wt ts s) (i - 1)
theorem bst_le (ts : List T) (i : Nat) : bst ts i ≤ i - 1 := (best_le _ _).1
theorem bst_succ (ts : List T) (i : Nat) : bst ts (i + 1) = if wt ts i > wt ts (bst ts i) then i else bst ts i := by
  cases i with
  | zero => simp [bst, best]
  | succ i => simp [bst, best]
/-! ### other tests -/
theorem at_e2 {ts : List T} {i : Nat} (hi : i < ts.length) : ∃ t, ts[i]? = some t ∧ t ∈ ts ∧ atI (ts.map e2) i = some (.st [.i t.1, .i t.2]) ∧ ts.take (i + 1) = ts.take i ++ [t] := by
  refine ⟨ts[i], List.getElem?_eq_getElem hi, List.getElem_mem hi, ?_, List.take_succ_eq_append_getElem hi⟩
  simp [atI, hi, e2]
def ot (ts : List T) (i : Nat) : List DV := ((ts.take i).map other).map e2
theorem ot_len {ts : List T} {i : Nat} (hi : i ≤ ts.length) : (ot ts i).length = i := by simp [ot]; omega
theorem ot_succ {ts : List T} {i : Nat} {t : T} (h : ts.take (i + 1) = ts.take i ++ [t]) : ot ts (i + 1) = ot ts i ++ [.st [.i t.1, .i (6 - t.2)]] := by
  simp [ot, h, e2, other]
def cn (ts : List T) (i : Nat) : List DV := ot ts i ++ List.replicate (ts.length - i) (.st [.i 0, .i 0])
theorem cn_len {ts : List T} {i : Nat} (hi : i ≤ ts.length) : (cn ts i).length = ts.length := by simp [cn, ot_len hi]; omega
theorem cn_get {ts : List T} {i : Nat} (hi : i < ts.length) : atN (cn ts i) i = some (.st [.i 0, .i 0]) := by
  show (cn ts i)[i]? = _
  have := ot_len (ts := ts) (i := i) (by omega)
  unfold cn
  rw [List.getElem?_append_right (by omega), this, Nat.sub_self, List.getElem?_replicate]
  simp; omega
theorem cn_set {ts : List T} {i : Nat} {t : T} (hi : i < ts.length) (h : ts.take (i + 1) = ts.take i ++ [t]) : (cn ts i).set i (.st [.i t.1, .i (6 - t.2)]) = cn ts (i + 1) := by
  have := ot_len (ts := ts) (i := i) (by omega)
  unfold cn
  rw [List.set_append_right _ _ (by omega), this, Nat.sub_self, ot_succ h, show ts.length - i = (ts.length - (i + 1)) + 1 by omega, List.replicate_succ, List.set_cons_zero, List.append_assoc]
  rfl
theorem cn_zero (ts : List T) : cn ts 0 = List.replicate ts.length (.st [.i 0, .i 0]) := by simp [cn, ot]
theorem cn_all (ts : List T) : cn ts ts.length = (ts.map other).map e2 := by simp [cn, ot]
theorem l_impl_OtherTests (ts : List T) (h1 : tsOk ts = true) :
    ex lf F_impl_OtherTests_W0 ⟨[(3, .own 5648 ts.length 0 ts.length), (12, .sl 0 (ts.map e2)), (13, .i ts.length), (14, .i 0)], [(5648, cn ts 0)]⟩ =
      some (.exit 0, ⟨[(3, .own 5648 ts.length 0 ts.length), (12, .sl 0 (ts.map e2)), (13, .i ts.length), (14, .i ts.length)], [(5648, cn ts ts.length)]⟩) := by
  have h1' := tsOk_iff.1 h1
  refine loop_count ts.length (fun i => ⟨[(3, .own 5648 ts.length 0 ts.length), (12, .sl 0 (ts.map e2)), (13, .i ts.length), (14, .i i)], [(5648, cn ts i)]⟩) (fun i hi => ?_) ?_ (by simp)
  · obtain ⟨t, q1, q2, q3, q4⟩ := at_e2 hi
    have hlt : ((i : Nat) : Int) < ts.length := by omega
    have w1 : wr ((i : Int) + 1) = (i : Int) + 1 := wr_id (by omega) (by omega)
    have tk := tOk_iff.1 (List.all_eq_true.1 h1'.2 t q2)
    have w6 : wr (6 - t.2) = 6 - t.2 := wr_id (by omega) (by omega)
    have c1 := cn_len (ts := ts) (i := i) (by omega)
    have c2 := cn_get hi
    have c3 := cn_set hi q4
    simp [F_impl_OtherTests_L0, hi, q3, w1, w6, c1, c2, c3]
  · simp [F_impl_OtherTests_L0]
theorem c_impl_OtherTests (ts : List T) (hb : (ts.length : Int) < 1099511627776) : call lf n_impl_OtherTests [.sl 0 (ts.map e2)] = some (.fr 2 ((others ts).map e2), []) := by
  rw [call_k lf n_impl_OtherTests _ (F := F_impl_OtherTests) rfl rfl]
  have C := c_impl_TestsOk ts hb
  cases h1 : tsOk ts with
  | false => simp [F_impl_OtherTests, C, h1, others]
  | true =>
    have h1' := tsOk_iff.1 h1
    have L := l_impl_OtherTests ts h1
    have b1 : (ts.length : Int) ≤ bound := by unfold bound; omega
    rw [cn_zero] at L
    simp [F_impl_OtherTests, C, h1, b1, L, others, cn_len, cn_all]
theorem l_spec_OtherTests (ts : List T) (h1 : tsOk ts = true) :
    ex lf F_spec_OtherTests_W0 ⟨[(0, .sl 0 (ts.map e2)), (3, .own 2576 0 0 0), (4, .i 0)], [(2576, [])]⟩ =
      some (.exit 0, ⟨[(0, .sl 0 (ts.map e2)), (3, .own 2576 ts.length 0 ts.length), (4, .i ts.length)], [(2576, ot ts ts.length)]⟩) := by
  have h1' := tsOk_iff.1 h1
  have C := c_spec_TestsOk ts (by omega)
  rw [h1] at C
  refine loop_count ts.length (fun i => ⟨[(0, .sl 0 (ts.map e2)), (3, .own 2576 i 0 i), (4, .i i)], [(2576, ot ts i)]⟩) (fun i hi => ?_) ?_ (by simp)
  · obtain ⟨t, q1, q2, q3, q4⟩ := at_e2 hi
    have hlt : ((i : Nat) : Int) < ts.length := by omega
    have w1 : wr ((i : Int) + 1) = (i : Int) + 1 := wr_id (by omega) (by omega)
    have tk := tOk_iff.1 (List.all_eq_true.1 h1'.2 t q2)
    have w6 : wr (6 - t.2) = 6 - t.2 := wr_id (by omega) (by omega)
    have c1 := ot_len (ts := ts) (i := i) (by omega)
    have c3 := ot_succ q4
    have b1 : i + 1 ≤ bound := by unfold bound; omega
    simp [F_spec_OtherTests_L0, C, hi, q3, w1, w6, c1, c3, b1]
  · simp [F_spec_OtherTests_L0]
theorem c_spec_OtherTests (ts : List T) (hb : (ts.length : Int) < 1099511627776) : call lf n_spec_OtherTests [.sl 0 (ts.map e2)] = some (.fr 2 ((others ts).map e2), []) := by
  rw [call_k lf n_spec_OtherTests _ (F := F_spec_OtherTests) rfl rfl]
  have C := c_spec_TestsOk ts hb
  cases h1 : tsOk ts with
  | false =>
    have L : ex lf F_spec_OtherTests_W0 ⟨[(0, .sl 0 (ts.map e2)), (3, .own 2576 0 0 0), (4, .i 0)], [(2576, [])]⟩ = some (.exit 0, ⟨[(0, .sl 0 (ts.map e2)), (3, .own 2576 0 0 0), (4, .i 0)], [(2576, [])]⟩) := by
      rw [w_spec_OtherTests_0]
      cases hp : decide (0 < ts.length) <;> simp [F_spec_OtherTests_L0, C, h1, hp]
    simp [F_spec_OtherTests, L, h1, others]
  | true =>
    have L := l_spec_OtherTests ts h1
    have e : ot ts ts.length = (ts.map other).map e2 := by simp [ot]
    simp [F_spec_OtherTests, L, h1, others, e]

end Zz
