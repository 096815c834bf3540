/- What the functions answer, as equations: EB. No conditions. -/
import Derived.Test.YtdkcoaajodbnbabDoorEA
set_option linter.unusedSectionVars false
set_option linter.unusedVariables false
set_option linter.unusedSimpArgs false
namespace Zz
open Go.Lg Md
set_option linter.unusedSimpArgs false
set_option linter.unusedVariables false
attribute [local simp] ia_mv ia_newnil ia_pick ia_bin ia_eqb ia_eqs ia_un ia_len ia_lens ia_chk ia_fld ia_fldv ia_idxa ia_idx ia_load ia_store ia_slice ia_slices ia_make ia_alloc ia_box ia_build ia_bslice ia_app ia_b2i ia_i2b ia_i2i ia_same ia_b2s ia_s2b ia_ext ia_mm ia_idxp ia_calld ia_mkfn ia_i2r ia_r2s ia_call pt_nil pt_cons mi_nil mi_cons md_bslice md_mv md_newnil md_pick md_bin md_eqb md_un md_len md_lens md_fld md_fldv md_idxa md_idx md_load md_store md_slice md_slices md_make md_alloc md_box md_build md_app md_conv md_ext md_call md_calld md_callg md_mkfn md_mm md_idxp md_eqn md_eqs md_chk tg_bslice tg_mv tg_newnil tg_pick tg_bin tg_eqb tg_un tg_len tg_lens tg_fld tg_fldv tg_idxa tg_idx tg_load tg_store tg_slice tg_slices tg_make tg_alloc tg_box tg_build tg_app tg_conv tg_ext tg_call tg_calld tg_callg tg_mkfn tg_mm tg_idxp tg_eqn tg_eqs tg_chk rp_eq ro_eq ifP_t ifP_f np_def ng1_nil ng2_nil ng_gate ng_gen tgA_t tgA_0 tgA_1 tgA_2 aC_nil aC_c aC_t nxP_some nxP_none rq_nil rq_gen rq_gate nxR_some nxR_none ru_nil ru_gen ru_gate pl_none pl_some gt_nil gt_t gt_c di_some di_none an_nil an_cons nxG_some nxG_none rg_nil rg_gen rg_gate oldO_some oa_nil oa_i oa_y oa_b oa_s oa_st oa_sl oa_own oa_oad oa_nl al_nil al_cons al_i al_y al_b al_s al_st al_sl nxF_some nxF_none rf_nil rf_gen rf_gate hk_newnil hk_make hk_alloc hk_box hk_build hk_bslice hk_call hk_store hk_app cl_nil cl_cons ai_nil ai_cons il_i il_y il_b il_s il_st il_sl il_own il_adr il_oad il_ref il_fr il_tup il_nil il_np il_und il_dead ol_adr ol_b ol_dead ol_e ol_fn ol_fr ol_i ol_nil ol_np ol_oad ol_own ol_q ol_r ol_ref ol_s ol_sl ol_st ol_tup ol_und ol_w ol_y oj_e oj_i oj_y oj_b oj_s oj_st oj_sl oj_own oj_adr oj_oad oj_ref oj_fr oj_tup oj_nil oj_np oj_und oj_dead oj_w oj_q oj_r oj_fn oi_e oi_i oi_y oi_b oi_s oi_st oi_sl oi_own oi_adr oi_oad oi_ref oi_fr oi_tup oi_nil oi_np oi_und oi_dead as_nil as_cons ao_nil ao_cons av_i av_y av_b av_s av_st av_sl av_own av_adr av_oad av_ref av_fr av_tup av_nil av_np av_und av_dead pro_cons ghK_some ks_promote ks_freeze frz_own ks_rename ren_own dropO adoptP newP wholeP cutP allOldL ex_skip ex_ret ex_exit ks_region ks_seq ks_cond ks_block seqK_n seqK_e seqK_r regK_some condK_t condK_f blkK_n blkK_r blkK_e endK_n endK_r rr_false rr_true rd_free mo_nil mo_cons drK_some drK_none nxW_some nxW_none rw_nil rw_gen rw_gate ak_newnil ak_make ak_alloc ak_box ak_build ak_bslice ak_call ak_store ak_app iw_mm iw_eqn iw_idxp ef_callg cgK_some gv_e gv_own gv_i gv_sl gv_st gv_b gv_nil gvK_some gvO_some iw_callg ia_callg ak_callg hk_callg is_mv is_newnil is_pick is_bin is_eqb is_eqs is_un is_len is_lens is_chk is_fld is_fldv is_idxa is_idx is_load is_slice is_slices is_make is_alloc is_box is_build is_bslice is_app is_conv is_ext is_call is_calld is_callg is_mkfn is_mm is_idxp is_eqn is_store rt_nil rt_gen rt_gate nxT_some nxT_none ef_eqn_nil ef_eqn_sl ef_eqn_own ia_eqn ef_mmx ef_mmn ef_idxp nxD_some nxD_none ov_i ov_y ov_b ov_s ov_st ov_sl ov_own ov_oad ov_adr ov_nil ov_np ov_und ov_dead ov_tup oldN_some oldN_nil oldN_none so_none so_i so_y so_b so_s so_st so_sl so_adr so_nil so_np so_und so_dead anyM_nil anyM_t anyM_c so_own so_oad rd_nil rd_gen rd_mv rd_gate iw_mv iw_newnil iw_pick iw_bin iw_eqb iw_eqs iw_un iw_len iw_lens iw_chk iw_fld iw_fldv iw_idxa iw_idx iw_load iw_store iw_slice iw_slices iw_make iw_alloc iw_box iw_build iw_bslice iw_app iw_b2i iw_i2b iw_i2i iw_same iw_b2s iw_s2b iw_ext iw_call nm_i nm_y nm_b nm_s nm_st nm_sl nm_own nm_oad nm_adr nm_nil nm_np nm_und nm_dead nm_tup rl_nil rl_gate rl_mv rl_gen opv_t opv_c nx_some nx_none gate_tt gate_tf gate_ft gate_ff gate_u fr_ap em_nil em_i em_y em_b em_s em_st em_sl em_own em_adr em_oad em_ref em_nl em_np em_und em_dead em_tup0 em_tup_i em_tup_b em_tup_s em_tup_sl em_tup_st em_tup_np em_tup_own em_tup_oad mm_i mm_y mm_b mm_s mm_st mm_sl mm_own mm_oad mm_adr mm_nil mm_np mm_und mm_dead ef_mv ef_newnil ef_pickt ef_pickf ef_bin ef_eqb ef_eqs ef_un ef_lens ef_len_sl ef_len_own ef_len_nil ef_chk_adr ef_chk_oad ef_fld_adr ef_fld_oad ef_fldv idxR_some ef_idxa_sl ef_idxa_own ef_idx ef_load_adr_st ef_load_adr_i ef_load_adr_y ef_load_adr_b ef_load_adr_s ef_load_adr_sl atN_nil atN_zero atN_succ ef_load_oad ef_store ef_slice ef_slices ef_make ef_alloc ef_box ef_build ef_bslice ef_app_own ef_app_nil ef_b2i ef_i2b ef_i2i ef_same ef_ext ret1 ret2_some calL_some ef_call retC_i retC_y retC_b retC_s retC_st retC_sl retC_np retC_fr retC_ref retC_tup rk_nil rk_i rk_y rk_b rk_s rk_st rk_sl rk_own rk_oad rk_nl ok_nil ok_i ok_y ok_b ok_s ok_st ok_sl ok_own ok_oad ok_nl lo_nil lo_i lo_y lo_b lo_s lo_st lo_sl lo_own lo_oad lo_nl pr_nil pr_i pr_y pr_b pr_s pr_st pr_sl pr_own pr_nl pr_oad nr_i nr_y nr_b nr_s nr_st nr_sl nr_fr nr_np nr_tup ng_i ng_b ng_s ng_fr ng_nil resV effP_eff binD bi_add bi_sub bi_mul bi_quo bi_rem bi_eql bi_neq bi_lss bi_leq bi_gtr bi_geq bi_shl bi_shr bi_and bi_or bi_xor bi_andNot binY binS unD look put putD LS.get LS.drop killE sweep lookO putO dropO enter leave giveBackL giveBack outs lendArgs lendArg newOuts takeIn takeInL lendL DV.lend adoptL DV.adopt elems apartKs part DV.cells unpart settle settleL over mkId szId fillP fillE tk_e2 tk_i tk_y lt_e2 lt_i lt_y lend_rep al_e2 al_is al_ys al_rep al_app lend_app adopt_app new_app lend_e2 lend_i lend_y adopt_e2 adopt_i adopt_y new_e2 new_i allNewL DV.allNew bounds sliceD sliceS em_w em_q em_r em_fn em_tup_w em_tup_q em_tup_r mm_w mm_q mm_r mm_fn ef_load_adr_w ef_load_adr_q ef_load_adr_r retC_w retC_q retC_r rk_w rk_q rk_r rk_fn ok_w ok_q ok_r ok_fn lo_w lo_q lo_r lo_fn pr_w pr_q pr_r pr_fn nr_w nr_q nr_r ng_w ng_q ng_r oa_w oa_q oa_r oa_fn al_w al_q al_r al_fn ov_w ov_q ov_r ov_fn so_w so_q so_r so_fn il_w il_q il_r il_fn oi_w oi_q oi_r oi_fn av_w av_q av_r av_fn nm_w nm_q nm_r nm_fn ef_i2r ef_r2s ef_mkfn ef_idxp_adr ef_calld capsOk DV.cell List.all_cons List.all_nil rk_own_t lo_own_t lk_f lk_t pr_own_t mutB ak_calld hk_calld iw_calld iw_mkfn iw_i2r iw_r2s bw_and bw_or bw_xor bw_andNot bw_eql bw_neq sw_shl sw_shr sq_shl gEnv_nil rk_adr ok_adr lo_adr pr_adr oa_adr capL capArg DV.cap ak_mkfn hk_mkfn ef_callm gf_ap ga_nil ga_cons tgv_own gk_e gk_giv gk_i gk_y gk_b gk_s gk_w gk_q gk_r gk_fn gk_st gk_sl gk_own gk_oad gk_adr gk_nl gk_np rk_giv ok_giv lo_giv pr_giv oa_giv iw_callm hk_callm ak_callm is_callm ia_callm tg_callm md_callm ef_i2q ef_q2i ef_q2q iw_i2q iw_q2i iw_q2q ia_i2q ia_q2i ia_q2q bq_and bq_add bq_shr sq_shr tgv_nil gk_ref rk_ref ok_ref lo_ref pr_ref oa_ref retC_fn nr_fn ef_load_adr_fn ks_close cls_oad
attribute [local congr] ifP_congr nxP_congr nxR_congr nxT_congr nxG_congr nxF_congr ghK_congr gate_congr nx_congr nxD_congr runL_congr runD_congr eff_congr calL_congr ret2_congr seqK_congr regK_congr condK_congr endK_congr drK_congr nxW_congr
attribute [local simp ↓] nxT_some rt_nil rt_gen rt_gate nxP_some rq_nil rq_gen rq_gate nxR_some ru_nil ru_gen ru_gate nxG_some rg_nil rg_gen rg_gate nxF_some rf_nil rf_gen rf_gate ks_promote ks_freeze frz_own ks_rename ghK_some gate_tt gate_tf gate_ft gate_ff gate_u nx_some nxD_some rl_nil rl_mv rl_gen rl_gate rd_nil rd_mv rd_gen rd_gate rd_free rr_false rr_true drK_some drK_none nxW_some rw_nil rw_gen rw_gate ks_region ks_seq ks_cond ks_block seqK_n seqK_e seqK_r regK_some condK_t condK_f blkK_n blkK_r endK_n endK_r calL_some ret2_some opv_t opv_c
section
attribute [-simp] DV.cells sliceD
attribute [local simp] cells_st cells_sl cells_i cells_y cells_b cells_s cells_w
theorem hasTest_i {so : Nat} {a : Int} (h0 : 0 ≤ a) (h5 : a < 5) : call lf n_impl_hasTest [.i so, .i a] = some (.b (so.testBit a.toNat), []) := by
  have := c_impl_hasTest so a.toNat (by omega)
  rw [Int.toNat_of_nonneg h0] at this
  exact this
theorem or_i {so : Nat} {a : Int} (hs : so < 32) (h0 : 0 ≤ a) (h5 : a < 5) : orI (so : Int) (shlI 1 a) = ((so ||| 2 ^ a.toNat : Nat) : Int) := by
  rw [shl1 h0 (by omega)]
  exact or_nat hs (by omega)
theorem pow_le5 {m : Int} (h : 1 ≤ m ∧ m ≤ 5) : 2 ^ m.toNat ≤ 32 := (pow5 h.1 h.2).2.1
theorem l_impl_OrderOk {m : Int} (hm : 1 ≤ m ∧ m ≤ 5) (n : Int) (hb : n < 1099511627776) (es : List DV) (rest : List Int) : ∀ (k : Int) (so : Nat), so < 2 ^ m.toNat → 0 ≤ k → k + (rest.map DV.i).length = n → es.drop k.toNat = rest.map .i →
    ex lf F_impl_OrderOk_W0 ⟨[(0, .i m), (5, .i so), (17, .sl 0 es), (18, .i n), (19, .i k)], []⟩ =
    if orS m so rest = true then some (.exit 0, ⟨[(0, .i m), (5, .i (setO so rest : Nat)), (17, .sl 0 es), (18, .i n), (19, .i n)], []⟩) else some (.ret, ⟨[(4, .b false)], []⟩) := by
  have p5 := pow_le5 hm
  induction rest with
  | nil =>
    intro k so hs h0 hn hd
    rw [w_impl_OrderOk_0]
    have hk : k = n := by simpa using hn
    simp [F_impl_OrderOk_L0, hk, orS, setO]
  | cons a rest ih =>
    intro k so hs h0 hn hd
    obtain ⟨q1, q2, q3, q4, q5, q6⟩ := stp h0 hn hb hd
    have w : wr (m - 1) = m - 1 := wr_id (by omega) (by omega)
    rw [w_impl_OrderOk_0]
    by_cases ha : 0 ≤ a ∧ a < m
    · have e1 : decide (0 ≤ a ∧ a ≤ m - 1) = true := decide_eq_true (by omega)
      have e2 : decide (0 ≤ a ∧ a < m) = true := decide_eq_true ha
      have H := hasTest_i (so := so) ha.1 (by omega)
      have n0 : ¬ a < 0 := by omega
      have o := or_i (so := so) (by omega) ha.1 (by omega : a < 5)
      have ih := ih (k + 1) (so ||| 2 ^ a.toNat) (or_lt2 hs (by omega)) q4 q5 q6
      simp only [orS, e2, Bool.true_and, setO]
      cases hb : so.testBit a.toNat with
      | true =>
        rw [hb] at H
        simp [F_impl_OrderOk_L0, q1, q2, q3, w, c_impl_isWithin, e1, H]
      | false =>
        rw [hb] at H
        simp [F_impl_OrderOk_L0, q1, q2, q3, w, c_impl_isWithin, e1, H, n0, o, ih]
    · have e1 : decide (0 ≤ a ∧ a ≤ m - 1) = false := decide_eq_false (by omega)
      have e2 : decide (0 ≤ a ∧ a < m) = false := decide_eq_false ha
      simp only [orS, e2, Bool.false_and]
      simp [F_impl_OrderOk_L0, q1, q2, q3, w, c_impl_isWithin, e1]
theorem c_impl_OrderOk (m : Int) (os : List Int) (hb : (os.length : Int) < 1099511627776) : call lf n_impl_OrderOk [.i m, .sl 0 (os.map .i)] = some (.b (orOk m os), []) := by
  rw [call_k lf n_impl_OrderOk _ (F := F_impl_OrderOk) rfl rfl]
  unfold orOk
  cases h1 : nOk m with
  | false => simp [F_impl_OrderOk, c_impl_manyOk, h1]
  | true =>
    by_cases h2 : (os.length : Int) = m
    · have L := l_impl_OrderOk (nOk_iff.1 h1) os.length hb (os.map .i) os 0 0 (Nat.pow_pos (by omega)) (by omega) (by simp) (by simp)
      simp only [Int.natCast_zero] at L
      cases h3 : orS m 0 os <;> rw [h3] at L <;> simp at L <;> simp [F_impl_OrderOk, c_impl_manyOk, h1, h2, L, h3] <;> (subst h2; simp [L])
    · have y : ((os.length : Int) != m) = true := bne_iff_ne.2 h2
      simp [F_impl_OrderOk, c_impl_manyOk, h1, y, h2]
theorem l_spec_OrderOk (m : Int) (n : Int) (hb : n < 1099511627776) (es : List DV) (hE : (es.length : Int) = n) (rest : List Int) : ∀ (k : Int) (so : Nat), so < 32 → 0 ≤ k → k + (rest.map DV.i).length = n → es.drop k.toNat = rest.map .i →
    ex lf F_spec_OrderOk_W0 ⟨[(0, .i m), (1, .sl 0 es), (5, .i so), (6, .i k)], []⟩ =
    if orS (min m 5) so rest = true then some (.exit 0, ⟨[(0, .i m), (1, .sl 0 es), (5, .i (setO so rest : Nat)), (6, .i n)], []⟩) else some (.ret, ⟨[(4, .b false)], []⟩) := by
  induction rest with
  | nil =>
    intro k so hs h0 hn hd
    rw [w_spec_OrderOk_0]
    have hk : k = n := by simpa using hn
    simp [F_spec_OrderOk_L0, hk, hE, orS, setO]
  | cons a rest ih =>
    intro k so hs h0 hn hd
    obtain ⟨q1, q2, q3, q4, q5, q6⟩ := stp h0 hn hb hd
    rw [w_spec_OrderOk_0]
    by_cases a0 : a < 0
    · have e2 : decide (0 ≤ a ∧ a < min m 5) = false := decide_eq_false (by omega)
      simp only [orS, e2, Bool.false_and]
      simp [F_spec_OrderOk_L0, q1, q2, hE, a0]
    · by_cases a1 : m ≤ a
      · have e2 : decide (0 ≤ a ∧ a < min m 5) = false := decide_eq_false (by omega)
        simp only [orS, e2, Bool.false_and]
        simp [F_spec_OrderOk_L0, q1, q2, hE, a0, a1]
      · by_cases a5 : 5 ≤ a
        · have e2 : decide (0 ≤ a ∧ a < min m 5) = false := decide_eq_false (by omega)
          simp only [orS, e2, Bool.false_and]
          simp [F_spec_OrderOk_L0, q1, q2, hE, a0, a1, a5]
        · have e2 : decide (0 ≤ a ∧ a < min m 5) = true := decide_eq_true (by omega)
          have o := or_i (so := so) (by omega) (by omega : 0 ≤ a) (by omega : a < 5)
          have bb := bit_bI (a := so) (s := a.toNat) (by omega)
          rw [Int.toNat_of_nonneg (by omega)] at bb
          have ih := ih (k + 1) (so ||| 2 ^ a.toNat) (or_lt2 (m := 5) hs (by omega)) q4 q5 q6
          simp only [orS, e2, Bool.true_and, setO]
          cases hb : so.testBit a.toNat with
          | true =>
            rw [hb] at bb
            have q : (bI true == 1) = true := rfl
            simp [F_spec_OrderOk_L0, q1, q2, hE, a0, a1, a5, bb, q]
          | false =>
            rw [hb] at bb
            have q : (bI false == 1) = false := rfl
            simp [F_spec_OrderOk_L0, q1, q2, q3, hE, a0, a1, a5, bb, q, o, ih]
theorem c_spec_OrderOk (m : Int) (os : List Int) (hb : (os.length : Int) < 1099511627776) : call lf n_spec_OrderOk [.i m, .sl 0 (os.map .i)] = some (.b (orOk m os), []) := by
  rw [call_k lf n_spec_OrderOk _ (F := F_spec_OrderOk) rfl rfl]
  have L := l_spec_OrderOk m os.length hb (os.map .i) (by simp) os 0 0 (by omega) (by omega) (by simp) (by simp)
  simp only [Int.natCast_zero] at L
  have e1 : nOk m = decide (1 ≤ m ∧ m ≤ 5) := rfl
  unfold orOk
  cases h1 : decide (1 ≤ m ∧ m ≤ 5) with
  | false =>
    rw [e1, h1]
    cases h3 : orS (min m 5) 0 os <;> rw [h3] at L <;> simp at L <;> simp [F_spec_OrderOk, L, c_spec_l1In, h1]
  | true =>
    rw [e1, h1]
    have hm := of_decide_eq_true h1
    have e5 : min m 5 = m := by omega
    rw [e5] at L
    by_cases h2 : (os.length : Int) = m
    · cases h3 : orS m 0 os <;> rw [h3] at L <;> simp at L <;> simp [F_spec_OrderOk, L, c_spec_l1In, h1, h2]
    · cases h3 : orS m 0 os <;> rw [h3] at L <;> simp at L <;> simp [F_spec_OrderOk, L, c_spec_l1In, h1, h2]
end
section
attribute [-simp] DV.cells
attribute [local simp] sliceD cells_st cells_sl cells_i cells_y cells_b cells_s cells_w
theorem ins_perm {p q : List Int} {i : Nat} (h : (p ++ q).Perm (rng i)) : (p ++ (i : Int) :: q).Perm (rng (i + 1)) := by
  rw [rng_succ]
  refine List.perm_middle.trans ?_
  refine (List.Perm.cons _ h).trans ?_
  exact (List.perm_append_singleton _ _).symm
theorem perm_len {us : List Int} {i : Nat} (h : us.Perm (rng i)) : us.length = i := by rw [h.length_eq, rng_len]
set_option maxHeartbeats 4000000 in
theorem l_l20Order {bs : List Nat} (hb : ∀ y ∈ bs, y < 256) (hl : bs.length ≤ 2000) (m : Nat) (hm : m ≤ 5) (n : Int) (j : Nat) : ∀ (i : Nat) (p : Int) (K : Nat) (os : List Int), (K = 5640 ∨ K = 11272) → 0 ≤ p → p + j < 900000 → i + j = m → os.Perm (rng i) →
    ∃ us : List Int, us.Perm (rng m) ∧
    ex lf F_spec_l20Order_W0 ⟨[(0, .oad 23 1 0 0), (1, .i m), (2, .i n), (7, .own K i 0 i), (8, .i i)], [(23, [.st [.sl 0 (bs.map .y), .i p]]), (K, os.map .i)]⟩ =
      some (.exit 0, ⟨[(0, .oad 23 1 0 0), (1, .i m), (2, .i n), (7, .own 5640 m 0 m), (8, .i m)], [(23, [.st [.sl 0 (bs.map .y), .i (p + j)]]), (5640, us.map .i)]⟩) := by
  induction j with
  | zero =>
    intro i p K os hK h0 h1 h2 h3
    have : i = m := by omega
    subst this
    have lo := perm_len h3
    refine ⟨os, h3, ?_⟩
    rw [w_spec_l20Order_0]
    rcases hK with rfl | rfl <;> simp [F_spec_l20Order_L0, lo]
  | succ j ih =>
    intro i p K os hK h0 h1 h2 h3
    have lo := perm_len h3
    have b1 := pk_bound hb h0 (by omega : p ≤ 1000000) (by omega : (1 : Int) ≤ (i : Int) + 1)
    have k1 := c_pick hb hl h0 (by omega : p < 1000000) (by omega : (1 : Int) ≤ (i : Int) + 1)
    obtain ⟨a, ha⟩ : ∃ a : Nat, pk bs p ((i : Int) + 1) = a := ⟨(pk bs p ((i : Int) + 1)).toNat, by omega⟩
    rw [ha] at k1 b1
    obtain ⟨x, y, rfl, rfl⟩ : ∃ x y, os = x ++ y ∧ x.length = a := ⟨os.take a, os.drop a, (List.take_append_drop a os).symm, by simp; omega⟩
    have P := ins_perm h3
    have w1 : wr ((i : Int) + 1) = (i : Int) + 1 := wr_id (by omega) (by omega)
    obtain ⟨us, u1, u2⟩ := ih (i + 1) (p + 1) 11272 (x ++ (i : Int) :: y) (.inr rfl) (by omega) (by omega) (by omega) P
    refine ⟨us, u1, ?_⟩
    rw [show p + ((j + 1 : Nat) : Int) = p + 1 + j by omega]
    have lxy : x.length + y.length = i := by simpa using lo
    have hlt : (i : Int) < m := by omega
    have c1 : x.length ≤ bound := by unfold bound; omega
    have c2 : x.length + 1 ≤ bound := by unfold bound; omega
    have c3 : i + 1 ≤ bound := by unfold bound; omega
    have xi : x.length ≤ i := by omega
    have xi' : (x.length : Int) ≤ i := by omega
    have t1 : ((x ++ y).map DV.i).take x.length = x.map .i := by simp
    have t2 : ((x ++ y).map DV.i).drop x.length = y.map .i := by simp
    have t3 : (x ++ y).map DV.i = ((x ++ y).map DV.i).take i := (List.take_of_length_le (by simp; omega)).symm
    have t4 : List.take i ((x ++ y).map DV.i) = (x ++ y).map DV.i := t3.symm
    have hL : ((x ++ y).map DV.i).length = i := by simp; omega
    have e1 : x.length + 1 + y.length = i + 1 := by omega
    rw [w_spec_l20Order_0]
    simp only [Int.natCast_add, Int.natCast_one, List.map_append, List.map_cons] at u2
    have n0 : ¬ (i < x.length) := by omega
    generalize (x ++ y).map DV.i = L at *
    rcases hK with rfl | rfl <;> simp [F_spec_l20Order_L0, hlt, lo, k1, w1, hL, t1, t2, t4, c1, c2, c3, xi, xi', e1, u2]
set_option maxHeartbeats 4000000 in
theorem c_l20Order {bs : List Nat} (hb : ∀ y ∈ bs, y < 256) (hl : bs.length ≤ 2000) {p n : Int} {m : Nat} (h0 : 0 ≤ p) (h1 : p < 700000) (hm : m ≤ 5) (hn : 1 ≤ n) (hn2 : n ≤ 1000000) :
    ∃ (us : List Int) (p' : Int), us.length ≤ 6 ∧ p ≤ p' ∧ p' ≤ p + 20 ∧ call lf n_spec_l20Order [.ref (.st [.sl 0 (bs.map .y), .i p]), .i m, .i n] = some (.fr 1 (us.map .i), [.st [.sl 0 (bs.map .y), .i p']]) := by
  obtain ⟨us, u1, L⟩ := l_l20Order hb hl m hm n m 0 p 5640 [] (.inl rfl) h0 (by omega) (by omega) (by rfl)
  have lu := perm_len u1
  simp only [Int.natCast_zero, List.map_nil] at L
  have q0 : 0 ≤ p + (m : Int) := by omega
  have k2 := c_odd hb hl q0 (by omega) hn hn2
  generalize hq : p + (m : Int) = q at *
  have lb : m + 1 ≤ bound := by unfold bound; omega
  cases ho : (pk bs q n == n - 1) with
  | false =>
    rw [ho] at k2
    refine ⟨us, q + 1, by omega, by omega, by omega, ?_⟩
    rw [call_k lf n_spec_l20Order _ (F := F_spec_l20Order) rfl rfl]
    simp [F_spec_l20Order, L, k2, lu]
  | true =>
    rw [ho] at k2
    have k3 := c_pick hb hl (p := q + 1) (n := 2) (by omega) (by omega) (by omega)
    have a3 := pk_bound hb (p := q + 1) (n := 2) (by omega) (by omega) (by omega)
    by_cases z : pk bs (q + 1) 2 = 0
    · rw [z] at k3
      refine ⟨us ++ [0], q + 1 + 1, by simp; omega, by omega, by omega, ?_⟩
      rw [call_k lf n_spec_l20Order _ (F := F_spec_l20Order) rfl rfl]
      simp [F_spec_l20Order, L, k2, k3, lu, lb]
    · have z1 : pk bs (q + 1) 2 = 1 := by omega
      rw [z1] at k3
      by_cases hm0 : m = 0
      · subst hm0
        refine ⟨us, q + 1 + 1, by omega, by omega, by omega, ?_⟩
        rw [call_k lf n_spec_l20Order _ (F := F_spec_l20Order) rfl rfl]
        simp at L lu
        subst lu
        simp [F_spec_l20Order, L, k2, k3]
      · have k4 := c_pick hb hl (p := q + 1 + 1) (n := 2) (by omega) (by omega) (by omega)
        have a4 := pk_bound hb (p := q + 1 + 1) (n := 2) (by omega) (by omega) (by omega)
        obtain ⟨u, r, rfl⟩ : ∃ u r, us = u :: r := by
          cases us with
          | nil => simp at lu; omega
          | cons u r => exact ⟨u, r, rfl⟩
        simp only [List.length_cons] at lu
        have hp : 0 < m := by omega
        by_cases z4 : pk bs (q + 1 + 1) 2 = 0
        · rw [z4] at k4
          refine ⟨5 :: r, q + 1 + 1 + 1, by simp; omega, by omega, by omega, ?_⟩
          rw [call_k lf n_spec_l20Order _ (F := F_spec_l20Order) rfl rfl]
          simp at L
          simp [F_spec_l20Order, L, k2, k3, k4, lu, hp]
        · have z5 : pk bs (q + 1 + 1) 2 = 1 := by omega
          rw [z5] at k4
          refine ⟨-1 :: r, q + 1 + 1 + 1, by simp; omega, by omega, by omega, ?_⟩
          rw [call_k lf n_spec_l20Order _ (F := F_spec_l20Order) rfl rfl]
          simp at L
          simp [F_spec_l20Order, L, k2, k3, k4, lu, hp]
theorem c_DrawAskedIn {bs : List Nat} (hb : ∀ y ∈ bs, y < 256) (hl : bs.length ≤ 1048576) :
    ∃ (m : Int) (t : List T) (os : List Int) (s : Int), (1 ≤ m ∧ m ≤ 5) ∧ t.length ≤ 12 ∧ os.length ≤ 6 ∧ (0 ≤ s ∧ s ≤ 100) ∧ call lf n_spec_DrawAskedIn [.sl 0 (bs.map .y)] = some (.tup [.i m, .fr 2 (t.map e2), .fr 1 (os.map .i), .i s], []) := by
  obtain ⟨c1, c2⟩ := take_b hb
  have o := c_open hl
  generalize bs.take 2000 = cs at *
  obtain ⟨m, t, s, q, m1, t1, s1, q1, q2, h⟩ := c_l20State c1 c2 (by omega : (0 : Int) ≤ 0) (by omega) (by omega : (1 : Int) ≤ 14) (by omega)
  obtain ⟨j, rfl⟩ : ∃ j : Nat, m = j := ⟨m.toNat, by omega⟩
  obtain ⟨os, p', o1, _, _, o2⟩ := c_l20Order c1 c2 (p := q) (n := 14) (m := j) (by omega) (by omega) (by omega) (by omega) (by omega)
  refine ⟨j, t, os, s, m1, t1, o1, s1, ?_⟩
  rw [call_k lf n_spec_DrawAskedIn _ (F := F_spec_DrawAskedIn) rfl rfl]
  simp [F_spec_DrawAskedIn, o, h, o2]
end
section
def opn (so : Nat) (f : Nat → Bool) : Nat → Nat → Bool
  | 0, s => f s
  | k + 1, s => opn so f k s || (!so.testBit k && opn so f k (s ^^^ 2 ^ k))
theorem xor_bit (s k j : Nat) : (s ^^^ 2 ^ k).testBit j = (s.testBit j != decide (k = j)) := by
  rw [Nat.testBit_xor, Nat.testBit_two_pow]
theorem opn_iff {m so : Nat} {f : Nat → Bool} : ∀ {k s : Nat}, k ≤ m → s < 2 ^ m → (opn so f k s = true ↔ ∃ s', s' < 2 ^ m ∧ (∀ j, (k ≤ j ∨ so.testBit j = true) → s'.testBit j = s.testBit j) ∧ f s' = true)
  | 0, s, _, hs => by
    constructor
    · exact fun h => ⟨s, hs, fun _ _ => rfl, h⟩
    · rintro ⟨s', h1, h2, h3⟩
      have : s' = s := Nat.eq_of_testBit_eq fun j => h2 j (.inl (Nat.zero_le j))
      rw [this] at h3; exact h3
  | k + 1, s, hk, hs => by
    have hx : s ^^^ 2 ^ k < 2 ^ m := Nat.xor_lt_two_pow hs (Nat.pow_lt_pow_right (by omega) (by omega))
    rw [opn, Bool.or_eq_true, Bool.and_eq_true, opn_iff (k := k) (by omega) hs, opn_iff (k := k) (by omega) hx, Bool.not_eq_true']
    constructor
    · rintro (⟨s', h1, h2, h3⟩ | ⟨hb, s', h1, h2, h3⟩)
      · exact ⟨s', h1, fun j hj => h2 j (hj.imp (fun q => by omega) id), h3⟩
      · refine ⟨s', h1, fun j hj => ?_, h3⟩
        have hne : k ≠ j := by
          rintro rfl
          rcases hj with q | q
          · omega
          · rw [hb] at q; cases q
        rw [h2 j (hj.imp (fun q => by omega) id), xor_bit, decide_eq_false hne]; simp
    · rintro ⟨s', h1, h2, h3⟩
      by_cases e : s'.testBit k = s.testBit k
      · left
        refine ⟨s', h1, fun j hj => ?_, h3⟩
        by_cases ej : j = k
        · subst ej; exact e
        · exact h2 j (hj.imp (fun q => by omega) id)
      · right
        refine ⟨?_, s', h1, fun j hj => ?_, h3⟩
        · cases hb : so.testBit k with
          | false => rfl
          | true => exact absurd (h2 k (.inr hb)) e
        · rw [xor_bit]
          by_cases ej : k = j
          · subst ej
            rw [decide_eq_true rfl]
            revert e; cases s'.testBit k <;> cases s.testBit k <;> simp
          · rw [decide_eq_false ej, h2 j (hj.imp (fun q => by omega) id)]; simp
theorem opn_prf {m : Int} {t : List T} {so s : Nat} (hs : s < 2 ^ m.toNat) : (opn so (tv t) m.toNat s && opn so (fun x => !tv t x) m.toNat s) = !prf m t s so := by
  have key : ∀ f : Nat → Bool, opn so f m.toNat s = true ↔ ∃ s', s' < 2 ^ m.toNat ∧ (∀ k, k < m.toNat → so.testBit k = true → s'.testBit k = s.testBit k) ∧ f s' = true := by
    intro f
    rw [opn_iff (Nat.le_refl _) hs]
    constructor
    · rintro ⟨s', h1, h2, h3⟩
      exact ⟨s', h1, fun k _ hb => h2 k (.inr hb), h3⟩
    · rintro ⟨s', h1, h2, h3⟩
      refine ⟨s', h1, fun j hj => ?_, h3⟩
      by_cases hm : m.toNat ≤ j
      · rw [Nat.testBit_lt_two_pow (Nat.lt_of_lt_of_le h1 (Nat.pow_le_pow_right (by omega) hm)), Nat.testBit_lt_two_pow (Nat.lt_of_lt_of_le hs (Nat.pow_le_pow_right (by omega) hm))]
      · exact h2 j (by omega) (hj.resolve_left hm)
  rw [Bool.eq_iff_iff, Bool.and_eq_true, key, key, Bool.not_eq_true', ← Bool.not_eq_true, prf_iff hs]
  constructor
  · rintro ⟨⟨a, a1, a2, a3⟩, ⟨b, b1, b2, b3⟩⟩ h
    have ha := h a a1 a2
    have hb := h b b1 b2
    rw [Bool.not_eq_true'] at b3
    rw [a3] at ha; rw [b3] at hb; rw [← ha] at hb; cases hb
  · intro h
    obtain ⟨x, hx⟩ : ∃ x, ¬ (x < 2 ^ m.toNat → (∀ k, k < m.toNat → so.testBit k = true → x.testBit k = s.testBit k) → tv t x = tv t s) := Classical.not_forall.1 h
    obtain ⟨x1, hx⟩ := Classical.not_imp.1 hx
    obtain ⟨x2, hx⟩ := Classical.not_imp.1 hx
    cases hs' : tv t s with
    | true => exact ⟨⟨s, hs, fun _ _ _ => rfl, hs'⟩, ⟨x, x1, x2, by rw [hs'] at hx; simpa using hx⟩⟩
    | false => exact ⟨⟨x, x1, x2, by rw [hs'] at hx; simpa using hx⟩, ⟨s, hs, fun _ _ _ => rfl, by rw [hs']; rfl⟩⟩
theorem opn_congr {so : Nat} {f g : Nat → Bool} {n : Nat} (h : ∀ s, s < 2 ^ n → f s = g s) : ∀ {k s}, k ≤ n → s < 2 ^ n → opn so f k s = opn so g k s
  | 0, s, _, hs => h s hs
  | k + 1, s, hk, hs => by
    have hx : s ^^^ 2 ^ k < 2 ^ n := Nat.xor_lt_two_pow hs (Nat.pow_lt_pow_right (by omega) (by omega))
    simp only [opn]
    rw [opn_congr h (k := k) (by omega) hs, opn_congr h (k := k) (by omega) hx]
theorem turn_fin : ∀ (k : Fin 5) (s : Fin 32), (s.val.testBit k.val = true → 2 ^ k.val ≤ s.val ∧ s.val - 2 ^ k.val = s.val ^^^ 2 ^ k.val ∧ s.val - 2 ^ k.val < 32 ∧ (s.val - 2 ^ k.val).testBit k.val = false ∧ (2 ^ k.val + s.val).testBit k.val = false) ∧
    (s.val.testBit k.val = false → 2 ^ k.val + s.val = s.val ^^^ 2 ^ k.val ∧ 2 ^ k.val + s.val < 32 ∧ (2 ^ k.val + s.val).testBit k.val = true ∧ (2 ^ k.val ≤ s.val → (s.val - 2 ^ k.val).testBit k.val = true ∧ s.val - 2 ^ k.val < 32)) := by decide +kernel
def tnW (v : BitVec 32) (k : Nat) : BitVec 32 := (v &&& yesW k) >>> (2 ^ k) ||| (v &&& ~~~ yesW k) <<< (2 ^ k)
theorem tnW_bit {v : BitVec 32} {k s : Nat} (hk : k < 5) (hs : s < 32) : (tnW v k).getLsbD s = v.getLsbD (s ^^^ 2 ^ k) := by
  unfold tnW
  obtain ⟨f1, f2⟩ := turn_fin ⟨k, hk⟩ ⟨s, hs⟩
  simp only at f1 f2
  rw [BitVec.getLsbD_or, BitVec.getLsbD_ushiftRight, BitVec.getLsbD_shiftLeft, BitVec.getLsbD_and, BitVec.getLsbD_and, BitVec.getLsbD_not]
  cases hb : s.testBit k with
  | true =>
    obtain ⟨g1, g2, g3, g4, g5⟩ := f1 hb
    rw [yes_bit' hk g3, g4, g2]
    have e : (v.getLsbD (2 ^ k + s) && (yesW k).getLsbD (2 ^ k + s)) = false := by
      by_cases hlt : 2 ^ k + s < 32
      · rw [yes_bit' hk hlt, g5, Bool.and_false]
      · rw [BitVec.getLsbD_of_ge v _ (by omega), Bool.false_and]
    rw [e]
    rw [g2] at g3
    simp [hs, g3, Nat.not_lt.2 g1]
  | false =>
    obtain ⟨g1, g2, g3, g4⟩ := f2 hb
    rw [yes_bit' hk g2, g3, g1]
    by_cases hle : 2 ^ k ≤ s
    · obtain ⟨q1, q2⟩ := g4 hle
      rw [yes_bit' hk q2, q1]; simp
    · simp [Nat.lt_of_not_le hle]
def opW (so : Nat) (v : BitVec 32) : Nat → BitVec 32
  | 0 => v
  | k + 1 => if so.testBit k then opW so v k else opW so v k ||| tnW (opW so v k) k
theorem opW_bit {so : Nat} {v : BitVec 32} : ∀ {k s : Nat}, k ≤ 5 → s < 32 → (opW so v k).getLsbD s = opn so v.getLsbD k s
  | 0, _, _, _ => rfl
  | k + 1, s, hk, hs => by
    have hx : s ^^^ 2 ^ k < 2 ^ 5 := Nat.xor_lt_two_pow (n := 5) (by omega) (Nat.pow_lt_pow_right (by omega) (by omega))
    simp only [opW, opn]
    cases hb : so.testBit k with
    | true => simp [opW_bit (k := k) (by omega) hs]
    | false =>
      simp only [Bool.false_eq_true, if_false, Bool.not_false, Bool.true_and]
      rw [BitVec.getLsbD_or, tnW_bit (by omega) hs, opW_bit (k := k) (by omega) hs, opW_bit (k := k) (by omega) hx]
theorem open_bit {m : Int} {t : List T} (h : tmOk m t = true) {so s : Nat} (hs : s < 2 ^ m.toNat) : (opW so (tsW t) m.toNat &&& opW so (~~~ tsW t) m.toNat).getLsbD s = !prf m t s so := by
  obtain ⟨h1, _, _⟩ := tmOk_iff.1 h
  obtain ⟨p1, p2, p3⟩ := pow5 h1.1 h1.2
  rw [BitVec.getLsbD_and, opW_bit (by omega) (by omega), opW_bit (by omega) (by omega), ← opn_prf hs]
  congr 1
  refine opn_congr (n := 5) (fun x hx => ?_) (by omega) (by omega)
  rw [BitVec.getLsbD_not, decide_eq_true (by omega : x < 32), Bool.true_and]
  rfl
end
section
attribute [-simp] DV.cells sliceD
attribute [local simp] cells_st cells_sl cells_i cells_y cells_b cells_s cells_w
theorem c_impl_turnedStates (v : BitVec 32) (k : Nat) (hk : k < 5) : call lf n_impl_turnedStates [.w v, .i k] = some (.w (tnW v k), []) := by
  rw [call_k lf n_impl_turnedStates _ (F := F_impl_turnedStates) rfl rfl]
  have ya := yes_at hk
  have n2 : ¬ ((k : Int) < 0) := by omega
  have hk' : (k : Int) < 5 := by omega
  have c : k = 0 ∨ k = 1 ∨ k = 2 ∨ k = 3 ∨ k = 4 := by omega
  rcases c with rfl | rfl | rfl | rfl | rfl <;> simp [F_impl_turnedStates, gEnv_0, n2, hk', ya, tnW, shrW] <;> (try rfl)
theorem c_impl_openStates {m : Int} (h0 : 0 ≤ m) (h5 : m ≤ 5) (v : BitVec 32) (so : Nat) : call lf n_impl_openStates [.i m, .w v, .i so] = some (.w (opW so v m.toNat &&& opW so (~~~ v) m.toNat), []) := by
  have L := loop_count (lf := lf) (L := F_impl_openStates_L0) m.toNat (fun i => ⟨[(2, .i so), (7, .w (opW so v i)), (8, .w (opW so (~~~ v) i)), (13, .i m), (14, .i i)], []⟩) (x := .exit 0) (R := ⟨[(2, .i so), (7, .w (opW so v m.toNat)), (8, .w (opW so (~~~ v) m.toNat)), (13, .i m), (14, .i m)], []⟩) (fun i hi => by
    have hi' : (i : Int) < m := by omega
    have H := c_impl_hasTest so i (by omega)
    have T := fun v => c_impl_turnedStates v i (by omega)
    have w1 : wr ((i : Int) + 1) = i + 1 := wr_id (by omega) (by omega)
    have e : ∀ v, opW so v (i + 1) = if so.testBit i then opW so v i else opW so v i ||| tnW (opW so v i) i := fun _ => rfl
    simp only [e]
    cases hb : so.testBit i with
    | true =>
      rw [hb] at H
      simp [F_impl_openStates_L0, hi', H, w1]
    | false =>
      rw [hb] at H
      simp [F_impl_openStates_L0, hi', H, T, w1]) (by
    have : ((m.toNat : Nat) : Int) = m := by omega
    simp [F_impl_openStates_L0, this]) (by simp)
  have L' : ex lf F_impl_openStates_W0 ⟨[(2, .i so), (7, .w v), (8, .w (~~~ v)), (13, .i m), (14, .i 0)], []⟩ = some (.exit 0, ⟨[(2, .i so), (7, .w (opW so v m.toNat)), (8, .w (opW so (~~~ v) m.toNat)), (13, .i m), (14, .i m)], []⟩) := L
  rw [call_k lf n_impl_openStates _ (F := F_impl_openStates) rfl rfl]
  simp [F_impl_openStates, L']
/-- whether a state is among those that some tests leave open -/
theorem c_opened {m : Int} {t : List T} (h : tmOk m t = true) (so : Nat) {s : Nat} (hs : s < 2 ^ m.toNat) :
    call lf n_impl_hasState [.w (opW so (tsW t) m.toNat &&& opW so (~~~ tsW t) m.toNat), .i s] = some (.b (!prf m t s so), []) := by
  obtain ⟨h1, _, _⟩ := tmOk_iff.1 h
  obtain ⟨p1, p2, p3⟩ := pow5 h1.1 h1.2
  have := c_impl_hasState (opW so (tsW t) m.toNat &&& opW so (~~~ tsW t) m.toNat) (s : Int) (by omega) (by omega)
  rw [Int.toNat_natCast, open_bit h hs] at this
  exact this
/-- what is asked in an order in a state -/
def askOk (m : Int) (t : List T) (os : List Int) (s : Int) : Bool := tmOk m t && orOk m os && stOk m s
def askOf (m : Int) (t : List T) (os : List Int) (s : Int) : Int := if askOk m t os s then (gN m t s.toNat 0 os : Nat) else -1
theorem l_impl_AskedIn {m : Int} {t : List T} (h : tmOk m t = true) {s : Nat} (hs : s < 2 ^ m.toNat) (n : Int) (hb : n < 1099511627776) (es : List DV) (rest : List Int) : ∀ (k : Nat) (so : Nat), orS m so rest = true → so < 2 ^ m.toNat → (k : Int) + (rest.map DV.i).length = n → es.drop k = rest.map .i →
    ∃ so', ex lf F_impl_AskedIn_W0 ⟨[(0, .i m), (3, .i s), (9, .w (tsW t)), (10, .i so), (31, .sl 0 es), (32, .i n), (33, .i k)], []⟩ =
    if gN m t s so rest < rest.length then some (.ret, ⟨[(8, .i ((k + gN m t s so rest : Nat) : Int))], []⟩) else some (.exit 0, ⟨[(0, .i m), (3, .i s), (9, .w (tsW t)), (10, .i (so' : Nat)), (31, .sl 0 es), (32, .i n), (33, .i n)], []⟩) := by
  obtain ⟨h1, _, _⟩ := tmOk_iff.1 h
  have p5 := pow_le5 h1
  induction rest with
  | nil =>
    intro k so ho hso hn hd
    refine ⟨so, ?_⟩
    rw [w_impl_AskedIn_0]
    have hk : (k : Int) = n := by simpa using hn
    simp [F_impl_AskedIn_L0, hk, gN]
  | cons a rest ih =>
    intro k so ho hso hn hd
    obtain ⟨o1, o2, o3⟩ := orS_cons.1 ho
    obtain ⟨q1, q2, q3, q4, q5, q6⟩ := stp (k := (k : Int)) (by omega) hn hb (by simpa using hd)
    obtain ⟨so', ih⟩ := ih (k + 1) (so ||| 2 ^ a.toNat) o3 (or_lt2 hso (by omega)) (by rw [← q5]; omega) (by simpa using q6)
    refine ⟨so', ?_⟩
    have O := c_impl_openStates (m := m) (by omega) h1.2 (tsW t) so
    have H := c_opened h so hs
    have o := or_i (so := so) (by omega) o1.1 (by omega : a < 5)
    have n0 : ¬ a < 0 := by omega
    have q3' : wr ((k : Int) + 1) = ((k + 1 : Nat) : Int) := by rw [q3]; omega
    rw [w_impl_AskedIn_0]
    cases hp : prf m t s so with
    | true =>
      rw [hp] at H
      simp [F_impl_AskedIn_L0, q1, q2, O, H, gN, hp]
    | false =>
      rw [hp] at H
      have e : gN m t s so (a :: rest) = gN m t s (so ||| 2 ^ a.toNat) rest + 1 := by simp [gN, hp]; omega
      have e2 : k + (gN m t s (so ||| 2 ^ a.toNat) rest + 1) = k + 1 + gN m t s (so ||| 2 ^ a.toNat) rest := by omega
      rw [e, e2]
      simp only [List.length_cons, Nat.add_lt_add_iff_right]
      simp [F_impl_AskedIn_L0, q1, q2, q3', O, H, n0, o, ih, -Int.natCast_add]
theorem c_impl_AskedIn (m : Int) (t : List T) (os : List Int) (s : Int) (hb : (t.length : Int) < 1099511627776) (hc : (os.length : Int) < 1099511627776) :
    call lf n_impl_AskedIn [.i m, .sl 0 (t.map e2), .sl 0 (os.map .i), .i s] = some (.i (askOf m t os s), []) := by
  rw [call_k lf n_impl_AskedIn _ (F := F_impl_AskedIn) rfl rfl]
  have C1 := c_impl_TermOk m t hb
  have C2 := c_impl_OrderOk m os hc
  have C3 := c_impl_StateOk m s
  unfold askOf askOk
  cases h1 : tmOk m t with
  | false => rw [h1] at C1; simp [F_impl_AskedIn, C1]
  | true =>
    rw [h1] at C1
    cases h2 : orOk m os with
    | false => rw [h2] at C2; simp [F_impl_AskedIn, C1, C2]
    | true =>
      rw [h2] at C2
      cases h3 : stOk m s with
      | false => rw [h3] at C3; simp [F_impl_AskedIn, C1, C2, C3]
      | true =>
        rw [h3] at C3
        obtain ⟨g1, g2, g3⟩ := orOk_iff.1 h2
        obtain ⟨s0, s32⟩ := st32 h3
        obtain ⟨_, _, s2⟩ := st_opp h3
        have C4 := c_impl_trueStates h1
        obtain ⟨so', L⟩ := l_impl_AskedIn h1 s2 os.length hc (os.map .i) os 0 0 g3 (Nat.pow_pos (by omega)) (by simp) (by simp)
        simp only [Int.natCast_zero, Int.toNat_of_nonneg s0, Nat.zero_add] at L
        have le := gN_le m t s.toNat 0 os
        by_cases hlt : gN m t s.toNat 0 os < os.length
        · rw [if_pos hlt] at L
          simp [F_impl_AskedIn, C1, C2, C3, C4, L]
        · rw [if_neg hlt] at L
          have e : ((gN m t s.toNat 0 os : Nat) : Int) = m := by omega
          simp [F_impl_AskedIn, C1, C2, C3, C4, L, e]
end
section
attribute [-simp] DV.cells sliceD
attribute [local simp] cells_st cells_sl cells_i cells_y cells_b cells_s cells_w
theorem non_succ (k : Nat) : non (k + 1) = non k ++ [-1] := by unfold non; rw [List.replicate_succ']
theorem non_len (k : Nat) : (non k).length = k := by simp [non]
theorem c_spec_l4None {m : Int} (h0 : 0 ≤ m) (h5 : m ≤ 5) : call lf n_spec_l4None [.i m] = some (.fr 1 ((non m.toNat).map .i), []) := by
  obtain ⟨n, rfl⟩ := Int.eq_ofNat_of_zero_le h0
  have L := loop_count (lf := lf) (L := F_spec_l4None_L0) n (fun i => ⟨[(0, .i n), (3, .own 2568 i 0 i), (4, .i i)], [(2568, (non i).map .i)]⟩) (x := .exit 0) (R := ⟨[(0, .i n), (3, .own 2568 n 0 n), (4, .i n)], [(2568, (non n).map .i)]⟩) (fun i hi => by
    have w1 : wr ((i : Int) + 1) = i + 1 := wr_id (by omega) (by omega)
    have lb : i + 1 ≤ bound := by unfold bound; omega
    have e := non_succ i
    have tl := non_len i
    simp [F_spec_l4None_L0, hi, w1, lb, e, tl]) (by simp [F_spec_l4None_L0]) (by simp)
  rw [call_k lf n_spec_l4None _ (F := F_spec_l4None) rfl rfl]
  have L' : ex lf F_spec_l4None_W0 ⟨[(0, .i n), (3, .own 2568 0 0 0), (4, .i 0)], [(2568, [])]⟩ = some (.exit 0, ⟨[(0, .i n), (3, .own 2568 n 0 n), (4, .i n)], [(2568, (non n).map .i)]⟩) := L
  have tl := non_len n
  simp [F_spec_l4None, L', tl]
set_option maxHeartbeats 4000000 in
theorem l_spec_l4Asked {m : Int} {t : List T} (h : tmOk m t = true) {s : Nat} (hs : s < 2 ^ m.toNat) (n : Int) (hb : n < 1099511627776) (es : List DV) (hE : (es.length : Int) = n) (rest : List Int) : ∀ (k : Nat) (so : Nat), orS m so rest = true → (k : Int) + (rest.map DV.i).length = n → es.drop k = rest.map .i →
    ∃ so', ex lf F_spec_l4Asked_W0 ⟨[(0, .i m), (1, .i (tabT m t)), (2, .sl 0 es), (3, .i s), (9, .own 6152 m.toNat 0 m.toNat), (10, .i k)], [(6152, (told m.toNat s so).map .i)]⟩ =
    if gN m t s so rest < rest.length then some (.ret, ⟨[(8, .i ((k + gN m t s so rest : Nat) : Int))], []⟩) else some (.exit 0, ⟨[(0, .i m), (1, .i (tabT m t)), (2, .sl 0 es), (3, .i s), (9, .own 6152 m.toNat 0 m.toNat), (10, .i n)], [(6152, (told m.toNat s so').map .i)]⟩) := by
  obtain ⟨h1, _, _⟩ := tmOk_iff.1 h
  have p5 := pow_le5 h1
  induction rest with
  | nil =>
    intro k so ho hn hd
    refine ⟨so, ?_⟩
    rw [w_spec_l4Asked_0]
    have hk : (k : Int) = n := by simpa using hn
    simp [F_spec_l4Asked_L0, hk, gN, hE]
  | cons a rest ih =>
    intro k so ho hn hd
    obtain ⟨o1, o2, o3⟩ := orS_cons.1 ho
    obtain ⟨q1, q2, q3, q4, q5, q6⟩ := stp (k := (k : Int)) (by omega) hn hb (by simpa using hd)
    obtain ⟨so', ih⟩ := ih (k + 1) (so ||| 2 ^ a.toNat) o3 (by rw [← q5]; omega) (by simpa using q6)
    refine ⟨so', ?_⟩
    have tl := told_len m.toNat s so
    have C6 := c_spec_l3Forced h1.1 h1.2 (told m.toNat s so) (by rw [tl]; omega) (tabT m t) (ks_some (told_ok h1.1 h1.2 _ _))
    rw [foT_tab h1.1 h1.2] at C6
    have t1 : List.take m.toNat ((told m.toNat s so).map DV.i) = (told m.toNat s so).map .i := List.take_of_length_le (by simp [tl])
    have n0 : ¬ a < 0 := by omega
    have q3' : wr ((k : Int) + 1) = ((k + 1 : Nat) : Int) := by rw [q3]; omega
    have pe : prf m t s so = (foT m t (told m.toNat s so) != -1) := rfl
    have bb := bit_bI (a := s) (s := a.toNat) (by omega)
    rw [Int.toNat_of_nonneg o1.1] at bb
    have ts := told_set (m := m.toNat) (st := s) (so := so) (a := a.toNat) (by omega)
    have ts' : ((told m.toNat s so).map DV.i).set a.toNat (.i (bI (s.testBit a.toNat))) = (told m.toNat s (so ||| 2 ^ a.toNat)).map .i := by rw [← ts, List.map_set]
    rw [w_spec_l4Asked_0]
    cases hp : prf m t s so with
    | true =>
      rw [hp] at pe
      simp [F_spec_l4Asked_L0, hE, q1, q2, tl, t1, C6, ← pe, gN, hp]
    | false =>
      rw [hp] at pe
      have e : gN m t s so (a :: rest) = gN m t s (so ||| 2 ^ a.toNat) rest + 1 := by simp [gN, hp]; omega
      have e2' : k + (gN m t s (so ||| 2 ^ a.toNat) rest + 1) = k + 1 + gN m t s (so ||| 2 ^ a.toNat) rest := by omega
      rw [e, e2']
      simp only [List.length_cons, Nat.add_lt_add_iff_right]
      have am : a.toNat < m.toNat := by omega
      have am2 : a < m := o1.2
      have a0 : 0 ≤ a := o1.1
      have mm : ((m.toNat : Nat) : Int) = m := by omega
      have atk : ∃ v : Int, atN ((told m.toNat s so).map DV.i) a.toNat = some (.i v) := ⟨(told m.toNat s so)[a.toNat]'(by omega), by show ((told m.toNat s so).map DV.i)[a.toNat]? = _; simp [am, tl]⟩
      obtain ⟨v, atk⟩ := atk
      simp [F_spec_l4Asked_L0, hE, q1, q2, q3', tl, t1, C6, ← pe, n0, bb, am, am2, a0, mm, atk, ts', ih, -Int.natCast_add]
theorem c_spec_l4Asked {m : Int} {t : List T} (h : tmOk m t = true) {os : List Int} (ho : orOk m os = true) {s : Nat} (hs : s < 2 ^ m.toNat) (hc : (os.length : Int) < 1099511627776) :
    call lf n_spec_l4Asked [.i m, .i (tabT m t), .sl 0 (os.map .i), .i s] = some (.i (gN m t s 0 os : Nat), []) := by
  obtain ⟨h1, _, _⟩ := tmOk_iff.1 h
  obtain ⟨g1, g2, g3⟩ := orOk_iff.1 ho
  have C := c_spec_l4None (m := m) (by omega) h1.2
  obtain ⟨so', L⟩ := l_spec_l4Asked h hs os.length hc (os.map .i) (by simp) os 0 0 g3 (by simp) (by simp)
  simp only [Int.natCast_zero, Nat.zero_add, told_non] at L
  have le := gN_le m t s 0 os
  have nl := non_len m.toNat
  rw [call_k lf n_spec_l4Asked _ (F := F_spec_l4Asked) rfl rfl]
  by_cases hlt : gN m t s 0 os < os.length
  · rw [if_pos hlt] at L
    simp [F_spec_l4Asked, C, L, nl]
  · rw [if_neg hlt] at L
    have e : gN m t s 0 os = os.length := by omega
    simp [F_spec_l4Asked, C, L, nl, e]
theorem c_spec_AskedIn (m : Int) (t : List T) (os : List Int) (s : Int) (hb : (t.length : Int) < 1099511627776) (hc : (os.length : Int) < 1099511627776) :
    call lf n_spec_AskedIn [.i m, .sl 0 (t.map e2), .sl 0 (os.map .i), .i s] = some (.i (askOf m t os s), []) := by
  rw [call_k lf n_spec_AskedIn _ (F := F_spec_AskedIn) rfl rfl]
  have C1 := c_spec_TermOk m t hb
  have C2 := c_spec_OrderOk m os hc
  have C3 := c_spec_StateOk m s
  unfold askOf askOk
  cases h1 : tmOk m t with
  | false => rw [h1] at C1; simp [F_spec_AskedIn, C1]
  | true =>
    rw [h1] at C1
    cases h2 : orOk m os with
    | false => rw [h2] at C2; simp [F_spec_AskedIn, C1, C2]
    | true =>
      rw [h2] at C2
      cases h3 : stOk m s with
      | false => rw [h3] at C3; simp [F_spec_AskedIn, C1, C2, C3]
      | true =>
        rw [h3] at C3
        obtain ⟨s0, s32⟩ := st32 h3
        obtain ⟨_, _, s2⟩ := st_opp h3
        have C4 := c_spec_l3Table h1
        have C5 := c_spec_l4Asked h1 h2 s2 hc
        rw [Int.toNat_of_nonneg s0] at C5
        simp [F_spec_AskedIn, C1, C2, C3, C4, C5]
end
section
attribute [-simp] DV.cells sliceD
attribute [local simp] cells_st cells_sl cells_i cells_y cells_b cells_s cells_w
theorem p6 : ∀ {n : Nat}, n ≤ 5 → (1 : Int) ≤ 6 ^ n ∧ (6 : Int) ^ n ≤ 7776 := by
  intro n hn
  have : n = 0 ∨ n = 1 ∨ n = 2 ∨ n = 3 ∨ n = 4 ∨ n = 5 := by omega
  rcases this with rfl | rfl | rfl | rfl | rfl | rfl <;> decide
def stW (us : List T) (tab : Nat) (os : List Int) (k : Nat) (ks : List Int) (w a sum sd : Int) : LS :=
  ⟨[(0, .sl 0 (us.map e2)), (1, .i tab), (2, .sl 0 (os.map .i)), (3, .i k), (4, .sl 0 (ks.map .i)), (5, .i w), (13, .i a), (14, .i sum), (15, .i sd)], []⟩
end
section
attribute [-simp] DV.cells
attribute [local simp] cells_st cells_sl cells_i cells_y cells_b cells_s
def stA (m : Int) (t : List T) (s : Int) (os : List Int) (n so be k : Nat) : LS :=
  ⟨[(3, .i m), (4, .own 8210 t.length 0 t.length), (5, .own 8203 os.length 0 os.length), (6, .i s), (7, .i n), (8, .i so), (9, .i be), (10, .i k)], [(8203, os.map .i), (8210, t.map e2)]⟩
def bef (os : List Int) (i : Nat) : Nat := if i = 0 then 0 else setO 0 (os.take (i - 1))
set_option maxHeartbeats 4000000 in
theorem asked_loop {m : Int} (hm : 1 ≤ m ∧ m ≤ 5) (t : List T) (s : Int) (os : List Int) (n : Nat) (hn : n ≤ os.length) (hl : os.length ≤ 6) (ho : orS m 0 os = true) :
    ex lf F_laws_FnAskedIn_W0 (stA m t s os n 0 0 0) = some (.exit 0, stA m t s os n (setO 0 (os.take n)) (bef os n) n) := by
  have p5 := pow_le5 hm
  refine loop_count n (fun i => stA m t s os n (setO 0 (os.take i)) (bef os i) i) (fun i hi => ?_) ?_ (by simp)
  · have hil : i < os.length := by omega
    have w1 : wr ((i : Int) + 1) = ((i + 1 : Nat) : Int) := by rw [wr_id (by omega) (by omega)]; omega
    have tk : os.take (i + 1) = os.take i ++ [os[i]] := List.take_succ_eq_append_getElem hil
    obtain ⟨⟨a0, a1⟩, _⟩ := orS_mem ho os[i] (List.getElem_mem hil)
    have so := setO_lt (m := m) (os := os.take i) (so := 0) (Nat.pow_pos (by omega)) (orS_take ho i)
    have o := or_i (so := setO 0 (os.take i)) (a := os[i]) (by omega) a0 (by omega)
    have e1 : setO 0 (os.take (i + 1)) = setO 0 (os.take i) ||| 2 ^ os[i].toNat := by rw [tk, setO_app]; rfl
    have e2' : bef os (i + 1) = setO 0 (os.take i) := by simp [bef]
    have at1 : atN (os.map DV.i) i = some (.i os[i]) := by show (os.map DV.i)[i]? = _; simp [hil]
    have n0 : ¬ os[i] < 0 := by omega
    have hi' : (i : Int) < n := by omega
    have hi2 : (i : Int) < os.length := by omega
    show ex lf F_laws_FnAskedIn_L0 (stA m t s os n (setO 0 (os.take i)) (bef os i) i) = some (.normal, stA m t s os n (setO 0 (os.take (i + 1))) (bef os (i + 1)) (i + 1))
    rw [e1, e2']
    unfold stA
    simp [F_laws_FnAskedIn_L0, hi, hi', hil, hi2, w1, at1, n0, o, -Int.natCast_add]
  · unfold stA
    simp [F_laws_FnAskedIn_L0]
set_option maxHeartbeats 4000000 in
theorem law_FnAskedIn (x : List Nat) (_ : x.length ≤ Go.maxLen) (hb : ∀ y ∈ x, y < 256) : call lf n_laws_FnAskedIn [bys x] = some (.b true, []) := by
  show call lf n_laws_FnAskedIn [.sl 0 (x.map .y)] = _
  rw [call_k lf n_laws_FnAskedIn _ (F := F_laws_FnAskedIn) rfl rfl]
  by_cases hl : 1048576 < (x.length : Int)
  · simp (config := { maxSteps := 2000000 }) [F_laws_FnAskedIn, hl]
  · obtain ⟨m, t, os, s, m1, t1, o1, s1, d⟩ := c_DrawAskedIn hb (by omega)
    have V1 := c_impl_AskedIn m t os s (by omega) (by omega)
    have V2 := c_spec_AskedIn m t os s (by omega) (by omega)
    have lb1 : t.length ≤ bound := by unfold bound; omega
    have lb2 : os.length ≤ bound := by unfold bound; omega
    cases hk : askOk m t os s with
    | false =>
      have e : askOf m t os s = -1 := by unfold askOf; rw [hk]; rfl
      rw [e] at V1 V2
      simp (config := { maxSteps := 2000000 }) [F_laws_FnAskedIn, hl, d, V1, V2, lb1, lb2, c_alive]
    | true =>
      have e : askOf m t os s = (gN m t s.toNat 0 os : Nat) := by unfold askOf; rw [hk]; rfl
      rw [e] at V1 V2
      have hk' := hk
      unfold askOk at hk'
      simp only [Bool.and_eq_true] at hk'
      obtain ⟨⟨h1, h2⟩, h3⟩ := hk'
      obtain ⟨g1, g2, g3⟩ := orOk_iff.1 h2
      obtain ⟨_, _, s2⟩ := st_opp h3
      have le := gN_le m t s.toNat 0 os
      have L := asked_loop g1 t s os (gN m t s.toNat 0 os) le o1 g3
      have pp := gN_prf (t := t) s2 h2
      have so : ∀ i, stOk m (setO 0 (os.take i) : Nat) = true := fun i => by
        have := setO_lt (m := m) (os := os.take i) (so := 0) (Nat.pow_pos (by omega)) (orS_take g3 i)
        have p3 := (pow5 g1.1 g1.2).2.2
        exact stOk_iff.2 ⟨g1, by omega, by omega⟩
      have P1 := c_impl_ProofOk m t s (setO 0 (os.take (gN m t s.toNat 0 os)) : Nat) (by omega)
      have e1 : pfOf m t s (setO 0 (os.take (gN m t s.toNat 0 os)) : Nat) = true := by
        unfold pfOf
        rw [h1, h3, so, Int.toNat_natCast, pp]; rfl
      rw [e1] at P1
      have nm : ((gN m t s.toNat 0 os : Nat) : Int) ≤ m := by omega
      have P2 : gN m t s.toNat 0 os ≠ 0 → call lf n_impl_ProofOk [.i m, .sl 0 (t.map e2), .i s, .i (bef os (gN m t s.toNat 0 os) : Nat)] = some (.b false, []) := by
        intro h0
        have P := c_impl_ProofOk m t s (bef os (gN m t s.toNat 0 os) : Nat) (by omega)
        have e2 : pfOf m t s (bef os (gN m t s.toNat 0 os) : Nat) = false := by
          have := gN_before (m := m) (t := t) (s := s.toNat) (so := 0) (os := os) (k := gN m t s.toNat 0 os - 1) (by omega)
          unfold pfOf bef
          rw [if_neg h0, Int.toNat_natCast, this]; simp
        rw [e2] at P
        exact P
      unfold stA at L
      generalize setO 0 (os.take (gN m t s.toNat 0 os)) = a at *
      generalize bef os (gN m t s.toNat 0 os) = b at *
      generalize gN m t s.toNat 0 os = n at *
      have n1 : ¬ ((n : Int) < 0) := by omega
      simp only [Int.natCast_zero] at L
      by_cases h0 : n = 0
      · subst h0
        simp at L V1 V2
        have nm0 : 0 ≤ m := by omega
        simp (config := { maxSteps := 2000000 }) [F_laws_FnAskedIn, hl, d, V1, V2, L, lb1, lb2, P1, nm0]
      · have P2 := P2 h0
        have z : ((n : Int) == 0) = false := beq_eq_false_iff_ne.2 (by omega)
        simp (config := { maxSteps := 2000000 }) [F_laws_FnAskedIn, hl, d, V1, V2, L, lb1, lb2, P1, P2, nm, n1, z]
end
section
def rowT (m : Nat) (row : Int) : List T := (List.range m).flatMap fun (k : Nat) => if k = 0 then [(0, 0)] else [(0, (k : Int)), (2 + row, 0)]
/-- the state in which a row goes on to its end -/
def goS (m : Nat) (row : Int) : Nat := if row = 0 then 2 ^ m - 1 else 0
def rwOk (row : Int) : Bool := decide (0 ≤ row ∧ row ≤ 1)
theorem rwOk_iff {row : Int} : rwOk row = true ↔ row = 0 ∨ row = 1 := by unfold rwOk; rw [decide_eq_true_eq]; omega
theorem row_tab : ∀ (m : Fin 5) (r : Fin 2) (s : Fin 32), s.val < 2 ^ (m.val + 1) → ((tv (rowT (m.val + 1) r.val) s.val == (r.val == 0)) = (s.val == goS (m.val + 1) r.val)) := by decide +kernel
theorem row_tmS : ∀ (m : Fin 5) (r : Fin 2), tmOk ((m.val + 1 : Nat) : Int) (rowT (m.val + 1) r.val) = true := by decide +kernel
theorem row_tm {m : Nat} (h1 : 1 ≤ m) (h5 : m ≤ 5) {row : Int} (hr : row = 0 ∨ row = 1) : tmOk m (rowT m row) = true := by
  obtain ⟨n, rfl⟩ : ∃ n, m = n + 1 := ⟨m - 1, by omega⟩
  rcases hr with rfl | rfl
  · exact row_tmS ⟨n, by omega⟩ 0
  · exact row_tmS ⟨n, by omega⟩ 1
theorem row_tv {m : Nat} (h1 : 1 ≤ m) (h5 : m ≤ 5) {row : Int} (hr : row = 0 ∨ row = 1) {s : Nat} (hs : s < 2 ^ m) : tv (rowT m row) s = (row == 0) ↔ s = goS m row := by
  obtain ⟨n, rfl⟩ : ∃ n, m = n + 1 := ⟨m - 1, by omega⟩
  have h32 : s < 32 := Nat.lt_of_lt_of_le hs (by have := Nat.pow_le_pow_right (n := 2) (by omega) h5; simpa using this)
  rcases hr with rfl | rfl
  · have := row_tab ⟨n, by omega⟩ 0 ⟨s, h32⟩ hs
    have e : (tv (rowT (n + 1) 0) s == true) = (s == goS (n + 1) 0) := this
    show tv (rowT (n + 1) 0) s = true ↔ _
    rw [← beq_iff_eq (a := s), ← e, beq_iff_eq]
  · have := row_tab ⟨n, by omega⟩ 1 ⟨s, h32⟩ hs
    have e : (tv (rowT (n + 1) 1) s == false) = (s == goS (n + 1) 1) := this
    show tv (rowT (n + 1) 1) s = false ↔ _
    rw [← beq_iff_eq (a := s), ← e, beq_iff_eq]
theorem goS_lt {m : Nat} (row : Int) : goS m row < 2 ^ m := by
  have := Nat.two_pow_pos m
  unfold goS; split <;> omega
end
section
theorem sumTo_one {f : Nat → Int} {j : Nat} : ∀ {n : Nat}, j < n → (∀ k, k < n → k ≠ j → f k = 0) → sumTo f n = f j
  | n + 1, hj, h => by
    simp only [sumTo]
    by_cases e : j = n
    · subst e
      rw [sumTo_zero fun k hk => h k (by omega) (by omega)]; omega
    · rw [sumTo_one (by omega) fun k hk hne => h k (by omega) hne, h n (by omega) (Ne.symm e)]; omega
def pY : List T → Int
  | [] => 1
  | t :: r => t.2 * pY r
def pN : List T → Int
  | [] => 1
  | t :: r => (6 - t.2) * pN r
theorem wt_all : ∀ us : List T, wt us ((2 ^ us.length - 1 : Nat) : Int) = pY us
  | [] => rfl
  | t :: r => by
    have e : 2 ^ (r.length + 1) - 1 = 2 * (2 ^ r.length - 1) + 1 := by
      have := Nat.two_pow_pos r.length
      rw [Nat.pow_succ]; omega
    rw [List.length_cons, e, (wt_two t r _).2, wt_all r]; rfl
theorem wt_none : ∀ us : List T, wt us ((0 : Nat) : Int) = pN us
  | [] => rfl
  | t :: r => by
    have := (wt_two t r 0).1
    rw [wt_none r] at this
    exact this
theorem tw_and {us : List T} (h : tsOk us = true) : tw us (rowT us.length 0) (2 ^ us.length) = pY us := by
  have h' := tsOk_iff.1 h
  have g := goS_lt (m := us.length) 0
  have key : ∀ s, s < 2 ^ us.length → (tv (rowT us.length 0) s = true ↔ s = goS us.length 0) := fun s hs => row_tv (m := us.length) (by omega) (by omega) (.inl rfl) hs
  unfold tw
  rw [sumTo_one g fun k hk hne => by
    unfold twP
    rw [if_neg (mt (key k hk).1 hne)]]
  unfold twP
  rw [if_pos ((key _ g).2 rfl), ← wt_all]
  rfl
theorem tw_or {us : List T} (h : tsOk us = true) : tw us (rowT us.length 1) (2 ^ us.length) = 6 ^ us.length - pN us := by
  have h' := tsOk_iff.1 h
  have key : ∀ s, s < 2 ^ us.length → (tv (rowT us.length 1) s = false ↔ s = 0) := fun s hs => row_tv (m := us.length) (by omega) (by omega) (.inr rfl) hs
  have e : tw us (rowT us.length 1) (2 ^ us.length) + sumTo (fun s => if s = 0 then wt us (s : Nat) else 0) (2 ^ us.length) = 6 ^ us.length := by
    unfold tw
    rw [← sumTo_add, ← wt_sum us]
    refine sumTo_congr fun s hs => ?_
    unfold twP
    by_cases h0 : s = 0
    · rw [if_pos h0, if_neg (by rw [(key s hs).2 h0]; simp)]; omega
    · rw [if_neg h0, if_pos (by simpa using mt (key s hs).1 h0)]; omega
  rw [sumTo_one (j := 0) (Nat.two_pow_pos _) fun k _ hne => if_neg hne, if_pos rfl, wt_none] at e
  omega
end
section
attribute [-simp] DV.cells
attribute [local simp] sliceD cells_st cells_sl cells_i cells_y cells_b cells_s cells_w
def rwL (m row : Int) : List T := if nOk m && rwOk row then rowT m.toNat row else []
theorem rowT_succ (i : Nat) (row : Int) : rowT (i + 1) row = rowT i row ++ (if i = 0 then [(0, 0)] else [(0, (i : Int)), (2 + row, 0)]) := by
  simp [rowT, List.range_succ]
theorem rowT_len (i : Nat) (row : Int) : (rowT (i + 1) row).length = 2 * i + 1 := by
  induction i with
  | zero => rfl
  | succ i ih => rw [rowT_succ, List.length_append, ih, if_neg (by omega)]; simp; omega
end
section
attribute [-simp] DV.cells
attribute [local simp] sliceD cells_st cells_sl cells_i cells_y cells_b cells_s cells_w
theorem c_impl_rowOk (row : Int) : call lf n_impl_rowOk [.i row] = some (.b (rwOk row), []) := by
  rw [call_k lf n_impl_rowOk _ (F := F_impl_rowOk) rfl rfl]
  have e : rwOk row = (row == 0 || row == 1) := by
    unfold rwOk
    by_cases h0 : row = 0
    · subst h0; rfl
    · by_cases h1 : row = 1
      · subst h1; rfl
      · have n0 : (row == 0) = false := beq_eq_false_iff_ne.2 h0
        have n1 : (row == 1) = false := beq_eq_false_iff_ne.2 h1
        rw [n0, n1]
        exact decide_eq_false (by omega)
  rw [e]
  cases h0 : (row == 0) with
  | true => simp [F_impl_rowOk, h0]
  | false => simp [F_impl_rowOk, h0]
def stRi (m row : Int) (L : List T) (i : Nat) : LS := ⟨[(0, .i m), (5, .oad 2576 1 0 0), (6, .own 10768 L.length 0 L.length), (7, .i i)], [(2576, [.st [.i (2 + row), .i 0]]), (10768, L.map e2)]⟩
set_option maxHeartbeats 4000000 in
theorem c_impl_RowTerm (m row : Int) : call lf n_impl_RowTerm [.i m, .i row] = some (.fr 2 ((rwL m row).map e2), []) := by
  rw [call_k lf n_impl_RowTerm _ (F := F_impl_RowTerm) rfl rfl]
  unfold rwL
  by_cases h : (nOk m && rwOk row) = true
  · rw [if_pos h]
    rw [Bool.and_eq_true] at h
    have hm : 1 ≤ m ∧ m ≤ 5 := by simpa [nOk] using h.1
    have hr := rwOk_iff.1 h.2
    obtain ⟨n, rfl⟩ : ∃ n : Nat, m = (n + 1 : Nat) := ⟨m.toNat - 1, by omega⟩
    rw [Int.toNat_natCast]
    have L := loop_count (lf := lf) (L := F_impl_RowTerm_L0) n (fun i => stRi (n + 1 : Nat) row (rowT (i + 1) row) (i + 1)) (x := .exit 0) (R := stRi (n + 1 : Nat) row (rowT (n + 1) row) (n + 1)) (fun i hi => by
      have w1 : wr (((i + 1 : Nat) : Int) + 1) = ((i + 1 + 1 : Nat) : Int) := by rw [wr_id (by omega) (by omega)]; omega
      have hi' : ((i + 1 : Nat) : Int) < ((n + 1 : Nat) : Int) := by omega
      have hi2 : i + 1 < n + 1 := by omega
      have len := rowT_len i row
      have sc := rowT_succ (i + 1) row
      rw [if_neg (by omega)] at sc
      have lb1 : 2 * i + 1 + 2 ≤ bound := by unfold bound; omega
      unfold stRi
      rw [sc]
      have tk0 : List.take (2 * i + 1) ((rowT (i + 1) row).map e2) = (rowT (i + 1) row).map e2 := List.take_of_length_le (by simp [len])
      generalize rowT (i + 1) row = L at *
      simp [F_impl_RowTerm_L0, hi, hi', hi2, w1, lb1, len, tk0, e2, -Int.natCast_add]) (by simp [stRi, F_impl_RowTerm_L0]) (by simp)
    have L' : ex lf F_impl_RowTerm_W0 ⟨[(0, .i (n + 1 : Nat)), (5, .oad 2576 1 0 0), (6, .own 10768 1 0 1), (7, .i 1)], [(2576, [.st [.i (2 + row), .i 0]]), (10768, [.st [.i 0, .i 0]])]⟩ = some (.exit 0, stRi (n + 1 : Nat) row (rowT (n + 1) row) (n + 1)) := L
    unfold stRi at L'
    have len := rowT_len n row
    have tk0 : List.take (2 * n + 1) ((rowT (n + 1) row).map e2) = (rowT (n + 1) row).map e2 := List.take_of_length_le (by simp [len])
    rcases hr with rfl | rfl
    · simp [-Int.natCast_add] at L'
      simp [F_impl_RowTerm, c_impl_manyOk, c_impl_rowOk, h.1, h.2, L', len, tk0, -Int.natCast_add]
    · simp [-Int.natCast_add] at L'
      simp [F_impl_RowTerm, c_impl_manyOk, c_impl_rowOk, h.1, h.2, L', len, tk0, -Int.natCast_add]
  · rw [if_neg h]
    cases h1 : nOk m with
    | false => simp [F_impl_RowTerm, c_impl_manyOk, h1]
    | true =>
      have h2 : rwOk row = false := by
        cases h2 : rwOk row with
        | false => rfl
        | true => exact absurd (by rw [h1, h2]; rfl) h
      simp [F_impl_RowTerm, c_impl_manyOk, c_impl_rowOk, h1, h2]
end
section
attribute [-simp] DV.cells
attribute [local simp] sliceD cells_st cells_sl cells_i cells_y cells_b cells_s cells_w
def stCh (us : List T) (y n : Int) (k : Nat) : LS := ⟨[(3, .own 5648 us.length 0 us.length), (4, .i y), (5, .i n), (6, .i k)], [(5648, us.map e2)]⟩
set_option maxHeartbeats 4000000 in
theorem chance_loop {us : List T} (h : tsOk us = true) : ∀ (r p : List T) (y n : Int), us = p ++ r → 0 ≤ y → y ≤ 6 ^ p.length → 0 ≤ n → n ≤ 6 ^ p.length →
    ex lf F_laws_FnRowChance_W0 (stCh us y n p.length) = some (.exit 0, stCh us (y * pY r) (n * pN r) us.length) := by
  have h' := tsOk_iff.1 h
  intro r
  induction r with
  | nil =>
    intro p y n hp y0 y1 n0 n1
    have e : p.length = us.length := by rw [hp]; simp
    rw [w_laws_FnRowChance_0, e]
    simp [stCh, F_laws_FnRowChance_L0, pY, pN]
  | cons t r ih =>
    intro p y n hp y0 y1 n0 n1
    have lt : p.length < us.length := by rw [hp]; simp
    obtain ⟨c, q⟩ := t
    have mt : (c, q) ∈ us := by rw [hp]; simp
    have tq := tOk_iff.1 (List.all_eq_true.1 h'.2 _ mt)
    have q1 : 1 ≤ q ∧ q ≤ 5 := tq.2
    have ai : atI (us.map e2) (p.length : Nat) = some (.st [.i c, .i q]) := by
      simp only [atI, if_pos (Int.natCast_nonneg _)]
      show (us.map e2)[((p.length : Nat) : Int).toNat]? = _
      rw [hp, Int.toNat_natCast]; simp [e2]
    have an : atN (us.map e2) p.length = some (.st [.i c, .i q]) := by
      show (us.map e2)[p.length]? = _
      rw [hp]; simp [e2]
    have pk : (6 : Int) ^ (p.length + 1) ≤ 7776 := (p6 (n := p.length + 1) (by omega)).2
    have m1 : 0 ≤ y * q ∧ y * q ≤ 6 ^ (p.length + 1) := by
      refine ⟨Int.mul_nonneg y0 (by omega), ?_⟩
      rw [Int.pow_succ]
      exact Int.mul_le_mul y1 (by omega) (by omega) (by omega)
    have m2 : 0 ≤ n * (6 - q) ∧ n * (6 - q) ≤ 6 ^ (p.length + 1) := by
      refine ⟨Int.mul_nonneg n0 (by omega), ?_⟩
      rw [Int.pow_succ]
      exact Int.mul_le_mul n1 (by omega) (by omega) (by omega)
    have w1 : wr (y * q) = y * q := wr_id (by omega) (by omega)
    have w2 : wr (n * (6 - q)) = n * (6 - q) := wr_id (by omega) (by omega)
    have w3 : wr (6 - q) = 6 - q := wr_id (by omega) (by omega)
    have w4 : wr ((p.length : Int) + 1) = ((p.length + 1 : Nat) : Int) := by rw [wr_id (by omega) (by omega)]; omega
    have I := ih (p ++ [(c, q)]) (y * q) (n * (6 - q)) (by rw [hp]; simp) m1.1 (by rw [List.length_append]; exact m1.2) m2.1 (by rw [List.length_append]; exact m2.2)
    rw [List.length_append, List.length_singleton] at I
    have e1 : y * pY ((c, q) :: r) = y * q * pY r := by simp only [pY]; rw [Int.mul_assoc]
    have e2' : n * pN ((c, q) :: r) = n * (6 - q) * pN r := by simp only [pN]; rw [Int.mul_assoc]
    rw [w_laws_FnRowChance_0, e1, e2']
    unfold stCh at *
    have hL : (us.map e2).length = us.length := by simp
    have tk : List.take us.length (us.map e2) = us.map e2 := tk_e2 us
    generalize us.map e2 = L at *
    simp [F_laws_FnRowChance_L0, lt, hL, tk, ai, an, w1, w2, w3, w4, I, -Int.natCast_add]
theorem pN_bd : ∀ {us : List T}, us.all tOk = true → 0 ≤ pN us ∧ pN us ≤ 6 ^ us.length
  | [], _ => by simp [pN]
  | t :: r, h => by
    simp only [List.all_cons, Bool.and_eq_true] at h
    have i := pN_bd h.2
    have tq := (tOk_iff.1 h.1).2
    simp only [pN, List.length_cons, Int.pow_succ]
    refine ⟨Int.mul_nonneg (by omega) i.1, ?_⟩
    rw [Int.mul_comm (6 ^ r.length) 6]
    exact Int.mul_le_mul (by omega) i.2 i.1 (by omega)
set_option maxHeartbeats 4000000 in
theorem law_FnRowChance (x : List Nat) (_ : x.length ≤ Go.maxLen) (hb : ∀ y ∈ x, y < 256) : call lf n_laws_FnRowChance [bys x] = some (.b true, []) := by
  show call lf n_laws_FnRowChance [.sl 0 (x.map .y)] = _
  rw [call_k lf n_laws_FnRowChance _ (F := F_laws_FnRowChance) rfl rfl]
  by_cases hl : 1048576 < (x.length : Int)
  · simp (config := { maxSteps := 2000000 }) [F_laws_FnRowChance, hl]
  · obtain ⟨us, u1, d⟩ := c_DrawOtherTests hb (by omega)
    have C1 := c_spec_TestsOk us (by omega)
    have C2 := c_impl_TestsOk us (by omega)
    have tk1 := tk_e2 us
    have lb1 : us.length ≤ bound := by unfold bound; omega
    cases h1 : tsOk us with
    | false =>
      rw [h1] at C1 C2
      simp (config := { maxSteps := 2000000 }) [F_laws_FnRowChance, hl, d, C1, C2, tk1, lb1, c_alive]
    | true =>
      rw [h1] at C1
      have ht := tsOk_iff.1 h1
      have L := chance_loop h1 us [] 1 1 rfl (by omega) (by simp) (by omega) (by simp)
      unfold stCh at L
      simp only [List.length_nil, Int.natCast_zero, Int.one_mul] at L
      have R0 := c_impl_RowTerm us.length 0
      have R1 := c_impl_RowTerm us.length 1
      have k0 : rwOk 0 = true := rfl
      have k1 : rwOk 1 = true := rfl
      have n5 : nOk us.length = true := by unfold tsOk at h1; rw [Bool.and_eq_true] at h1; exact h1.1
      have f0 : rwL us.length 0 = rowT us.length 0 := by unfold rwL; rw [n5, k0, Int.toNat_natCast]; rfl
      have f1 : rwL us.length 1 = rowT us.length 1 := by unfold rwL; rw [n5, k1, Int.toNat_natCast]; rfl
      rw [f0] at R0
      rw [f1] at R1
      have t0 := row_tm (m := us.length) (by omega) (by omega) (.inl rfl)
      have t1 := row_tm (m := us.length) (by omega) (by omega) (.inr rfl)
      obtain ⟨n, hn⟩ : ∃ n, us.length = n + 1 := ⟨us.length - 1, by omega⟩
      have r0 : (rowT us.length 0).length ≤ 9 := by rw [hn, rowT_len]; omega
      have r1 : (rowT us.length 1).length ≤ 9 := by rw [hn, rowT_len]; omega
      have W0 := c_impl_TrueWeight us (rowT us.length 0) (by omega) (by omega)
      have W1 := c_impl_TrueWeight us (rowT us.length 1) (by omega) (by omega)
      have v0 : twOf us (rowT us.length 0) = pY us := by unfold twOf; rw [h1, t0, ← tw_and h1]; rfl
      have v1 : twOf us (rowT us.length 1) = 6 ^ us.length - pN us := by unfold twOf; rw [h1, t1, ← tw_or h1]; rfl
      rw [v0] at W0
      rw [v1] at W1
      have P := c_power (us.length : Nat) (by omega) (by omega)
      rw [Int.toNat_natCast] at P
      have pb := p6 (n := us.length) (by omega)
      have nb := pN_bd ht.2
      have w1 : wr (6 ^ us.length - pN us) = 6 ^ us.length - pN us := wr_id (by omega) (by omega)
      have lb2 : (rowT us.length 0).length ≤ bound := by unfold bound; omega
      have lb3 : (rowT us.length 1).length ≤ bound := by unfold bound; omega
      have tk2 := tk_e2 (rowT us.length 0)
      have tk3 := tk_e2 (rowT us.length 1)
      generalize rowT us.length 0 = a at *
      generalize rowT us.length 1 = b at *
      generalize pY us = Y at *
      generalize pN us = N at *
      generalize (6 : Int) ^ us.length = S at *
      simp (config := { maxSteps := 2000000 }) [F_laws_FnRowChance, hl, d, C1, L, R0, R1, W0, W1, P, w1, tk1, tk2, tk3, lb1, lb2, lb3, c_alive]
end
end Zz
