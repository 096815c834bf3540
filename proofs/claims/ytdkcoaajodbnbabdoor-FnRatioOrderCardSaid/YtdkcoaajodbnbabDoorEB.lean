/- What the functions answer, as equations: EB. No conditions. -/
import Derived.Test.YtdkcoaajodbnbabDoorEA
set_option linter.unusedSectionVars false
set_option linter.unusedVariables false
set_option linter.unusedSimpArgs false
namespace Zz
open Go.Lg Md
set_option linter.unusedSimpArgs false
set_option linter.unusedVariables false
attribute [local simp] ia_mv ia_newnil ia_pick ia_bin ia_eqb ia_eqs ia_un ia_len ia_lens ia_chk ia_fld ia_fldv ia_idxa ia_idx ia_load ia_store ia_slice ia_slices ia_make ia_alloc ia_box ia_build ia_bslice ia_app ia_b2i ia_i2b ia_i2i ia_same ia_b2s ia_s2b ia_ext ia_mm ia_idxp ia_calld ia_mkfn ia_i2r ia_r2s ia_call pt_nil pt_cons mi_nil mi_cons md_bslice md_mv md_newnil md_pick md_bin md_eqb md_un md_len md_lens md_fld md_fldv md_idxa md_idx md_load md_store md_slice md_slices md_make md_alloc md_box md_build md_app md_conv md_ext md_call md_calld md_callg md_mkfn md_mm md_idxp md_eqn md_eqs md_chk tg_bslice tg_mv tg_newnil tg_pick tg_bin tg_eqb tg_un tg_len tg_lens tg_fld tg_fldv tg_idxa tg_idx tg_load tg_store tg_slice tg_slices tg_make tg_alloc tg_box tg_build tg_app tg_conv tg_ext tg_call tg_calld tg_callg tg_mkfn tg_mm tg_idxp tg_eqn tg_eqs tg_chk rp_eq ro_eq ifP_t ifP_f np_def ng1_nil ng2_nil ng_gate ng_gen tgA_t tgA_0 tgA_1 tgA_2 aC_nil aC_c aC_t nxP_some nxP_none rq_nil rq_gen rq_gate nxR_some nxR_none ru_nil ru_gen ru_gate pl_none pl_some gt_nil gt_t gt_c di_some di_none an_nil an_cons nxG_some nxG_none rg_nil rg_gen rg_gate oldO_some oa_nil oa_i oa_y oa_b oa_s oa_st oa_sl oa_own oa_oad oa_nl al_nil al_cons al_i al_y al_b al_s al_st al_sl nxF_some nxF_none rf_nil rf_gen rf_gate hk_newnil hk_make hk_alloc hk_box hk_build hk_bslice hk_call hk_store hk_app cl_nil cl_cons ai_nil ai_cons il_i il_y il_b il_s il_st il_sl il_own il_adr il_oad il_ref il_fr il_tup il_nil il_np il_und il_dead ol_adr ol_b ol_dead ol_e ol_fn ol_fr ol_i ol_nil ol_np ol_oad ol_own ol_q ol_r ol_ref ol_s ol_sl ol_st ol_tup ol_und ol_w ol_y oj_e oj_i oj_y oj_b oj_s oj_st oj_sl oj_own oj_adr oj_oad oj_ref oj_fr oj_tup oj_nil oj_np oj_und oj_dead oj_w oj_q oj_r oj_fn oi_e oi_i oi_y oi_b oi_s oi_st oi_sl oi_own oi_adr oi_oad oi_ref oi_fr oi_tup oi_nil oi_np oi_und oi_dead as_nil as_cons ao_nil ao_cons av_i av_y av_b av_s av_st av_sl av_own av_adr av_oad av_ref av_fr av_tup av_nil av_np av_und av_dead pro_cons ghK_some ks_promote ks_freeze frz_own ks_rename ren_own dropO adoptP newP wholeP cutP allOldL ex_skip ex_ret ex_exit ks_region ks_seq ks_cond ks_block seqK_n seqK_e seqK_r regK_some condK_t condK_f blkK_n blkK_r blkK_e endK_n endK_r rr_false rr_true rd_free mo_nil mo_cons drK_some drK_none nxW_some nxW_none rw_nil rw_gen rw_gate ak_newnil ak_make ak_alloc ak_box ak_build ak_bslice ak_call ak_store ak_app iw_mm iw_eqn iw_idxp ef_callg cgK_some gv_e gv_own gv_i gv_sl gv_st gv_b gv_nil gvK_some gvO_some iw_callg ia_callg ak_callg hk_callg is_mv is_newnil is_pick is_bin is_eqb is_eqs is_un is_len is_lens is_chk is_fld is_fldv is_idxa is_idx is_load is_slice is_slices is_make is_alloc is_box is_build is_bslice is_app is_conv is_ext is_call is_calld is_callg is_mkfn is_mm is_idxp is_eqn is_store rt_nil rt_gen rt_gate nxT_some nxT_none ef_eqn_nil ef_eqn_sl ef_eqn_own ia_eqn ef_mmx ef_mmn ef_idxp nxD_some nxD_none ov_i ov_y ov_b ov_s ov_st ov_sl ov_own ov_oad ov_adr ov_nil ov_np ov_und ov_dead ov_tup oldN_some oldN_nil oldN_none so_none so_i so_y so_b so_s so_st so_sl so_adr so_nil so_np so_und so_dead anyM_nil anyM_t anyM_c so_own so_oad rd_nil rd_gen rd_mv rd_gate iw_mv iw_newnil iw_pick iw_bin iw_eqb iw_eqs iw_un iw_len iw_lens iw_chk iw_fld iw_fldv iw_idxa iw_idx iw_load iw_store iw_slice iw_slices iw_make iw_alloc iw_box iw_build iw_bslice iw_app iw_b2i iw_i2b iw_i2i iw_same iw_b2s iw_s2b iw_ext iw_call nm_i nm_y nm_b nm_s nm_st nm_sl nm_own nm_oad nm_adr nm_nil nm_np nm_und nm_dead nm_tup rl_nil rl_gate rl_mv rl_gen opv_t opv_c nx_some nx_none gate_tt gate_tf gate_ft gate_ff gate_u fr_ap em_nil em_i em_y em_b em_s em_st em_sl em_own em_adr em_oad em_ref em_nl em_np em_und em_dead em_tup0 em_tup_i em_tup_b em_tup_s em_tup_sl em_tup_st em_tup_np em_tup_own em_tup_oad mm_i mm_y mm_b mm_s mm_st mm_sl mm_own mm_oad mm_adr mm_nil mm_np mm_und mm_dead ef_mv ef_newnil ef_pickt ef_pickf ef_bin ef_eqb ef_eqs ef_un ef_lens ef_len_sl ef_len_own ef_len_nil ef_chk_adr ef_chk_oad ef_fld_adr ef_fld_oad ef_fldv idxR_some ef_idxa_sl ef_idxa_own ef_idx ef_load_adr_st ef_load_adr_i ef_load_adr_y ef_load_adr_b ef_load_adr_s ef_load_adr_sl atN_nil atN_zero atN_succ ef_load_oad ef_store ef_slice ef_slices ef_make ef_alloc ef_box ef_build ef_bslice ef_app_own ef_app_nil ef_b2i ef_i2b ef_i2i ef_same ef_ext ret1 ret2_some calL_some ef_call retC_i retC_y retC_b retC_s retC_st retC_sl retC_np retC_fr retC_ref retC_tup rk_nil rk_i rk_y rk_b rk_s rk_st rk_sl rk_own rk_oad rk_nl ok_nil ok_i ok_y ok_b ok_s ok_st ok_sl ok_own ok_oad ok_nl lo_nil lo_i lo_y lo_b lo_s lo_st lo_sl lo_own lo_oad lo_nl pr_nil pr_i pr_y pr_b pr_s pr_st pr_sl pr_own pr_nl pr_oad nr_i nr_y nr_b nr_s nr_st nr_sl nr_fr nr_np nr_tup ng_i ng_b ng_s ng_fr ng_nil resV effP_eff binD bi_add bi_sub bi_mul bi_quo bi_rem bi_eql bi_neq bi_lss bi_leq bi_gtr bi_geq bi_shl bi_shr bi_and bi_or bi_xor bi_andNot binY binS unD look put putD LS.get LS.drop killE sweep lookO putO dropO enter leave giveBackL giveBack outs lendArgs lendArg newOuts takeIn takeInL lendL DV.lend adoptL DV.adopt elems apartKs part DV.cells unpart settle settleL over mkId szId fillP fillE tk_e2 tk_i tk_y lt_e2 lt_i lt_y lend_rep al_e2 al_is al_ys al_rep al_app lend_app adopt_app new_app lend_e2 lend_i lend_y adopt_e2 adopt_i adopt_y new_e2 new_i allNewL DV.allNew bounds sliceD sliceS em_w em_q em_r em_fn em_tup_w em_tup_q em_tup_r mm_w mm_q mm_r mm_fn ef_load_adr_w ef_load_adr_q ef_load_adr_r retC_w retC_q retC_r rk_w rk_q rk_r rk_fn ok_w ok_q ok_r ok_fn lo_w lo_q lo_r lo_fn pr_w pr_q pr_r pr_fn nr_w nr_q nr_r ng_w ng_q ng_r oa_w oa_q oa_r oa_fn al_w al_q al_r al_fn ov_w ov_q ov_r ov_fn so_w so_q so_r so_fn il_w il_q il_r il_fn oi_w oi_q oi_r oi_fn av_w av_q av_r av_fn nm_w nm_q nm_r nm_fn ef_i2r ef_r2s ef_mkfn ef_idxp_adr ef_calld capsOk DV.cell List.all_cons List.all_nil rk_own_t lo_own_t lk_f lk_t pr_own_t mutB ak_calld hk_calld iw_calld iw_mkfn iw_i2r iw_r2s bw_and bw_or bw_xor bw_andNot bw_eql bw_neq sw_shl sw_shr sq_shl gEnv_nil rk_adr ok_adr lo_adr pr_adr oa_adr capL capArg DV.cap ak_mkfn hk_mkfn ef_callm gf_ap ga_nil ga_cons tgv_own gk_e gk_giv gk_i gk_y gk_b gk_s gk_w gk_q gk_r gk_fn gk_st gk_sl gk_own gk_oad gk_adr gk_nl gk_np rk_giv ok_giv lo_giv pr_giv oa_giv iw_callm hk_callm ak_callm is_callm ia_callm tg_callm md_callm ef_i2q ef_q2i ef_q2q iw_i2q iw_q2i iw_q2q ia_i2q ia_q2i ia_q2q bq_and bq_add bq_shr sq_shr tgv_nil gk_ref rk_ref ok_ref lo_ref pr_ref oa_ref retC_fn nr_fn ef_load_adr_fn ks_close cls_oad
attribute [local congr] ifP_congr nxP_congr nxR_congr nxT_congr nxG_congr nxF_congr ghK_congr gate_congr nx_congr nxD_congr runL_congr runD_congr eff_congr calL_congr ret2_congr seqK_congr regK_congr condK_congr endK_congr drK_congr nxW_congr
attribute [local simp ↓] nxT_some rt_nil rt_gen rt_gate nxP_some rq_nil rq_gen rq_gate nxR_some ru_nil ru_gen ru_gate nxG_some rg_nil rg_gen rg_gate nxF_some rf_nil rf_gen rf_gate ks_promote ks_freeze frz_own ks_rename ghK_some gate_tt gate_tf gate_ft gate_ff gate_u nx_some nxD_some rl_nil rl_mv rl_gen rl_gate rd_nil rd_mv rd_gen rd_gate rd_free rr_false rr_true drK_some drK_none nxW_some rw_nil rw_gen rw_gate ks_region ks_seq ks_cond ks_block seqK_n seqK_e seqK_r regK_some condK_t condK_f blkK_n blkK_r endK_n endK_r calL_some ret2_some opv_t opv_c
section
attribute [-simp] DV.cells sliceD
attribute [local simp] cells_st cells_sl cells_i cells_y cells_b cells_s cells_w
theorem p6 : ∀ {n : Nat}, n ≤ 5 → (1 : Int) ≤ 6 ^ n ∧ (6 : Int) ^ n ≤ 7776 := by
  intro n hn
  have : n = 0 ∨ n = 1 ∨ n = 2 ∨ n = 3 ∨ n = 4 ∨ n = 5 := by omega
  rcases this with rfl | rfl | rfl | rfl | rfl | rfl <;> decide
theorem c_spec_l1Power {n : Nat} (h : n ≤ 5) : call lf n_spec_l1Power [.i n] = some (.i (6 ^ n), []) := by
  have L := loop_count (lf := lf) (L := F_spec_l1Power_L0) n (fun i => ⟨[(0, .i n), (3, .i (6 ^ i)), (4, .i i)], []⟩) (x := .exit 0) (R := ⟨[(0, .i n), (3, .i (6 ^ n)), (4, .i n)], []⟩) (fun i hi => by
    have p := p6 (n := i) (by omega)
    have w1 : wr ((i : Int) + 1) = i + 1 := wr_id (by omega) (by omega)
    have w2 : wr ((6 : Int) ^ i * 6) = 6 ^ (i + 1) := by rw [wr_id (by omega) (by omega), Int.pow_succ]
    simp [F_spec_l1Power_L0, hi, w1, w2]) (by simp [F_spec_l1Power_L0]) (by simp)
  have L' : ex lf F_spec_l1Power_W0 ⟨[(0, .i n), (3, .i 1), (4, .i 0)], []⟩ = some (.exit 0, ⟨[(0, .i n), (3, .i (6 ^ n)), (4, .i n)], []⟩) := L
  rw [call_k lf n_spec_l1Power _ (F := F_spec_l1Power) rfl rfl]
  simp [F_spec_l1Power, L']
theorem gC_bd {us : List T} (h : us.all tOk = true) (m : Int) (t : List T) (s so : Nat) (os : List Int) : 0 ≤ gC m us t s so os ∧ gC m us t s so os ≤ 9 * os.length := by
  rw [gC_cO]
  have := cO_bd h (os.take (gN m t s so os))
  have := List.length_take_le (gN m t s so os) os
  have : (os.take (gN m t s so os)).length ≤ os.length := by simp; omega
  omega
theorem wtgC_bd {us : List T} (h : tsOk us = true) (m : Int) (t : List T) (s so : Nat) {os : List Int} (hl : os.length ≤ 5) : 0 ≤ wt us s * gC m us t s so os ∧ wt us s * gC m us t s so os ≤ 349920 := by
  have h' := tsOk_iff.1 h
  have a := gC_bd h'.2 m t s so os
  have b := wt_le h'.2 (by omega) (s : Int)
  refine ⟨Int.mul_nonneg (by omega) a.1, ?_⟩
  have : wt us s * gC m us t s so os ≤ 7776 * 45 := Int.mul_le_mul b.2 (by omega) a.1 (by omega)
  omega
theorem wlk_bd {us : List T} (h : tsOk us = true) (t : List T) (ks : List Int) (so : Nat) {os : List Int} (hl : os.length ≤ 5) : 0 ≤ wlk us t ks so os ∧ wlk us t ks so os ≤ 20000000 := by
  have h' := tsOk_iff.1 h
  have := sumTo_nonneg (f := fun s => if agB ks s then wt us s * gC us.length us t s so os else 0) (B := 349920) (by omega) (2 ^ us.length) (fun s _ => by
    have := wtgC_bd h us.length t s so hl
    split <;> omega)
  obtain ⟨_, p2, _⟩ := pow5 (m := us.length) (by omega) (by omega)
  rw [Int.toNat_natCast] at p2
  unfold wlk
  omega
theorem foT_call {m : Int} {t : List T} (h1 : 1 ≤ m) (h5 : m ≤ 5) {ks : List Int} (hk : ksOk m ks = true) : call lf n_spec_l3Forced [.i m, .i (tabT m t), .sl 0 (ks.map .i)] = some (.i (foT m t ks), []) := by
  have hl := (ksOk_iff.1 hk).2.1
  have C6 := c_spec_l3Forced h1 h5 ks (by omega) (tabT m t) (ks_some hk)
  rw [foT_tab h1 h5] at C6
  exact C6
def stW (us : List T) (tab : Nat) (os : List Int) (k : Nat) (ks : List Int) (w a sum sd : Int) : LS :=
  ⟨[(0, .sl 0 (us.map e2)), (1, .i tab), (2, .sl 0 (os.map .i)), (3, .i k), (4, .sl 0 (ks.map .i)), (5, .i w), (13, .i a), (14, .i sum), (15, .i sd)], []⟩
theorem lend_set (l : List Int) (j : Nat) (v : Int) : lendL ((l.map DV.i).set j (.i v)) = (l.map .i).set j (.i v) := by
  rw [show (l.map DV.i).set j (.i v) = (l.set j v).map .i by rw [List.map_set]]
  exact lend_i _
theorem walk_step {us : List T} {tab : Nat} {os ks : List Int} {k : Nat} {a w c sum r X : Int} {b : Bool} (hk : k < 1000) (hl : ks.length ≤ 5) (a0 : 0 ≤ a) (a1 : a < ks.length) (cq : Int) (hx : atI (us.map e2) a = some (.st [.i c, .i cq]))
    (hc : 1 ≤ cq ∧ cq ≤ 5) (hw : w = 6 * X) (hX : 0 ≤ X ∧ X ≤ 7776) (hs : 0 ≤ sum ∧ sum ≤ 100000000) (hr : 0 ≤ r ∧ r ≤ 100000000)
    (C : call lf n_spec_l4Walk [.sl 0 (us.map e2), .i tab, .sl 0 (os.map .i), .i ((k + 1 : Nat) : Int), .sl 0 ((ks.set a.toNat (bI b)).map .i), .i ((if b then cq else 6 - cq) * X)] = some (.i r, [])) :
    ex lf F_spec_l4Walk_L0 (stW us tab os k ks w a sum (bI b)) = some (.normal, stW us tab os k ks w a (sum + r) (bI b + 1)) := by
  unfold stW
  have lb : ks.length ≤ bound := by unfold bound; omega
  have am : a.toNat < ks.length := by omega
  have w1 : wr ((k : Int) + 1) = ((k + 1 : Nat) : Int) := by rw [wr_id (by omega) (by omega)]; omega
  have w2 : wr (sum + r) = sum + r := wr_id (by omega) (by omega)
  have td : w.tdiv 6 = X := by rw [hw]; exact Int.mul_tdiv_cancel_left X (by omega)
  have wX : wr X = X := wr_id (by omega) (by omega)
  have w0 : wr (1 : Int) = 1 := wr_id (by omega) (by omega)
  have w02 : wr (2 : Int) = 2 := wr_id (by omega) (by omega)
  have atk : ∃ v : Int, atN (ks.map DV.i) a.toNat = some (.i v) := ⟨ks[a.toNat], by show (ks.map DV.i)[a.toNat]? = _; simp [am]⟩
  obtain ⟨v, atk⟩ := atk
  have b1 : 0 ≤ X * cq := Int.mul_nonneg hX.1 (by omega)
  have b2 : X * cq ≤ 7776 * 5 := Int.mul_le_mul hX.2 hc.2 (by omega) (by omega)
  have b3 : 0 ≤ X * (6 - cq) := Int.mul_nonneg hX.1 (by omega)
  have b4 : X * (6 - cq) ≤ 7776 * 5 := Int.mul_le_mul hX.2 (by omega) (by omega) (by omega)
  have xl : a < (us.length : Int) := by
    by_cases h : a < (us.length : Int)
    · exact h
    · simp only [atI, if_pos a0] at hx
      have : (us.map e2)[a.toNat]? = none := List.getElem?_eq_none (by simp; omega)
      rw [this] at hx
      cases hx
  rw [List.map_set] at C
  cases b with
  | true =>
    simp only [bI, if_true] at C ⊢
    have w3 : wr (X * cq) = cq * X := by rw [wr_id (by omega) (by omega), Int.mul_comm]
    have t1 : List.take ks.length ((ks.map DV.i).set a.toNat (.i 1)) = (ks.map .i).set a.toNat (.i 1) := List.take_of_length_le (by simp)
    simp [F_spec_l4Walk_L0, lb, a0, a1, am, xl, hx, atk, w0, w02, w1, w2, w3, td, wX, t1, lend_set, C, -Int.natCast_add]
  | false =>
    simp only [bI, Bool.false_eq_true, if_false] at C ⊢
    have w4 : wr (6 - cq) = 6 - cq := wr_id (by omega) (by omega)
    have w3 : wr (X * (6 - cq)) = (6 - cq) * X := by rw [wr_id (by omega) (by omega), Int.mul_comm]
    have t1 : List.take ks.length ((ks.map DV.i).set a.toNat (.i 0)) = (ks.map .i).set a.toNat (.i 0) := List.take_of_length_le (by simp)
    simp [F_spec_l4Walk_L0, lb, a0, a1, am, xl, hx, atk, w0, w02, w1, w2, w3, w4, td, wX, t1, lend_set, C, -Int.natCast_add]
theorem c_spec_l4Walk {us : List T} (h : tsOk us = true) {t : List T} (ht : tmOk us.length t = true) {os : List Int} (ho : orOk us.length os = true) : ∀ (rest : List Int) (k : Nat) (so : Nat) (ks : List Int), os.drop k = rest → k + rest.length = os.length → so = setO 0 (os.take k) → ksOk us.length ks = true → hkn us.length ks so →
    call lf n_spec_l4Walk [.sl 0 (us.map e2), .i (tabT us.length t), .sl 0 (os.map .i), .i k, .sl 0 (ks.map .i), .i (wk us ks)] = some (.i (wlk us t ks so rest), []) := by
  have h' := tsOk_iff.1 h
  obtain ⟨g1, g2, g3⟩ := orOk_iff.1 ho
  intro rest
  induction rest with
  | nil =>
    intro k so ks hd hl hso hk hn
    have F := foT_call (t := t) g1.1 g1.2 hk
    have sa := set_all ho
    have e : os.take k = os := by
      rw [List.drop_eq_nil_iff] at hd
      exact List.take_of_length_le hd
    rw [e] at hso
    have nf := foT_all (t := t) hk (by rw [Int.toNat_natCast]; exact hn) (by rw [hso]; exact sa)
    have nf' : (foT us.length t ks != -1) = true := bne_iff_ne.2 nf
    rw [wlk_forced hk hn nf, call_k lf n_spec_l4Walk _ (F := F_spec_l4Walk) rfl rfl]
    simp [F_spec_l4Walk, F, nf']
  | cons a rest ih =>
    intro k so ks hd hl hso hk hn
    have F := foT_call (t := t) g1.1 g1.2 hk
    have kl := (ksOk_iff.1 hk).2.1
    have kk := (ksOk_iff.1 hk).2.2
    by_cases nf : foT us.length t ks = -1
    · have oss : os = os.take k ++ a :: rest := by rw [← hd, List.take_append_drop]
      have hor : orS us.length so (a :: rest) = true := by
        rw [oss, orS_app, Bool.and_eq_true] at g3
        rw [hso]; exact g3.2
      obtain ⟨o1, o2, o3⟩ := orS_cons.1 hor
      have kl' : ks.length = us.length := by omega
      have ha : ks[a.toNat]? = some (-1) := (hn a.toNat (by omega)).2 o2
      obtain ⟨X, x1, x2, x3⟩ := wk_set (us := us) ha (by omega)
      obtain ⟨c, cq, c1, c2, c3⟩ := cA_at o1.1 o1.2
      rw [c3] at x2 x3
      have kb := wk_bound (ts := us) (ks := ks) h'.2
      have kb6 := p6 (n := us.length) (by omega)
      have tq : 1 ≤ cq ∧ cq ≤ 5 := by
        have hl : a.toNat < us.length := by omega
        have e : us.getD a.toNat (0, 0) = us[a.toNat] := by simp [List.getD, hl]
        have := tOk_iff.1 (List.all_eq_true.1 h'.2 us[a.toNat] (List.getElem_mem hl))
        rw [← e, c3] at this
        exact this.2
      have cn := cA_nn h'.2 a.toNat
      rw [wlk_open hk hn nf ha]
      have drop1 : os.drop (k + 1) = rest := by
        have := congrArg (List.drop 1) hd
        simpa using this
      have so1 : so ||| 2 ^ a.toNat = setO 0 (os.take (k + 1)) := by
        have : os.take (k + 1) = os.take k ++ [a] := by
          conv => lhs; rw [oss]
          have lk : (os.take k).length = k := by simp; simp at hl; omega
          rw [List.take_append, lk]
          simp
          rw [List.take_take]; simp
        rw [this, setO_app, hso]; rfl
      have I := fun b => ih (k + 1) (so ||| 2 ^ a.toNat) (ks.set a.toNat (bI b)) drop1 (by simp at hl; omega) so1 (ks_set hk a.toNat b) (hkn_set kl' (by omega) hn b)
      have rl : rest.length ≤ 5 := by simp at hl; omega
      have B := fun b => wlk_bd h t (ks.set a.toNat (bI b)) (so ||| 2 ^ a.toNat) rl
      have I1 := I true
      have I0 := I false
      have B1 := B true
      have B0 := B false
      simp only [bI, if_true, Bool.false_eq_true, if_false] at I1 I0 B1 B0
      rw [x2] at I1
      rw [x3] at I0
      have ws0 : 0 ≤ wk us ks * c := Int.mul_nonneg (by omega) (by omega)
      have ws1 : wk us ks * c ≤ 7776 * 9 := Int.mul_le_mul (by omega) (by omega) (by omega) (by omega)
      have al : a < (ks.length : Int) := by omega
      have S0 := walk_step (us := us) (tab := tabT us.length t) (os := os) (ks := ks) (k := k) (a := a) (w := wk us ks) (sum := wk us ks * c) (b := false) (by omega) (by omega) o1.1 al cq c1 tq x1 (by omega) (by omega) (r := wlk us t (ks.set a.toNat 0) (so ||| 2 ^ a.toNat) rest) (by omega) (by simpa [bI] using I0)
      have S1 := walk_step (us := us) (tab := tabT us.length t) (os := os) (ks := ks) (k := k) (a := a) (w := wk us ks) (sum := wk us ks * c + wlk us t (ks.set a.toNat 0) (so ||| 2 ^ a.toNat) rest) (b := true) (by omega) (by omega) o1.1 al cq c1 tq x1 (by omega) (by omega) (r := wlk us t (ks.set a.toNat 1) (so ||| 2 ^ a.toNat) rest) (by omega) (by simpa [bI] using I1)
      generalize wlk us t (ks.set a.toNat 0) (so ||| 2 ^ a.toNat) rest = r0 at *
      generalize wlk us t (ks.set a.toNat 1) (so ||| 2 ^ a.toNat) rest = r1 at *
      have L : ex lf F_spec_l4Walk_W0 (stW us (tabT us.length t) os k ks (wk us ks) a (wk us ks * c) 0) = some (.exit 0, stW us (tabT us.length t) os k ks (wk us ks) a (wk us ks * c + r0 + r1) 2) := by
        rw [w_spec_l4Walk_0]
        simp only [bI, Bool.false_eq_true, if_false] at S0
        rw [S0]
        simp only
        rw [w_spec_l4Walk_0]
        simp only [bI, if_true] at S1
        rw [show (0 : Int) + 1 = 1 from rfl, S1]
        simp only
        rw [w_spec_l4Walk_0]
        unfold stW
        simp [F_spec_l4Walk_L0]
      unfold stW at L
      have ka : k < os.length := by simp at hl; omega
      have ka' : (k : Int) < os.length := by omega
      have a1' : atI (os.map DV.i) k = some (.i a) := by
        simp only [atI, if_pos (Int.natCast_nonneg k)]
        show (os.map DV.i)[(k : Int).toNat]? = _
        have : os[k]? = some a := by
          have := congrArg (fun l => l[0]?) hd
          simpa using this
        simp [this]
      have w1 : wr (wk us ks * c) = wk us ks * c := wr_id (by omega) (by omega)
      have nf' : (foT us.length t ks != -1) = false := by rw [nf]; rfl
      have fin : cA us a.toNat * wk us ks + (r0 + r1) = wk us ks * c + r0 + r1 := by rw [← c2, Int.mul_comm]; omega
      rw [fin, call_k lf n_spec_l4Walk _ (F := F_spec_l4Walk) rfl rfl]
      have o11 := o1.1
      have o12 := o1.2
      simp [F_spec_l4Walk, F, nf', ka, ka', a1', o11, o12, c1, w1, L]
    · have nf' : (foT us.length t ks != -1) = true := bne_iff_ne.2 nf
      rw [wlk_forced hk hn nf, call_k lf n_spec_l4Walk _ (F := F_spec_l4Walk) rfl rfl]
      simp [F_spec_l4Walk, F, nf']
def avOk (us t : List T) (os : List Int) : Bool := tsOk us && tmOk us.length t && orOk us.length os
def avOf (us t : List T) (os : List Int) : Int := if avOk us t os then avO us t os else -1
/-- the walk along a whole order -/
theorem c_walk {us t : List T} {os : List Int} (h1 : tsOk us = true) (h2 : tmOk us.length t = true) (h3 : orOk us.length os = true) :
    call lf n_spec_l4Walk [.sl 0 (us.map e2), .i (tabT us.length t), .sl 0 (os.map .i), .i 0, .sl 0 ((non us.length).map .i), .i (6 ^ us.length)] = some (.i (avO us t os), []) := by
  obtain ⟨g1, g2, g3⟩ := orOk_iff.1 h3
  have := c_spec_l4Walk h1 h2 h3 os 0 0 (non us.length) (by simp) (by simp) rfl (by have := non_ok g1; rw [Int.toNat_natCast] at this; exact this) (non_kn _)
  rw [wk_non, wlk_non] at this
  exact this
def avP (us t : List T) (os : List Int) (n : Nat) : Int := sumTo (fun s => wt us s * gC us.length us t s 0 os) n
theorem c_impl_AverageIn (us t : List T) (os : List Int) (ha : (us.length : Int) < 1099511627776) (hb : (t.length : Int) < 1099511627776) (hc : (os.length : Int) < 1099511627776) :
    call lf n_impl_AverageIn [.sl 0 (us.map e2), .sl 0 (t.map e2), .sl 0 (os.map .i)] = some (.i (avOf us t os), []) := by
  rw [call_k lf n_impl_AverageIn _ (F := F_impl_AverageIn) rfl rfl]
  have C1 := c_impl_TestsOk us ha
  have C2 := c_impl_TermOk us.length t hb
  have C3 := c_impl_OrderOk us.length os hc
  unfold avOf avOk
  cases h1 : tsOk us with
  | false => rw [h1] at C1; simp [F_impl_AverageIn, C1]
  | true =>
    rw [h1] at C1
    cases h2 : tmOk us.length t with
    | false => rw [h2] at C2; simp [F_impl_AverageIn, C1, C2]
    | true =>
      rw [h2] at C2
      cases h3 : orOk us.length os with
      | false => rw [h3] at C3; simp [F_impl_AverageIn, C1, C2, C3]
      | true =>
        rw [h3] at C3
        have h1' := tsOk_iff.1 h1
        obtain ⟨g1, g2, g3⟩ := orOk_iff.1 h3
        obtain ⟨p1, p2, p3⟩ := pow5 (m := us.length) (by omega) (by omega)
        simp only [Int.toNat_natCast] at p1 p2 p3
        have C4 := c_impl_statesOf us.length (by omega) (by omega)
        simp only [Int.toNat_natCast] at C4
        have L := loop_count (lf := lf) (L := F_impl_AverageIn_L0) (2 ^ us.length) (fun i => ⟨[(0, .sl 0 (us.map e2)), (1, .sl 0 (t.map e2)), (2, .sl 0 (os.map .i)), (8, .i (avP us t os i)), (28, .i (2 ^ us.length)), (29, .i i)], []⟩) (x := .exit 0) (R := ⟨[(0, .sl 0 (us.map e2)), (1, .sl 0 (t.map e2)), (2, .sl 0 (os.map .i)), (8, .i (avO us t os)), (28, .i (2 ^ us.length)), (29, .i (2 ^ us.length))], []⟩) (fun i hi => by
          have hi' : (i : Int) < 2 ^ us.length := by omega
          have W := c_impl_WeightOf us i ha
          rw [wtOf_of h1 (by omega) hi'] at W
          have K := c_impl_CostIn us t os i ha hb hc
          have so : stOk us.length i = true := by
            unfold stOk nOk
            simp only [Int.toNat_natCast, Bool.and_eq_true, decide_eq_true_eq]
            omega
          have ke : coOf us t os i = gC us.length us t i 0 os := by
            unfold coOf askOk
            rw [h1, h2, h3, so]; rfl
          rw [ke] at K
          have b := wtgC_bd h1 us.length t i 0 (os := os) (by omega)
          have bs := sumTo_nonneg (f := fun s => wt us s * gC us.length us t s 0 os) (B := 349920) (by omega) i (fun s _ => wtgC_bd h1 us.length t s 0 (os := os) (by omega))
          have w1 : wr ((i : Int) + 1) = i + 1 := wr_id (by omega) (by omega)
          have w2 : wr (wt us i * gC us.length us t i 0 os) = wt us i * gC us.length us t i 0 os := wr_id (by omega) (by omega)
          have e : avP us t os (i + 1) = avP us t os i + wt us i * gC us.length us t i 0 os := rfl
          have e0 : avP us t os i = sumTo (fun s => wt us s * gC us.length us t s 0 os) i := rfl
          have w3 : wr (avP us t os i + wt us i * gC us.length us t i 0 os) = avP us t os i + wt us i * gC us.length us t i 0 os := by rw [e0]; exact wr_id (by omega) (by omega)
          simp only [e]
          simp [F_impl_AverageIn_L0, hi', W, K, w1, w2, w3]) (by
          have : avP us t os (2 ^ us.length) = avO us t os := rfl
          simp [F_impl_AverageIn_L0, this]) (by simp)
        have L' : ex lf F_impl_AverageIn_W0 ⟨[(0, .sl 0 (us.map e2)), (1, .sl 0 (t.map e2)), (2, .sl 0 (os.map .i)), (8, .i 0), (28, .i (2 ^ us.length)), (29, .i 0)], []⟩ = some (.exit 0, ⟨[(0, .sl 0 (us.map e2)), (1, .sl 0 (t.map e2)), (2, .sl 0 (os.map .i)), (8, .i (avO us t os)), (28, .i (2 ^ us.length)), (29, .i (2 ^ us.length))], []⟩) := L
        simp [F_impl_AverageIn, C1, C2, C3, C4, L']
end
section
attribute [-simp] DV.cells sliceD
attribute [local simp] cells_st cells_sl cells_i cells_y cells_b cells_s cells_w
def owL (us t : List T) (N i : Nat) : List Int := (List.range N).map fun k => if k < i then owT us t k else 0
theorem owL_len (us t : List T) (N i : Nat) : (owL us t N i).length = N := by simp [owL]
theorem owL_set {us t : List T} {N i : Nat} (hi : i < N) : (owL us t N i).set i (owT us t i) = owL us t N (i + 1) := by
  apply List.ext_getElem?
  intro k
  by_cases h : k < N
  · by_cases e : k = i
    · subst e
      rw [List.getElem?_set_self (by simp [owL_len, hi])]
      simp [owL, h]
    · rw [List.getElem?_set_ne (fun q => e q.symm)]
      have e' : k < i ↔ k < i + 1 := by omega
      simp [owL, h, e']
  · rw [List.getElem?_eq_none (by simp [owL_len]; omega), List.getElem?_eq_none (by simp [owL_len]; omega)]
def stO (us : List T) (v : BitVec 32) (m N : Nat) (ws : List Int) (i : Nat) : LS :=
  ⟨[(0, .sl 0 (us.map e2)), (1, .w v), (5, .i m), (6, .own 6152 N 0 N), (14, .i N), (15, .i i)], [(6152, ws.map .i)]⟩
/-- the weight of the states that some tests leave open -/
theorem c_openW {us t : List T} (h1 : tsOk us = true) (h2 : tmOk us.length t = true) (so : Nat) : call lf n_impl_weightOfStates [.sl 0 (us.map e2), .w (opW so (tsW t) us.length &&& opW so (~~~ tsW t) us.length)] = some (.i (owT us t so), []) := by
  have C := c_impl_weightOfStates h1 (opW so (tsW t) us.length &&& opW so (~~~ tsW t) us.length)
  have e : wsW us (opW so (tsW t) us.length &&& opW so (~~~ tsW t) us.length) (2 ^ us.length) = owT us t so := by
    unfold wsW owT
    refine sumTo_congr fun s hs => ?_
    have b := open_bit (so := so) h2 (s := s) (by rw [Int.toNat_natCast]; exact hs)
    rw [Int.toNat_natCast] at b
    rw [b]
    cases prf us.length t s so <;> rfl
  rw [e] at C
  exact C
theorem c_impl_openWeights {us t : List T} (h1 : tsOk us = true) (h2 : tmOk us.length t = true) : call lf n_impl_openWeights [.sl 0 (us.map e2), .w (tsW t)] = some (.fr 1 ((owL us t (2 ^ us.length) (2 ^ us.length)).map .i), []) := by
  have h' := tsOk_iff.1 h1
  obtain ⟨p1, p2, p3⟩ := pow5 (m := us.length) (by omega) (by omega)
  simp only [Int.toNat_natCast] at p1 p2 p3
  have C4 := c_impl_statesOf us.length (by omega) (by omega)
  simp only [Int.toNat_natCast] at C4
  have L := loop_count (lf := lf) (L := F_impl_openWeights_L0) (2 ^ us.length) (fun i => stO us (tsW t) us.length (2 ^ us.length) (owL us t (2 ^ us.length) i) i) (x := .exit 0) (R := stO us (tsW t) us.length (2 ^ us.length) (owL us t (2 ^ us.length) (2 ^ us.length)) (2 ^ us.length)) (fun i hi => by
    have O := c_impl_openStates (m := us.length) (by omega) (by omega) (tsW t) i
    have I := c_openW h1 h2 i
    have w1 : wr ((i : Int) + 1) = ((i + 1 : Nat) : Int) := by rw [wr_id (by omega) (by omega)]; omega
    have hN : ((2 ^ us.length : Nat) : Int) = 2 ^ us.length := p3
    rw [← hN] at C4
    rw [Int.toNat_natCast] at O
    have ll := owL_len us t (2 ^ us.length) i
    have st := owL_set (us := us) (t := t) (N := 2 ^ us.length) (i := i) hi
    unfold stO
    rw [← st]
    generalize hg : (2 ^ us.length : Nat) = N at *
    have hin : (i : Int) < (N : Int) := by omega
    have hiN : i < N := hi
    obtain ⟨x, hx⟩ : ∃ x : Int, atN ((owL us t N i).map DV.i) i = some (.i x) := ⟨(owL us t N i)[i]'(by omega), by show ((owL us t N i).map DV.i)[i]? = _; rw [List.getElem?_map, List.getElem?_eq_getElem (by omega)]; rfl⟩
    simp only [List.map_set]
    simp [F_impl_openWeights_L0, hin, hiN, O, I, w1, ll, hx, -Int.natCast_add]) (by
    unfold stO
    simp [F_impl_openWeights_L0]) (by simp)
  have z : owL us t (2 ^ us.length) 0 = List.replicate (2 ^ us.length) 0 := by
    unfold owL
    simp
    apply List.ext_getElem? 
    intro k
    by_cases h : k < 2 ^ us.length <;> simp [h]
  rw [z] at L
  unfold stO at L
  have lb : ((2 ^ us.length : Nat) : Int) ≤ (bound : Int) := by unfold bound; omega
  have ll := owL_len us t (2 ^ us.length) (2 ^ us.length)
  have hN : ((2 ^ us.length : Nat) : Int) = 2 ^ us.length := p3
  rw [← hN] at C4
  rw [call_k lf n_impl_openWeights _ (F := F_impl_openWeights) rfl rfl]
  generalize hg : (2 ^ us.length : Nat) = N at *
  simp only [Int.natCast_zero, List.map_replicate] at L
  change ex lf F_impl_openWeights_W0 _ = _ at L
  have n0 : ¬ ((N : Int) < 0) := by omega
  simp [F_impl_openWeights, C4, L, lb, ll]
end
section
attribute [-simp] DV.cells sliceD
attribute [local simp] cells_st cells_sl cells_i cells_y cells_b cells_s cells_w
theorem ren_nil (t id : Nat) (e : Env) (ob : OB) : renL t id e ob .nil = some ⟨e, ob⟩ := rfl
/-- what comes back: nothing is nil -/
def bR (l : List Int) : DV := if l = [] then .sl 1 [] else .fr 1 (l.map .i)
def stB (us : List T) (ws : List Int) (so N i : Nat) (D : DV) (l : Int) (ob : OB) : LS :=
  ⟨[(0, .sl 0 (us.map e2)), (1, .sl 0 (ws.map .i)), (2, .i so), (8, D), (9, .i l), (14, .sl 0 (us.map e2)), (15, .i N), (16, .i i)], ob⟩
def bD (K : Nat) (b : List Int) : DV := if b = [] then .nil else .own K b.length 0 b.length
def bO (K : Nat) (b : List Int) : OB := if b = [] then [] else [(K, b.map .i)]
theorem bb_no {us : List T} {ws : List Int} {so N i K : Nat} {b : List Int} {l : Int} (hK : K = 4104 ∨ K = 26120) (hi : i < us.length) (hN : N = us.length) (h5 : N ≤ 5) (hb : so.testBit i = true) :
    ex lf F_impl_bestBehind_L0 (stB us ws so N i (bD K b) l (bO K b)) = some (.normal, stB us ws so N (i + 1) (bD 4104 b) l (bO 4104 b)) := by
  have H := c_impl_hasTest so i (by omega)
  rw [hb] at H
  have hin : (i : Int) < (N : Int) := by omega
  have w1 : wr ((i : Int) + 1) = ((i + 1 : Nat) : Int) := by rw [wr_id (by omega) (by omega)]; omega
  obtain ⟨c, q, c1, _, _⟩ := cA_at (us := us) (a := i) (by omega) (by omega)
  unfold stB bD bO
  by_cases hb0 : b = []
  · simp [F_impl_bestBehind_L0, ren_nil, hb0, hin, H, w1, c1, -Int.natCast_add]
  · rcases hK with rfl | rfl
    · simp [F_impl_bestBehind_L0, ren_nil, hb0, hin, H, w1, c1, -Int.natCast_add]
    · simp [F_impl_bestBehind_L0, ren_nil, hb0, hin, H, w1, c1, -Int.natCast_add]
set_option maxHeartbeats 4000000 in
theorem bb_yes {us : List T} {ws : List Int} {so N i K : Nat} {b r1 : List Int} {l r2 c o : Int} (hK : K = 4104 ∨ K = 26120) (hi : i < us.length) (hN : N = us.length) (h5 : N ≤ 5) (hso : so < 32) (hb : so.testBit i = false) (hr : r1.length ≤ 5)
    (C : call lf n_impl_bestBehind [.sl 0 (us.map e2), .sl 0 (ws.map .i), .i ((so ||| 2 ^ i : Nat) : Int)] = some (.tup [bR r1, .i r2], []))
    (hc : c = cA us i) (ho : atI (ws.map .i) so = some (.i o)) (c9 : 1 ≤ c ∧ c ≤ 9) (o9 : 0 ≤ o ∧ o ≤ 7776) (hr2 : 0 ≤ r2 ∧ r2 ≤ 1000000) :
    ex lf F_impl_bestBehind_L0 (stB us ws so N i (bD K b) l (bO K b)) = some (.normal, if b = [] ∨ r2 + c * o < l then stB us ws so N (i + 1) (bD 26120 ((i : Int) :: r1)) (r2 + c * o) (bO 26120 ((i : Int) :: r1)) else stB us ws so N (i + 1) (bD 4104 b) l (bO 4104 b)) := by
  have H := c_impl_hasTest so i (by omega)
  rw [hb] at H
  have hin : (i : Int) < (N : Int) := by omega
  have w1 : wr ((i : Int) + 1) = ((i + 1 : Nat) : Int) := by rw [wr_id (by omega) (by omega)]; omega
  obtain ⟨c', q, c1, c2, _⟩ := cA_at (us := us) (a := i) (by omega) (by omega)
  rw [Int.toNat_natCast] at c2
  have cc : c' = c := by rw [c2, hc]
  subst cc
  have oi := or_i (so := so) (a := i) hso (by omega) (by omega)
  rw [Int.toNat_natCast] at oi
  have n0 : ¬ ((i : Int) < 0) := by omega
  have b1 : 0 ≤ c' * o := Int.mul_nonneg (by omega) o9.1
  have b2 : c' * o ≤ 9 * 7776 := Int.mul_le_mul c9.2 o9.2 o9.1 (by omega)
  have w2 : wr (c' * o) = c' * o := wr_id (by omega) (by omega)
  have w3 : wr (r2 + c' * o) = r2 + c' * o := wr_id (by omega) (by omega)
  have lb : 1 + r1.length ≤ bound := by unfold bound; omega
  have lb' : r1.length + 1 ≤ bound := by unfold bound; omega
  have lb1 : 1 ≤ bound := by unfold bound; omega
  have sl : (so : Int) < ws.length := by
    by_cases h : (so : Int) < ws.length
    · exact h
    · simp only [atI, if_pos (Int.natCast_nonneg so)] at ho
      have : (ws.map DV.i)[(so : Int).toNat]? = none := List.getElem?_eq_none (by simp; omega)
      rw [this] at ho; cases ho
  have sl' : so < ws.length := by omega
  have ac : 1 + r1.length = r1.length + 1 := by omega
  generalize so ||| 2 ^ i = so2 at *
  unfold bR at C
  unfold stB bD bO
  by_cases hb0 : b = []
  · subst hb0
    by_cases hr0 : r1 = []
    · subst hr0
      simp at C
      simp [F_impl_bestBehind_L0, ren_nil, hin, H, w1, c1, oi, n0, C, ho, sl, sl', w2, w3, lb1, -Int.natCast_add]
    · rw [if_neg hr0] at C
      simp [F_impl_bestBehind_L0, ren_nil, hin, H, w1, c1, oi, n0, C, ho, sl, sl', w2, w3, lb, lb', ac, hr0, -Int.natCast_add]
  · have bl : 0 < b.length := List.length_pos_iff.2 hb0
    by_cases hlt : r2 + c' * o < l
    · by_cases hr0 : r1 = []
      · subst hr0
        simp at C
        rcases hK with rfl | rfl <;> simp [F_impl_bestBehind_L0, ren_nil, hb0, hin, H, w1, c1, oi, n0, C, ho, sl, sl', w2, w3, lb1, hlt, -Int.natCast_add]
      · rw [if_neg hr0] at C
        rcases hK with rfl | rfl <;> simp [F_impl_bestBehind_L0, ren_nil, hb0, hin, H, w1, c1, oi, n0, C, ho, sl, sl', w2, w3, lb, lb', ac, hr0, hlt, -Int.natCast_add]
    · by_cases hr0 : r1 = []
      · subst hr0
        simp at C
        rcases hK with rfl | rfl <;> simp [F_impl_bestBehind_L0, ren_nil, hb0, hin, H, w1, c1, oi, n0, C, ho, sl, sl', w2, w3, lb1, hlt, -Int.natCast_add]
      · rw [if_neg hr0] at C
        rcases hK with rfl | rfl <;> simp [F_impl_bestBehind_L0, ren_nil, hb0, hin, H, w1, c1, oi, n0, C, ho, sl, sl', w2, w3, lb, lb', ac, hr0, hlt, -Int.natCast_add]
end
section
attribute [-simp] DV.cells sliceD
attribute [local simp] cells_st cells_sl cells_i cells_y cells_b cells_s cells_w
theorem bb_loop {us t : List T} (h1 : tsOk us = true) {ws : List Int} {so : Nat} (hso : so < 2 ^ us.length) {rec : Nat → List Int × Int} (hw : atI (ws.map .i) so = some (.i (owT us t so)))
    (hr : ∀ k, k < us.length → so.testBit k = false → call lf n_impl_bestBehind [.sl 0 (us.map e2), .sl 0 (ws.map .i), .i ((so ||| 2 ^ k : Nat) : Int)] = some (.tup [bR (rec (so ||| 2 ^ k)).1, .i (rec (so ||| 2 ^ k)).2], []) ∧
      (rec (so ||| 2 ^ k)).1.length ≤ 5 ∧ 0 ≤ (rec (so ||| 2 ^ k)).2 ∧ (rec (so ||| 2 ^ k)).2 ≤ 1000000) :
    ∀ (j i K : Nat), i + j = us.length → (K = 4104 ∨ K = 26120) →
    ex lf F_impl_bestBehind_W0 (stB us ws so us.length i (bD K (bbL us t rec so i).1) (bbL us t rec so i).2 (bO K (bbL us t rec so i).1)) =
    some (.exit 0, stB us ws so us.length us.length (bD 4104 (bbL us t rec so us.length).1) (bbL us t rec so us.length).2 (bO 4104 (bbL us t rec so us.length).1)) := by
  have h' := tsOk_iff.1 h1
  obtain ⟨p1, p2, p3⟩ := pow5 (m := us.length) (by omega) (by omega)
  simp only [Int.toNat_natCast] at p1 p2 p3
  intro j
  induction j with
  | zero =>
    intro i K hij hK
    have : i = us.length := by omega
    subst this
    rw [w_impl_bestBehind_0]
    generalize bbL us t rec so us.length = P
    obtain ⟨b, l⟩ := P
    unfold stB bD bO
    by_cases hb0 : b = []
    · simp [F_impl_bestBehind_L0, ren_nil, hb0]
    · rcases hK with rfl | rfl <;> simp [F_impl_bestBehind_L0, ren_nil, hb0]
  | succ j ih =>
    intro i K hij hK
    rw [w_impl_bestBehind_0]
    cases hb : so.testBit i with
    | true =>
      have e : bbL us t rec so (i + 1) = bbL us t rec so i := by rw [bbL, if_pos hb]
      have ih := ih (i + 1) 4104 (by omega) (.inl rfl)
      rw [e] at ih
      rw [bb_no hK (by omega) rfl (by omega) hb]
      exact ih
    | false =>
      obtain ⟨r1, r2, r3, r4⟩ := hr i (by omega) hb
      have cn := cA_nn h'.2 i
      have ob := owT_bound h1 t so
      have k6 := p6 (n := us.length) (by omega)
      rw [bb_yes hK (by omega) rfl (by omega) (by omega) hb r2 r1 rfl hw (by omega) (by omega) (by omega)]
      have e : bbL us t rec so (i + 1) = if (bbL us t rec so i).1 = [] ∨ (rec (so ||| 2 ^ i)).2 + cA us i * owT us t so < (bbL us t rec so i).2 then ((i : Int) :: (rec (so ||| 2 ^ i)).1, (rec (so ||| 2 ^ i)).2 + cA us i * owT us t so) else bbL us t rec so i := by
        rw [bbL, hb, if_neg (by simp)]
      have ih1 := ih (i + 1) 26120 (by omega) (.inr rfl)
      have ih2 := ih (i + 1) 4104 (by omega) (.inl rfl)
      rw [e] at ih1 ih2
      by_cases hc : (bbL us t rec so i).1 = [] ∨ (rec (so ||| 2 ^ i)).2 + cA us i * owT us t so < (bbL us t rec so i).2
      · rw [if_pos hc] at ih1
        rw [if_pos hc]
        exact ih1
      · rw [if_neg hc] at ih2
        rw [if_neg hc]
        exact ih2
theorem owL_at {us t : List T} {N so : Nat} (h : so < N) : atI ((owL us t N N).map .i) so = some (.i (owT us t so)) := by
  simp only [atI, if_pos (Int.natCast_nonneg so)]
  show ((owL us t N N).map DV.i)[(so : Int).toNat]? = _
  simp [owL, h]
theorem bb_ret {us : List T} {ws : List Int} {so : Nat} {b : List Int} {l : Int} (L : ex lf F_impl_bestBehind_W0 (stB us ws so us.length 0 .nil 0 []) = some (.exit 0, stB us ws so us.length us.length (bD 4104 b) l (bO 4104 b))) :
    call lf n_impl_bestBehind [.sl 0 (us.map e2), .sl 0 (ws.map .i), .i so] = some (.tup [bR b, .i l], []) := by
  unfold stB at L
  rw [call_k lf n_impl_bestBehind _ (F := F_impl_bestBehind) rfl rfl]
  unfold bD bO at L
  unfold bR
  by_cases hb0 : b = []
  · rw [if_pos hb0, if_pos hb0] at L
    rw [if_pos hb0]
    simp at L
    simp [F_impl_bestBehind, L]
  · rw [if_neg hb0, if_neg hb0] at L
    rw [if_neg hb0]
    simp at L
    simp [F_impl_bestBehind, L]
theorem c_impl_bestBehind {us t : List T} (h1 : tsOk us = true) : ∀ (f so : Nat), so < 2 ^ us.length → uc so us.length = f →
    call lf n_impl_bestBehind [.sl 0 (us.map e2), .sl 0 ((owL us t (2 ^ us.length) (2 ^ us.length)).map .i), .i so] = some (.tup [bR (bbF us t f so).1, .i (bbF us t f so).2], []) := by
  have h' := tsOk_iff.1 h1
  intro f
  induction f with
  | zero =>
    intro so hso hu
    have ua := uc_all hu
    have e : ∀ i, i ≤ us.length → bbL us t (bbF us t 0) so i = ([], 0) := by
      intro i
      induction i with
      | zero => intro _; rfl
      | succ i ih => intro hi; rw [bbL, if_pos (ua i (by omega))]; exact ih (by omega)
    have L := bb_loop h1 hso (rec := bbF us t 0) (t := t) (owL_at hso) (fun k hk hb => by rw [ua k hk] at hb; cases hb) us.length 0 4104 (by omega) (.inl rfl)
    rw [e us.length (Nat.le_refl _)] at L
    exact bb_ret L
  | succ f ih =>
    intro so hso hu
    have L := bb_loop h1 hso (rec := bbF us t f) (t := t) (owL_at hso) (fun k hk hb => by
      have u := uc_or hk hb
      have lt := or_lt2 hso hk
      have B := bbF_ok (us := us) (t := t) (f := f) (so := so ||| 2 ^ k) (by omega)
      obtain ⟨B1, B2, B3, _⟩ := B
      have ul := uc_le (so ||| 2 ^ k) us.length
      have n0 := cC_nn h1 t (so ||| 2 ^ k) (bbF us t f (so ||| 2 ^ k)).1
      have n1 := cC_le h1 t (so ||| 2 ^ k) (bbF us t f (so ||| 2 ^ k)).1
      have n2 := cO_bd h'.2 (bbF us t f (so ||| 2 ^ k)).1
      have k6 := p6 (n := us.length) (by omega)
      have n3 : 6 ^ us.length * cO us (bbF us t f (so ||| 2 ^ k)).1 ≤ 7776 * 45 := Int.mul_le_mul k6.2 (by omega) n2.1 (by omega)
      exact ⟨ih _ lt (by omega), by omega, by omega, by omega⟩) us.length 0 4104 (by omega) (.inl rfl)
    exact bb_ret L
def boOk (us t : List T) : Bool := tsOk us && tmOk us.length t
theorem boF_ne {us : List T} (h1 : tsOk us = true) (t : List T) : (boF us t).1 ≠ [] := by
  have h' := tsOk_iff.1 h1
  obtain ⟨_, h2, _⟩ := boF_ok us t
  intro h0
  rw [h0] at h2
  simp at h2; omega
def boL (us t : List T) : List Int := if boOk us t = true then (boF us t).1 else []
def boN (us t : List T) : Int := if boOk us t = true then (boF us t).2 else -1
theorem c_impl_BestOrder (us t : List T) (ha : (us.length : Int) < 1099511627776) (hb : (t.length : Int) < 1099511627776) :
    call lf n_impl_BestOrder [.sl 0 (us.map e2), .sl 0 (t.map e2)] = some (.tup [.fr 1 ((boL us t).map .i), .i (boN us t)], []) := by
  rw [call_k lf n_impl_BestOrder _ (F := F_impl_BestOrder) rfl rfl]
  have C1 := c_impl_TestsOk us ha
  have C2 := c_impl_TermOk us.length t hb
  unfold boL boN boOk
  cases h1 : tsOk us with
  | false => rw [h1] at C1; simp [F_impl_BestOrder, C1]
  | true =>
    rw [h1] at C1
    cases h2 : tmOk us.length t with
    | false => rw [h2] at C2; simp [F_impl_BestOrder, C1, C2]
    | true =>
      rw [h2] at C2
      have C3 := c_impl_trueStates h2
      have C4 := c_impl_openWeights h1 h2
      have C5 := c_impl_bestBehind (t := t) h1 us.length 0 (Nat.pow_pos (by omega)) (uc_zero _)
      rw [show bbF us t us.length 0 = boF us t from rfl] at C5
      have ne := boF_ne h1 t
      unfold bR at C5
      rw [if_neg ne] at C5
      simp only [Int.natCast_zero] at C5
      have ll := owL_len us t (2 ^ us.length) (2 ^ us.length)
      have t1 : List.take (2 ^ us.length) ((owL us t (2 ^ us.length) (2 ^ us.length)).map DV.i) = (owL us t (2 ^ us.length) (2 ^ us.length)).map .i := List.take_of_length_le (by simp [ll])
      simp [F_impl_BestOrder, C1, C2, C3, C4, C5, ll, t1]
end
section
attribute [-simp] DV.cells sliceD
attribute [local simp] cells_st cells_sl cells_i cells_y cells_b cells_s cells_w
def stS (us : List T) (tab : Nat) (p : List Int) (q : Nat) (b : List Int) (l : Int) (k : Nat) : LS :=
  ⟨[(0, .sl 0 (us.map e2)), (1, .i tab), (2, .sl 0 (p.map .i)), (3, .sl q (b.map .i)), (4, .i l), (13, .i k)], []⟩
def stSI (us : List T) (tab : Nat) (p : List Int) (q : Nat) (b : List Int) (l : Int) (k : Nat) (s : Bool) (j : Nat) : LS :=
  ⟨[(0, .sl 0 (us.map e2)), (1, .i tab), (2, .sl 0 (p.map .i)), (3, .sl q (b.map .i)), (4, .i l), (13, .i k), (14, .b s), (15, .i j)], []⟩
theorem seen_loop {us : List T} {tab q : Nat} {p b : List Int} {l : Int} {k : Nat} (hp : p.length ≤ 5) :
    ex lf F_spec_l4Search_W1 (stSI us tab p q b l k false 0) = some (.exit 2, stSI us tab p q b l k (decide ((k : Int) ∈ p)) p.length) := by
  have L := loop_count (lf := lf) (L := F_spec_l4Search_L1) p.length (fun j => stSI us tab p q b l k (decide ((k : Int) ∈ p.take j)) j) (x := .exit 2) (R := stSI us tab p q b l k (decide ((k : Int) ∈ p)) p.length) (fun j hj => by
    have w1 : wr ((j : Int) + 1) = ((j + 1 : Nat) : Int) := by rw [wr_id (by omega) (by omega)]; omega
    have hj' : (j : Int) < p.length := by omega
    have a1 : atI (p.map DV.i) j = some (.i p[j]) := by simp only [atI, if_pos (Int.natCast_nonneg j)]; show (p.map DV.i)[(j : Int).toNat]? = _; simp [hj]
    have tk : p.take (j + 1) = p.take j ++ [p[j]] := List.take_succ_eq_append_getElem hj
    have e : decide ((k : Int) ∈ p.take (j + 1)) = (decide ((k : Int) ∈ p.take j) || p[j] == (k : Int)) := by
      have e' : (p[j] == (k : Int)) = true ↔ (k : Int) = p[j] := by rw [beq_iff_eq]; exact eq_comm
      rw [tk, Bool.eq_iff_iff, Bool.or_eq_true, e']
      simp only [List.mem_append, List.mem_singleton, decide_eq_true_eq]
    rw [e]
    unfold stSI
    cases hs : decide ((k : Int) ∈ p.take j) with
    | true => simp [F_spec_l4Search_L1, hj, hj', w1, -Int.natCast_add]
    | false => simp [F_spec_l4Search_L1, hj, hj', a1, w1, -Int.natCast_add]) (by
    rw [List.take_length]
    unfold stSI
    simp [F_spec_l4Search_L1]) (by simp)
  simp only [List.take_zero, List.not_mem_nil, decide_false] at L
  exact L
theorem srch_no {us : List T} {tab q : Nat} {p b : List Int} {l : Int} {k : Nat} (hp : p.length ≤ 5) (hu : us.length ≤ 5) (hk : k < us.length) (hm : (k : Int) ∈ p) :
    ex lf F_spec_l4Search_L0 (stS us tab p q b l k) = some (.normal, stS us tab p q b l (k + 1)) := by
  have L := seen_loop (us := us) (tab := tab) (q := q) (p := p) (b := b) (l := l) (k := k) hp
  rw [decide_eq_true hm] at L
  have w1 : wr ((k : Int) + 1) = ((k + 1 : Nat) : Int) := by rw [wr_id (by omega) (by omega)]; omega
  have hk' : (k : Int) < us.length := by omega
  unfold stS
  unfold stSI at L
  simp only [Int.natCast_zero] at L
  simp [F_spec_l4Search_L0, hk, hk', w1, L, -Int.natCast_add]
theorem srch_yes {us : List T} {tab q q' : Nat} {p b b' : List Int} {l l' : Int} {k : Nat} (hq : q = 0 ∨ q = 2) (hq' : q' = 0 ∨ q' = 2) (hp : p.length ≤ 5) (hu : us.length ≤ 5) (hk : k < us.length) (hm : (k : Int) ∉ p)
    (C : call lf n_spec_l4Search [.sl 0 (us.map e2), .i tab, .sl 0 ((p ++ [(k : Int)]).map .i), .sl 0 (b.map .i), .i l] = some (.tup [.sl q' (b'.map .i), .i l'], [])) :
    ex lf F_spec_l4Search_L0 (stS us tab p q b l k) = some (.normal, stS us tab p 2 b' l' (k + 1)) := by
  have L := seen_loop (us := us) (tab := tab) (q := q) (p := p) (b := b) (l := l) (k := k) hp
  rw [decide_eq_false hm] at L
  have w1 : wr ((k : Int) + 1) = ((k + 1 : Nat) : Int) := by rw [wr_id (by omega) (by omega)]; omega
  have hk' : (k : Int) < us.length := by omega
  have lb : p.length ≤ bound := by unfold bound; omega
  have lb1 : p.length + 1 ≤ bound := by unfold bound; omega
  have lb2 : 1 ≤ bound := by unfold bound; omega
  unfold stS
  unfold stSI at L
  simp only [Int.natCast_zero] at L
  rw [List.map_append] at C
  simp only [List.map_cons, List.map_nil] at C
  have t1 : List.take (p.length + 1) (p.map DV.i ++ [.i k]) = p.map .i ++ [.i k] := List.take_of_length_le (by simp)
  rcases hq with rfl | rfl <;> rcases hq' with rfl | rfl <;> simp [F_spec_l4Search_L0, hk, hk', w1, L, lb, lb1, lb2, t1, C, -Int.natCast_add]
def srQ : Nat → Nat
  | 0 => 0
  | _ + 1 => 2
theorem srQ_or (f : Nat) : srQ f = 0 ∨ srQ f = 2 := by cases f <;> simp [srQ]
theorem c_spec_l4Search {us t : List T} (h1 : tsOk us = true) (h2 : tmOk us.length t = true) : ∀ (f : Nat) (p b : List Int) (l : Int), orS us.length 0 p = true → uc (setO 0 p) us.length = f → p.length + f = us.length →
    call lf n_spec_l4Search [.sl 0 (us.map e2), .i (tabT us.length t), .sl 0 (p.map .i), .sl 0 (b.map .i), .i l] =
    some (.tup [.sl (srQ f) ((comb us t p (b, l) (bbF us t f (setO 0 p))).1.map .i), .i (comb us t p (b, l) (bbF us t f (setO 0 p))).2], []) := by
  have h' := tsOk_iff.1 h1
  intro f
  induction f with
  | zero =>
    intro p b l hp hu hl
    have hor : orOk us.length p = true := orOk_iff.2 ⟨h'.1, by omega, hp⟩
    have C5 := c_spec_l4None (m := us.length) (by omega) (by omega)
    rw [Int.toNat_natCast] at C5
    have C6 := c_spec_l1Power (n := us.length) (by omega)
    have C7 := c_walk h1 h2 hor
    have nl := non_len us.length
    have t1 : List.take us.length ((non us.length).map DV.i) = (non us.length).map .i := List.take_of_length_le (by simp [nl])
    have pl : ((p.length : Int) == us.length) = true := beq_iff_eq.2 (by omega)
    have pl' : p.length = us.length := by omega
    have e : comb us t p (b, l) (bbF us t 0 (setO 0 p)) = if l < 0 ∨ avO us t p < l then (p, avO us t p) else (b, l) := by
      unfold comb
      rw [avO_cC]
      simp [bbF]
    rw [e, call_k lf n_spec_l4Search _ (F := F_spec_l4Search) rfl rfl]
    by_cases c1 : l < 0
    · simp [F_spec_l4Search, pl, pl', C5, C6, C7, nl, t1, c1, srQ]
    · by_cases c2 : avO us t p < l
      · simp [F_spec_l4Search, pl, pl', C5, C6, C7, nl, t1, c1, c2, srQ]
      · simp [F_spec_l4Search, pl, pl', C5, C6, C7, nl, t1, c1, c2, srQ]
  | succ f ih =>
    intro p b l hp hu hl
    have hmem : ∀ o ∈ p, 0 ≤ o := fun o ho => ((orS_mem hp o ho).1).1
    have mem : ∀ k : Nat, (k : Int) ∈ p ↔ (setO 0 p).testBit k = true := fun k => by
      rw [setO_bit (so := 0) (k := k) hmem]; simp
    have OK : ∀ i, i ≤ us.length → (bbL us t (bbF us t f) (setO 0 p) i).1 ≠ [] → 0 ≤ cC us t 0 p + (bbL us t (bbF us t f) (setO 0 p) i).2 := by
      intro i hi hne
      obtain ⟨_, i2, _⟩ := bbL_ok (us := us) (t := t) (rec := bbF us t f) (so := setO 0 p) (f := f) (fun k hk hb => bbF_ok (by have := uc_or hk hb; omega)) i hi
      have := (i2 hne).2.2
      have := cC_nn h1 t 0 p
      have := cC_nn h1 t (setO 0 p) (bbL us t (bbF us t f) (setO 0 p) i).1
      omega
    -- what is best after some of the tests
    have step : ∀ (i q : Nat), i < us.length → (q = 0 ∨ q = 2) → ∃ q', (q' = 0 ∨ q' = 2) ∧
        ((i + 1 = us.length → (∃ k, k < us.length ∧ (setO 0 p).testBit k = false) → True) ∧
        ex lf F_spec_l4Search_L0 (stS us (tabT us.length t) p q (combL us t p (b, l) (bbL us t (bbF us t f) (setO 0 p) i)).1 (combL us t p (b, l) (bbL us t (bbF us t f) (setO 0 p) i)).2 i) =
          some (.normal, stS us (tabT us.length t) p (if (setO 0 p).testBit i then q else 2) (combL us t p (b, l) (bbL us t (bbF us t f) (setO 0 p) (i + 1))).1 (combL us t p (b, l) (bbL us t (bbF us t f) (setO 0 p) (i + 1))).2 (i + 1))) := by
      intro i q hi hq
      refine ⟨2, .inr rfl, fun _ _ => trivial, ?_⟩
      cases hb : (setO 0 p).testBit i with
      | true =>
        have e : bbL us t (bbF us t f) (setO 0 p) (i + 1) = bbL us t (bbF us t f) (setO 0 p) i := by rw [bbL, if_pos hb]
        rw [e]
        exact srch_no (by omega) (by omega) hi ((mem i).2 hb)
      | false =>
        have hn : (i : Int) ∉ p := fun h => by have := (mem i).1 h; rw [hb] at this; cases this
        have cs := comb_step (us := us) (t := t) (rec := bbF us t f) (p := p) (bl := (b, l)) (i := i) hb (OK i (by omega))
        have so1 : setO 0 (p ++ [(i : Int)]) = setO 0 p ||| 2 ^ i := by rw [setO_app]; simp [setO]
        have hp1 : orS us.length 0 (p ++ [(i : Int)]) = true := by
          rw [orS_app, hp, Bool.true_and]
          exact orS_cons.2 ⟨⟨by omega, by omega⟩, by simpa using hb, rfl⟩
        have u1 := uc_or hi hb
        have I := ih (p ++ [(i : Int)]) (combL us t p (b, l) (bbL us t (bbF us t f) (setO 0 p) i)).1 (combL us t p (b, l) (bbL us t (bbF us t f) (setO 0 p) i)).2 hp1 (by rw [so1]; omega) (by simp; omega)
        rw [so1] at I
        have ee : ((combL us t p (b, l) (bbL us t (bbF us t f) (setO 0 p) i)).1, (combL us t p (b, l) (bbL us t (bbF us t f) (setO 0 p) i)).2) = combL us t p (b, l) (bbL us t (bbF us t f) (setO 0 p) i) := rfl
        rw [ee, cs] at I
        have := srch_yes (us := us) (tab := tabT us.length t) (q := q) (p := p) (k := i) hq (srQ_or f) (by omega) (by omega) hi hn I
        simpa using this
    have L : ∀ (j i q : Nat), i + j = us.length → (q = 0 ∨ q = 2) → ((∃ k, i ≤ k ∧ k < us.length ∧ (setO 0 p).testBit k = false) ∨ q = 2) →
        ex lf F_spec_l4Search_W0 (stS us (tabT us.length t) p q (combL us t p (b, l) (bbL us t (bbF us t f) (setO 0 p) i)).1 (combL us t p (b, l) (bbL us t (bbF us t f) (setO 0 p) i)).2 i) =
        some (.exit 0, stS us (tabT us.length t) p 2 (combL us t p (b, l) (bbL us t (bbF us t f) (setO 0 p) us.length)).1 (combL us t p (b, l) (bbL us t (bbF us t f) (setO 0 p) us.length)).2 us.length) := by
      intro j
      induction j with
      | zero =>
        intro i q hij hq hx
        have : i = us.length := by omega
        subst this
        have hq2 : q = 2 := by
          rcases hx with ⟨k, a, b, _⟩ | h
          · omega
          · exact h
        subst hq2
        rw [w_spec_l4Search_0]
        unfold stS
        simp [F_spec_l4Search_L0]
      | succ j ihj =>
        intro i q hij hq hx
        rw [w_spec_l4Search_0]
        obtain ⟨_, _, _, s⟩ := step i q (by omega) hq
        rw [s]
        simp only
        cases hb : (setO 0 p).testBit i with
        | true =>
          simp only [if_true]
          refine ihj (i + 1) q (by omega) hq ?_
          rcases hx with ⟨k, a, b, c⟩ | h
          · left
            refine ⟨k, ?_, b, c⟩
            have : k ≠ i := by rintro rfl; rw [hb] at c; cases c
            omega
          · exact .inr h
        | false =>
          simp only [Bool.false_eq_true, if_false]
          exact ihj (i + 1) 2 (by omega) (.inr rfl) (.inr rfl)
    have ex0 : ∃ k, 0 ≤ k ∧ k < us.length ∧ (setO 0 p).testBit k = false := by
      have : ∀ n, 0 < uc (setO 0 p) n → ∃ k, k < n ∧ (setO 0 p).testBit k = false := by
        intro n
        induction n with
        | zero => intro h; simp [uc] at h
        | succ n ih =>
          intro h
          cases hb : (setO 0 p).testBit n with
          | false => exact ⟨n, by omega, hb⟩
          | true =>
            simp only [uc, hb, if_true, Nat.add_zero] at h
            obtain ⟨k, k1, k2⟩ := ih h
            exact ⟨k, by omega, k2⟩
      obtain ⟨k, k1, k2⟩ := this us.length (by omega)
      exact ⟨k, Nat.zero_le k, k1, k2⟩
    have L0 := L us.length 0 0 (by omega) (.inl rfl) (.inl ex0)
    have B := bbF_ok (us := us) (t := t) (f := f + 1) (so := setO 0 p) hu
    have ne : (bbF us t (f + 1) (setO 0 p)).1 ≠ [] := by
      intro h0
      have := B.2.1
      rw [h0] at this; simp at this
    have e0 : combL us t p (b, l) (bbL us t (bbF us t f) (setO 0 p) 0) = (b, l) := by simp [combL, bbL]
    have e1 : combL us t p (b, l) (bbL us t (bbF us t f) (setO 0 p) us.length) = comb us t p (b, l) (bbF us t (f + 1) (setO 0 p)) := by
      show combL us t p (b, l) (bbF us t (f + 1) (setO 0 p)) = _
      unfold combL
      rw [if_neg ne]
    rw [e0, e1] at L0
    generalize comb us t p (b, l) (bbF us t (f + 1) (setO 0 p)) = R at *
    unfold stS at L0
    simp only [Int.natCast_zero] at L0
    have pl : ((p.length : Int) == us.length) = false := beq_eq_false_iff_ne.2 (by omega)
    have pl' : ¬ p.length = us.length := by omega
    rw [call_k lf n_spec_l4Search _ (F := F_spec_l4Search) rfl rfl]
    simp [F_spec_l4Search, pl, pl', L0, srQ]
theorem c_spec_BestOrder (us t : List T) (ha : (us.length : Int) < 1099511627776) (hb : (t.length : Int) < 1099511627776) :
    call lf n_spec_BestOrder [.sl 0 (us.map e2), .sl 0 (t.map e2)] = some (.tup [if boOk us t = true then .sl 2 ((boL us t).map .i) else .fr 1 [], .i (boN us t)], []) := by
  rw [call_k lf n_spec_BestOrder _ (F := F_spec_BestOrder) rfl rfl]
  have C1 := c_spec_TestsOk us ha
  have C2 := c_spec_TermOk us.length t hb
  unfold boL boN boOk
  cases h1 : tsOk us with
  | false => rw [h1] at C1; simp [F_spec_BestOrder, C1]
  | true =>
    rw [h1] at C1
    cases h2 : tmOk us.length t with
    | false => rw [h2] at C2; simp [F_spec_BestOrder, C1, C2]
    | true =>
      rw [h2] at C2
      have h' := tsOk_iff.1 h1
      have C4 := c_spec_l3Table h2
      have C5 := c_spec_l4Search h1 h2 us.length [] [] (-1) rfl (uc_zero _) (by simp)
      have ne := boF_ne h1 t
      have e : comb us t [] ([], -1) (bbF us t us.length (setO 0 [])) = boF us t := by
        unfold comb
        have : bbF us t us.length (setO 0 []) = boF us t := rfl
        rw [this]
        simp [cC]
      have q2 : srQ us.length = 2 := by
        have : us.length ≠ 0 := by omega
        cases h : us.length with
        | zero => omega
        | succ n => rfl
      rw [e, q2] at C5
      simp only [List.map_nil] at C5
      simp [F_spec_BestOrder, C1, C2, C4, C5]
end
section
attribute [-simp] DV.cells
attribute [local simp] cells_st cells_sl cells_i cells_y cells_b cells_s
theorem c_sameInts_i (N : List Int) (ha : (N.length : Int) ≤ 1048576) : call lf n_laws_sameInts [.sl 0 (N.map .i), .sl 0 (N.map .i)] = some (.b true, []) := by
  rw [call_k lf n_laws_sameInts _ (F := F_laws_sameInts) rfl rfl]
  have lm : (N.map DV.i).length = N.length := by simp
  have A : ∀ i, (hi : i < N.length) → atI (N.map DV.i) i = some (.i N[i]) := fun i hi => by simp [atI, hi]
  generalize N.map DV.i = es at *
  have L : ex lf F_laws_sameInts_W0 ⟨[(0, .sl 0 es), (1, .sl 0 es), (5, .i 0)], []⟩ = some (.exit 0, ⟨[(0, .sl 0 es), (1, .sl 0 es), (5, .i N.length)], []⟩) := by
    refine loop_count N.length (fun i => ⟨[(0, .sl 0 es), (1, .sl 0 es), (5, .i i)], []⟩) (fun i hi => ?_) ?_ (by simp)
    · have w1 : wr ((i : Int) + 1) = (i : Int) + 1 := wr_id (by omega) (by omega)
      have q := A i hi
      generalize N[i] = y at *
      simp [F_laws_sameInts_L0, hi, q, w1, lm]
    · simp [F_laws_sameInts_L0, lm]
  simp [F_laws_sameInts, L, lm]
def kk (i : Nat) : Nat := if i = 0 then 24072 else 29704
end
section
attribute [-simp] DV.cells
attribute [local simp] cells_st cells_sl cells_i cells_y cells_b cells_s
def stO1 (us t : List T) (ys : List Nat) (w : List Int) (n : Int) (K : Nat) (os : List Int) (k : Nat) : LS :=
  ⟨[(1, .sl 0 (ys.map .y)), (5, .sl 1 (us.map e2)), (6, .sl 1 (t.map e2)), (7, .own 17417 w.length 0 w.length), (8, .i n), (11, .own K k 0 k), (12, .i k)], [(17417, w.map .i), (K, os.map .i)]⟩
/-- where the next test is put -/
theorem place {ys : List Nat} (hy : ∀ y ∈ ys, y < 256) {i : Nat} (hi : i < 1000) (hn : 0 < ys.length) :
    ∃ (v : Nat) (a : Nat), a ≤ i ∧ atI (ys.map .y) ((i : Int).tmod ys.length) = some (.y v) ∧ (v : Int).tmod ((i : Int) + 1) = a ∧ 0 ≤ (i : Int).tmod ys.length ∧ (i : Int).tmod ys.length < ys.length := by
  have b := tmod_bound (p := (i : Int)) (l := ys.length) (by omega) (by omega)
  refine ⟨ys.getD ((i : Int).tmod ys.length).toNat 0, ((ys.getD ((i : Int).tmod ys.length).toNat 0 : Nat) : Int).tmod ((i : Int) + 1) |>.toNat, ?_, atI_y b.1 b.2, ?_, b⟩
  · have := tmod_bound (p := ((ys.getD ((i : Int).tmod ys.length).toNat 0 : Nat) : Int)) (l := (i : Int) + 1) (by omega) (by omega)
    omega
  · have := tmod_bound (p := ((ys.getD ((i : Int).tmod ys.length).toNat 0 : Nat) : Int)) (l := (i : Int) + 1) (by omega) (by omega)
    omega
set_option maxHeartbeats 4000000 in
theorem other_loop (us t : List T) (ys : List Nat) (hy : ∀ y ∈ ys, y < 256) (hyl : (ys.length : Int) ≤ 1048576) (w : List Int) (n : Int) (hu : us.length ≤ 5) (j : Nat) : ∀ (i K : Nat) (os : List Int), (K = 32776 ∨ K = 44040) → i + j = us.length → os.Perm (rng i) →
    ∃ ot : List Int, ot.Perm (rng us.length) ∧ ex lf F_laws_FnBestOrder_W0 (stO1 us t ys w n K os i) = some (.exit 0, stO1 us t ys w n 32776 ot us.length) := by
  induction j with
  | zero =>
    intro i K os hK h2 h3
    have : i = us.length := by omega
    subst this
    have lo := perm_len h3
    refine ⟨os, h3, ?_⟩
    rw [w_laws_FnBestOrder_0]
    unfold stO1
    rcases hK with rfl | rfl <;> simp [F_laws_FnBestOrder_L0, lo]
  | succ j ih =>
    intro i K os hK h2 h3
    have lo := perm_len h3
    have go : ∀ a : Nat, a ≤ i → (∃ ot : List Int, ot.Perm (rng us.length) ∧ ∃ x y, os = x ++ y ∧ x.length = a ∧ ex lf F_laws_FnBestOrder_W0 (stO1 us t ys w n 44040 (x ++ (i : Int) :: y) (i + 1)) = some (.exit 0, stO1 us t ys w n 32776 ot us.length)) := by
      intro a ha
      obtain ⟨x, y, rfl, rfl⟩ : ∃ x y, os = x ++ y ∧ x.length = a := ⟨os.take a, os.drop a, (List.take_append_drop a os).symm, by simp; omega⟩
      obtain ⟨ot, o1, o2⟩ := ih (i + 1) 44040 (x ++ (i : Int) :: y) (.inr rfl) (by omega) (ins_perm h3)
      exact ⟨ot, o1, x, y, rfl, rfl, o2⟩
    have hlt : (i : Int) < us.length := by omega
    have w1 : wr ((i : Int) + 1) = ((i + 1 : Nat) : Int) := by rw [wr_id (by omega) (by omega)]; omega
    have main : ∀ (a : Nat) (v : Nat), a ≤ i → (ys = [] ∧ a = 0 ∨ 0 < ys.length ∧ atI (ys.map .y) ((i : Int).tmod ys.length) = some (.y v) ∧ (v : Int).tmod ((i : Int) + 1) = a ∧ 0 ≤ (i : Int).tmod ys.length ∧ (i : Int).tmod ys.length < ys.length) →
        ∃ ot : List Int, ot.Perm (rng us.length) ∧ ex lf F_laws_FnBestOrder_W0 (stO1 us t ys w n K os i) = some (.exit 0, stO1 us t ys w n 32776 ot us.length) := by
      intro a v ha hc
      obtain ⟨ot, o1, x, y, rfl, rfl, o2⟩ := go a ha
      refine ⟨ot, o1, ?_⟩
      have lxy : x.length + y.length = i := by simpa using lo
      have c1 : x.length ≤ bound := by unfold bound; omega
      have c2 : x.length + 1 ≤ bound := by unfold bound; omega
      have c3 : i + 1 ≤ bound := by unfold bound; omega
      have xi : x.length ≤ i := by omega
      have xi' : (x.length : Int) ≤ i := by omega
      have t1 : ((x ++ y).map DV.i).take x.length = x.map .i := by simp
      have t2 : ((x ++ y).map DV.i).drop x.length = y.map .i := by simp
      have t4 : List.take i ((x ++ y).map DV.i) = (x ++ y).map DV.i := List.take_of_length_le (by simp; omega)
      have hL : ((x ++ y).map DV.i).length = i := by simp; omega
      have e1 : x.length + 1 + y.length = i + 1 := by omega
      have w2 : wr ((i : Int) + 1) = (i : Int) + 1 := wr_id (by omega) (by omega)
      unfold stO1 at o2
      simp only [Int.natCast_add, Int.natCast_one, List.map_append, List.map_cons] at o2
      rw [w_laws_FnBestOrder_0]
      unfold stO1
      generalize (x ++ y).map DV.i = L at *
      rcases hc with ⟨rfl, ha0⟩ | ⟨y0, q1, q2, q3, q4⟩
      · have hx : x = [] := List.eq_nil_of_length_eq_zero ha0
        subst hx
        simp at lxy t1 t2 o2
        subst t2
        have b1 : 1 ≤ bound := by unfold bound; omega
        have ac : 1 + i = i + 1 := by omega
        have ac2 : 1 + y.length = i + 1 := by omega
        rcases hK with rfl | rfl <;> simp [F_laws_FnBestOrder_L0, hlt, lo, w2, hL, t4, c3, b1, ac, ac2, o2]
      · have y0' : 0 < (ys.length : Int) := by omega
        have nz : ¬ ys = [] := fun h => by rw [h] at y0; simp at y0
        have nz2 : ¬ ((i : Int) + 1 = 0) := by omega
        rcases hK with rfl | rfl <;> simp [F_laws_FnBestOrder_L0, hlt, lo, w2, hL, y0, y0', nz, nz2, q1, q2, q3, q4, t1, t2, t4, c1, c2, c3, xi, xi', e1, o2]
    by_cases hy0 : ys = []
    · exact main 0 0 (by omega) (.inl ⟨hy0, rfl⟩)
    · have hp : 0 < ys.length := List.length_pos_iff.2 hy0
      obtain ⟨v, a, p1, p2, p3, p4, p5⟩ := place hy (i := i) (by omega) hp
      exact main a v p1 (.inr ⟨hp, p2, p3, p4, p5⟩)
def stO2 (us t : List T) (w : List Int) (n : Int) (ot : List Int) (k : Nat) : LS :=
  ⟨[(5, .sl 1 (us.map e2)), (6, .sl 1 (t.map e2)), (7, .own 17417 w.length 0 w.length), (8, .i n), (11, .own 32776 us.length 0 us.length), (15, .i k)], [(17417, w.map .i), (32776, ot.map .i)]⟩
set_option maxHeartbeats 4000000 in
theorem swaps_loop {us t : List T} (h1 : tsOk us = true) (h2 : tmOk us.length t = true) (tl : t.length ≤ 12) {w : List Int} (hw : orOk us.length w = true) {n : Int} (hn : ∀ os, orOk us.length os = true → n ≤ avO us t os) (ot : List Int) :
    ex lf F_laws_FnBestOrder_W1 (stO2 us t w n ot 0) = some (.exit 2, stO2 us t w n ot (us.length - 1)) := by
  have h1' := tsOk_iff.1 h1
  obtain ⟨g1, g2, g3⟩ := orOk_iff.1 hw
  have lb : w.length ≤ bound := by unfold bound; omega
  refine loop_count (us.length - 1) (fun i => stO2 us t w n ot i) (fun i hi => ?_) ?_ (by simp)
  · have w1 : wr ((i : Int) + 1) = ((i + 1 : Nat) : Int) := by rw [wr_id (by omega) (by omega)]; omega
    have hi' : ((i + 1 : Nat) : Int) < us.length := by omega
    have ok : swOk us.length w i = true := swOk_iff.2 ⟨hw, by omega, by omega⟩
    obtain ⟨q1, q2, q3⟩ := swL_ok ok
    have S := c_impl_SwappedOrder us.length w i (by omega)
    rw [ok] at S
    have ll := swL_len us.length w i
    have A := c_impl_AverageIn us t (swL us.length w i) (by omega) (by omega) (by omega)
    have ea : avOf us t (swL us.length w i) = avO us t (swL us.length w i) := by unfold avOf avOk; rw [h1, h2, q1]; rfl
    rw [ea] at A
    have le := hn _ q1
    have nl : ¬ avO us t (swL us.length w i) < n := by omega
    have lb2 : (swL us.length w i).length ≤ bound := by unfold bound; omega
    generalize avO us t (swL us.length w i) = c at *
    generalize swL us.length w i = z at *
    unfold stO2
    simp [F_laws_FnBestOrder_L1, w1, hi', S, A, nl, lb, lb2, -Int.natCast_add]
  · have w1 : wr (((us.length - 1 : Nat) : Int) + 1) = us.length := by rw [wr_id (by omega) (by omega)]; omega
    unfold stO2
    simp [F_laws_FnBestOrder_L1, w1]
set_option maxHeartbeats 4000000 in
theorem law_FnBestOrder (x : List Nat) (_ : x.length ≤ Go.maxLen) (hb : ∀ y ∈ x, y < 256) (ys : List Nat) (_ : ys.length ≤ Go.maxLen) (hy : ∀ y ∈ ys, y < 256) : call lf n_laws_FnBestOrder [bys x, bys ys] = some (.b true, []) := by
  show call lf n_laws_FnBestOrder [.sl 0 (x.map .y), .sl 0 (ys.map .y)] = _
  rw [call_k lf n_laws_FnBestOrder _ (F := F_laws_FnBestOrder) rfl rfl]
  by_cases hl : 1048576 < (x.length : Int)
  · simp (config := { maxSteps := 2000000 }) [F_laws_FnBestOrder, hl]
  · by_cases hl2 : 1048576 < (ys.length : Int)
    · simp (config := { maxSteps := 2000000 }) [F_laws_FnBestOrder, hl, hl2]
    · obtain ⟨us, t, u1, t1, d⟩ := c_DrawBestOrder hb (by omega)
      have V1 := c_impl_BestOrder us t (by omega) (by omega)
      have V2 := c_spec_BestOrder us t (by omega) (by omega)
      have lb0 : us.length ≤ bound := by unfold bound; omega
      have lb1 : t.length ≤ bound := by unfold bound; omega
      cases hk : boOk us t with
      | false =>
        have e1 : boL us t = [] := by unfold boL; rw [hk]; rfl
        have e2 : boN us t = -1 := by unfold boN; rw [hk]; rfl
        have S := c_sameInts_i [] (by simp)
        rw [e1, e2] at V1
        rw [hk, e2] at V2
        simp at V1 V2 S
        simp (config := { maxSteps := 2000000 }) [F_laws_FnBestOrder, hl, hl2, d, V1, V2, S, lb0, lb1, c_alive]
      | true =>
        have e1 : boL us t = (boF us t).1 := by unfold boL; rw [hk]; rfl
        have e2 : boN us t = (boF us t).2 := by unfold boN; rw [hk]; rfl
        have hk' := hk
        unfold boOk at hk'
        rw [Bool.and_eq_true] at hk'
        obtain ⟨h1, h2⟩ := hk'
        have h1' := tsOk_iff.1 h1
        rw [e1, e2] at V1
        rw [hk, e1, e2] at V2
        have hw := boF_or h1 t
        have ha := boF_av us t
        have hle : ∀ os, orOk us.length os = true → (boF us t).2 ≤ avO us t os := fun os h => boF_least h
        have av := avO_le (t := t) h1 hw
        rw [← ha] at av
        obtain ⟨g1, g2, g3⟩ := orOk_iff.1 hw
        generalize hbw : (boF us t).1 = w at *
        generalize hbn : (boF us t).2 = n at *
        obtain ⟨ot, o1, L0⟩ := other_loop us t ys hy (by omega) w n u1 us.length 0 32776 [] (.inl rfl) (by omega) (by rfl)
        have L1 := swaps_loop h1 h2 t1 hw hle ot
        have oo : orOk us.length ot = true := perm_ok (m := us.length) (by omega) (by rw [Int.toNat_natCast]; exact o1)
        have lo := perm_len o1
        have A1 := c_impl_AverageIn us t w (by omega) (by omega) (by omega)
        have ea1 : avOf us t w = n := by unfold avOf avOk; rw [h1, h2, hw, ha]; rfl
        rw [ea1] at A1
        have A2 := c_impl_AverageIn us t ot (by omega) (by omega) (by omega)
        have ea2 : avOf us t ot = avO us t ot := by unfold avOf avOk; rw [h1, h2, oo]; rfl
        rw [ea2] at A2
        have le2 := hle ot oo
        have pw := c_power us.length (by omega) (by omega)
        rw [Int.toNat_natCast] at pw
        have C := c_impl_CostOf us (by omega)
        have ec : costOf us = cost us := by unfold costOf; rw [h1]; rfl
        rw [ec] at C
        have S := c_sameInts_i w (by omega)
        have n1 : ¬ n < 0 := by omega
        have p6' := p6 (n := us.length) (by omega)
        have cb := cO_le h1 g3
        have cb2 := cO_bd h1'.2 w
        have c9 : cost us ≤ 45 := by
          have := cost_bound h1'.2
          omega
        have pm : (6 : Int) ^ us.length * cost us ≤ 7776 * 45 := Int.mul_le_mul p6'.2 c9 (by omega) (by omega)
        have pm0 : 0 ≤ (6 : Int) ^ us.length * cost us := Int.mul_nonneg (by omega) (by omega)
        have wm : wr ((6 : Int) ^ us.length * cost us) = 6 ^ us.length * cost us := wr_id (by omega) (by omega)
        have lb2 : w.length ≤ bound := by unfold bound; omega
        have tt : List.take us.length (ot.map DV.i) = ot.map .i := List.take_of_length_le (by simp; omega)
        have lo' : (ot.map DV.i).length = us.length := by simp [lo]
        have av2 := av.2
        unfold stO1 at L0
        unfold stO2 at L1
        simp only [Int.natCast_zero, List.map_nil, if_true] at L0 L1 V2
        generalize avO us t ot = c' at *
        generalize (6 : Int) ^ us.length = p at *
        have lt := lend_i ot
        generalize ot.map DV.i = O at *
        simp (config := { maxSteps := 2000000 }) [F_laws_FnBestOrder, hl, hl2, d, V1, V2, S, L0, L1, A1, A2, C, pw, wm, n1, le2, av2, tt, lo, lo', lt, lb0, lb1, lb2]
end
section
theorem c_toTest (t : T) : call lf n_laws_toTest [e2 t] = some (e2 t, []) := by
  rw [call_k lf n_laws_toTest _ (F := F_laws_toTest) rfl rfl]
  simp [F_laws_toTest, e2]
theorem c_szTestS (ts : List T) (n : Int) (h0 : 0 ≤ n) (h1 : n ≤ 1048576) (hb : (ts.length : Int) ≤ 9223372036854775807) : call lf n_laws_szTestS [.sl 0 (ts.map e2), .i n] = some (.i (if n < ts.length then -1 else n - ts.length), []) := by
  rw [call_k lf n_laws_szTestS _ (F := F_laws_szTestS) rfl rfl]
  have w : wr (n - ts.length) = n - ts.length := wr_id (by omega) (by omega)
  by_cases h : n < ts.length
  · have h' : n - ts.length < 0 := by omega
    simp [F_laws_szTestS, w, h, h']
  · have h' : ¬ n - ts.length < 0 := by omega
    simp [F_laws_szTestS, w, h, h']
def cz (ts : List T) (i : Nat) : List DV := (ts.take i).map e2 ++ List.replicate (ts.length - i) (.st [.i 0, .i 0])
theorem cz_len {ts : List T} {i : Nat} (hi : i ≤ ts.length) : (cz ts i).length = ts.length := by simp [cz]; omega
theorem cz_set {ts : List T} {i : Nat} {t : T} (hi : i < ts.length) (h : ts.take (i + 1) = ts.take i ++ [t]) : (cz ts i).set i (.st [.i t.1, .i t.2]) = cz ts (i + 1) := by
  have : ((ts.take i).map e2).length = i := by simp; omega
  unfold cz
  rw [List.set_append_right _ _ (by omega), this, Nat.sub_self, h, show ts.length - i = (ts.length - (i + 1)) + 1 by omega, List.replicate_succ, List.set_cons_zero, List.map_append, List.append_assoc]
  rfl
theorem cz_get {ts : List T} {i : Nat} (hi : i < ts.length) : atN (cz ts i) i = some (.st [.i 0, .i 0]) := by
  show (cz ts i)[i]? = _
  have : ((ts.take i).map e2).length = i := by simp; omega
  unfold cz
  rw [List.getElem?_append_right (by omega), this, Nat.sub_self, List.getElem?_replicate]
  simp; omega
theorem cz_zero (ts : List T) : cz ts 0 = List.replicate ts.length (.st [.i 0, .i 0]) := by simp [cz]
theorem cz_all (ts : List T) : cz ts ts.length = ts.map e2 := by simp [cz]
theorem c_toTestS (ts : List T) (hb : (ts.length : Int) ≤ 1048576) : call lf n_laws_toTestS [.sl 0 (ts.map e2)] = some (.fr 2 (ts.map e2), []) := by
  rw [call_k lf n_laws_toTestS _ (F := F_laws_toTestS) rfl rfl]
  have L : ex lf F_laws_toTestS_W0 ⟨[(0, .sl 0 (ts.map e2)), (3, .own 3600 ts.length 0 ts.length), (4, .i 0)], [(3600, cz ts 0)]⟩ =
      some (.exit 0, ⟨[(0, .sl 0 (ts.map e2)), (3, .own 3600 ts.length 0 ts.length), (4, .i ts.length)], [(3600, cz ts ts.length)]⟩) := by
    refine loop_count ts.length (fun i => ⟨[(0, .sl 0 (ts.map e2)), (3, .own 3600 ts.length 0 ts.length), (4, .i i)], [(3600, cz ts i)]⟩) (fun i hi => ?_) ?_ (by simp)
    · obtain ⟨t, q1, q2, q3, q4⟩ := at_e2 hi
      have w1 : wr ((i : Int) + 1) = (i : Int) + 1 := wr_id (by omega) (by omega)
      have c1 := cz_len (ts := ts) (i := i) (by omega)
      have c2 := cz_get hi
      have c3 := cz_set hi q4
      have C := c_toTest t
      simp only [e2] at C
      simp [F_laws_toTestS_L0, hi, q3, w1, c1, c2, c3, C]
    · simp [F_laws_toTestS_L0]
  have b1 : (ts.length : Int) ≤ bound := by unfold bound; omega
  rw [cz_zero, cz_all] at L
  simp [F_laws_toTestS, b1, L]
theorem c_eqTest (t u : T) : call lf n_laws_eqTest [e2 t, e2 u] = some (.b (t.1 == u.1 && t.2 == u.2), []) := by
  rw [call_k lf n_laws_eqTest _ (F := F_laws_eqTest) rfl rfl]
  by_cases h1 : t.1 = u.1
  · by_cases h2 : t.2 = u.2
    · simp [F_laws_eqTest, e2, h1, h2]
    · have h3 : (t.2 != u.2) = true := bne_iff_ne.2 h2
      have h4 : (t.2 == u.2) = false := beq_eq_false_iff_ne.2 h2
      simp [F_laws_eqTest, e2, h1, h3, h4]
  · have h3 : (t.1 != u.1) = true := bne_iff_ne.2 h1
    have h4 : (t.1 == u.1) = false := beq_eq_false_iff_ne.2 h1
    simp [F_laws_eqTest, e2, h3, h4]
theorem c_eqTestS_self (aS : List T) (ha : (aS.length : Int) ≤ 1048576) : call lf n_laws_eqTestS [.sl 0 (aS.map e2), .sl 0 (aS.map e2)] = some (.b true, []) := by
  rw [call_k lf n_laws_eqTestS _ (F := F_laws_eqTestS) rfl rfl]
  have L : ex lf F_laws_eqTestS_W0 ⟨[(0, .sl 0 (aS.map e2)), (1, .sl 0 (aS.map e2)), (5, .i 0)], []⟩ = some (.exit 0, ⟨[(0, .sl 0 (aS.map e2)), (1, .sl 0 (aS.map e2)), (5, .i aS.length)], []⟩) := by
    refine loop_count aS.length (fun i => ⟨[(0, .sl 0 (aS.map e2)), (1, .sl 0 (aS.map e2)), (5, .i i)], []⟩) (fun i hi => ?_) ?_ (by simp)
    · obtain ⟨t, q1, q2, q3, q4⟩ := at_e2 hi
      have w1 : wr ((i : Int) + 1) = (i : Int) + 1 := wr_id (by omega) (by omega)
      have C := c_eqTest t t
      simp only [e2, beq_self_eq_true, Bool.and_self] at C
      simp [F_laws_eqTestS_L0, hi, q3, w1, C]
    · simp [F_laws_eqTestS_L0]
  simp [F_laws_eqTestS, L]
end
section
def ci (ts : List Int) (i : Nat) : List DV := (ts.take i).map .i ++ List.replicate (ts.length - i) (.i 0)
theorem at_i {ks : List Int} {i : Nat} (hi : i < ks.length) : ∃ k, ks[i]? = some k ∧ k ∈ ks ∧ atI (ks.map .i) i = some (.i k) ∧ ks.take (i + 1) = ks.take i ++ [k] := by
  refine ⟨ks[i], List.getElem?_eq_getElem hi, List.getElem_mem hi, ?_, List.take_succ_eq_append_getElem hi⟩
  simp [atI, hi]
theorem c_eqIntS_self (aS : List Int) (ha : (aS.length : Int) ≤ 1048576) : call lf n_laws_eqIntS [.sl 0 (aS.map .i), .sl 0 (aS.map .i)] = some (.b true, []) := by
  rw [call_k lf n_laws_eqIntS _ (F := F_laws_eqIntS) rfl rfl]
  have L : ex lf F_laws_eqIntS_W0 ⟨[(0, .sl 0 (aS.map .i)), (1, .sl 0 (aS.map .i)), (5, .i 0)], []⟩ = some (.exit 0, ⟨[(0, .sl 0 (aS.map .i)), (1, .sl 0 (aS.map .i)), (5, .i aS.length)], []⟩) := by
    refine loop_count aS.length (fun i => ⟨[(0, .sl 0 (aS.map .i)), (1, .sl 0 (aS.map .i)), (5, .i i)], []⟩) (fun i hi => ?_) ?_ (by simp)
    · obtain ⟨t, q1, q2, q3, q4⟩ := at_i hi
      have w1 : wr ((i : Int) + 1) = (i : Int) + 1 := wr_id (by omega) (by omega)
      simp [F_laws_eqIntS_L0, hi, q3, w1]
    · simp [F_laws_eqIntS_L0]
  simp [F_laws_eqIntS, L]
end
section
theorem c_toMark (t : T) : call lf n_laws_toMark [e2 t] = some (e2 t, []) := by
  rw [call_k lf n_laws_toMark _ (F := F_laws_toMark) rfl rfl]
  simp [F_laws_toMark, e2]
theorem c_szMarkS (ts : List T) (n : Int) (h0 : 0 ≤ n) (h1 : n ≤ 1048576) (hb : (ts.length : Int) ≤ 9223372036854775807) : call lf n_laws_szMarkS [.sl 0 (ts.map e2), .i n] = some (.i (if n < ts.length then -1 else n - ts.length), []) := by
  rw [call_k lf n_laws_szMarkS _ (F := F_laws_szMarkS) rfl rfl]
  have w : wr (n - ts.length) = n - ts.length := wr_id (by omega) (by omega)
  by_cases h : n < ts.length
  · have h' : n - ts.length < 0 := by omega
    simp [F_laws_szMarkS, w, h, h']
  · have h' : ¬ n - ts.length < 0 := by omega
    simp [F_laws_szMarkS, w, h, h']
theorem c_toMarkS (ts : List T) (hb : (ts.length : Int) ≤ 1048576) : call lf n_laws_toMarkS [.sl 0 (ts.map e2)] = some (.fr 2 (ts.map e2), []) := by
  rw [call_k lf n_laws_toMarkS _ (F := F_laws_toMarkS) rfl rfl]
  have L : ex lf F_laws_toMarkS_W0 ⟨[(0, .sl 0 (ts.map e2)), (3, .own 3600 ts.length 0 ts.length), (4, .i 0)], [(3600, cz ts 0)]⟩ =
      some (.exit 0, ⟨[(0, .sl 0 (ts.map e2)), (3, .own 3600 ts.length 0 ts.length), (4, .i ts.length)], [(3600, cz ts ts.length)]⟩) := by
    refine loop_count ts.length (fun i => ⟨[(0, .sl 0 (ts.map e2)), (3, .own 3600 ts.length 0 ts.length), (4, .i i)], [(3600, cz ts i)]⟩) (fun i hi => ?_) ?_ (by simp)
    · obtain ⟨t, q1, q2, q3, q4⟩ := at_e2 hi
      have w1 : wr ((i : Int) + 1) = (i : Int) + 1 := wr_id (by omega) (by omega)
      have c1 := cz_len (ts := ts) (i := i) (by omega)
      have c2 := cz_get hi
      have c3 := cz_set hi q4
      have C := c_toMark t
      simp only [e2] at C
      simp [F_laws_toMarkS_L0, hi, q3, w1, c1, c2, c3, C]
    · simp [F_laws_toMarkS_L0]
  have b1 : (ts.length : Int) ≤ bound := by unfold bound; omega
  rw [cz_zero, cz_all] at L
  simp [F_laws_toMarkS, b1, L]
theorem c_eqMark (t u : T) : call lf n_laws_eqMark [e2 t, e2 u] = some (.b (t.1 == u.1 && t.2 == u.2), []) := by
  rw [call_k lf n_laws_eqMark _ (F := F_laws_eqMark) rfl rfl]
  by_cases h1 : t.1 = u.1
  · by_cases h2 : t.2 = u.2
    · simp [F_laws_eqMark, e2, h1, h2]
    · have h3 : (t.2 != u.2) = true := bne_iff_ne.2 h2
      have h4 : (t.2 == u.2) = false := beq_eq_false_iff_ne.2 h2
      simp [F_laws_eqMark, e2, h1, h3, h4]
  · have h3 : (t.1 != u.1) = true := bne_iff_ne.2 h1
    have h4 : (t.1 == u.1) = false := beq_eq_false_iff_ne.2 h1
    simp [F_laws_eqMark, e2, h3, h4]
theorem c_eqMarkS_self (aS : List T) (ha : (aS.length : Int) ≤ 1048576) : call lf n_laws_eqMarkS [.sl 0 (aS.map e2), .sl 0 (aS.map e2)] = some (.b true, []) := by
  rw [call_k lf n_laws_eqMarkS _ (F := F_laws_eqMarkS) rfl rfl]
  have L : ex lf F_laws_eqMarkS_W0 ⟨[(0, .sl 0 (aS.map e2)), (1, .sl 0 (aS.map e2)), (5, .i 0)], []⟩ = some (.exit 0, ⟨[(0, .sl 0 (aS.map e2)), (1, .sl 0 (aS.map e2)), (5, .i aS.length)], []⟩) := by
    refine loop_count aS.length (fun i => ⟨[(0, .sl 0 (aS.map e2)), (1, .sl 0 (aS.map e2)), (5, .i i)], []⟩) (fun i hi => ?_) ?_ (by simp)
    · obtain ⟨t, q1, q2, q3, q4⟩ := at_e2 hi
      have w1 : wr ((i : Int) + 1) = (i : Int) + 1 := wr_id (by omega) (by omega)
      have C := c_eqMark t t
      simp only [e2, beq_self_eq_true, Bool.and_self] at C
      simp [F_laws_eqMarkS_L0, hi, q3, w1, C]
    · simp [F_laws_eqMarkS_L0]
  simp [F_laws_eqMarkS, L]
end
section
theorem mid_at {A B : List DV} {i : Nat} (h : A.length = i) (x : DV) : atN (A ++ x :: B) i = some x := by
  show (A ++ x :: B)[i]? = _
  rw [List.getElem?_append_right (by omega), h]; simp
theorem mid_set {A B : List DV} {i : Nat} (h : A.length = i) (x y : DV) : (A ++ x :: B).set i y = A ++ y :: B := by
  rw [List.set_append_right _ _ (by omega), h]; simp
theorem split_at {es : List DV} {i : Nat} (hi : i < es.length) : es.drop i = es[i] :: es.drop (i + 1) := List.drop_eq_getElem_cons hi
/-- the marks from k on -/
def mk1 (k : Int) (n : Nat) : List DV := (List.range n).map fun (j : Nat) => DV.i (k + (j : Int))
theorem mk1_len (k : Int) (n : Nat) : (mk1 k n).length = n := by simp [mk1]
theorem mk1_succ (k : Int) (n : Nat) : mk1 k (n + 1) = mk1 k n ++ [.i (k + n)] := by simp [mk1, List.range_succ]
def mk2 (k : Int) (n : Nat) : List DV := (List.range n).map fun (j : Nat) => DV.st [.i (k + 2 * (j : Int)), .i (k + 2 * (j : Int) + 1)]
theorem mk2_len (k : Int) (n : Nat) : (mk2 k n).length = n := by simp [mk2]
theorem mk2_succ (k : Int) (n : Nat) : mk2 k (n + 1) = mk2 k n ++ [.st [.i (k + 2 * n), .i (k + 2 * n + 1)]] := by simp [mk2, List.range_succ]
theorem mk1_map (k : Int) (n : Nat) : ∃ u : List Int, mk1 k n = u.map .i ∧ u.length = n := ⟨(List.range n).map fun (j : Nat) => k + (j : Int), by simp [mk1], by simp⟩
theorem mk2_map (k : Int) (n : Nat) : ∃ u : List T, mk2 k n = u.map e2 ∧ u.length = n := ⟨(List.range n).map fun (j : Nat) => (k + 2 * (j : Int), k + 2 * (j : Int) + 1), by simp [mk2, e2], by simp⟩
theorem tk_n {u : List DV} {n : Nat} (h : u.length = n) : List.take n u = u := List.take_of_length_le (by omega)
set_option maxHeartbeats 4000000 in
theorem c_markIntS (xs : List Int) (k : Int) (k0 : 0 ≤ k) (k1 : k ≤ 1000000000) (hl : xs.length ≤ 1048576) : call lf n_laws_markIntS [.fr 1 (xs.map .i), .i k] = some (.i (k + xs.length), [.fr 1 (mk1 k xs.length)]) := by
  rw [call_k lf n_laws_markIntS _ (F := F_laws_markIntS) rfl rfl]
  have L := loop_count (lf := lf) (L := F_laws_markIntS_L0) xs.length (fun i => ⟨[(0, .own 15 xs.length 0 xs.length), (1, .i (k + i)), (5, .i i)], [(15, mk1 k i ++ (xs.map .i).drop i)]⟩) (x := .exit 0) (R := ⟨[(0, .own 15 xs.length 0 xs.length), (1, .i (k + xs.length)), (5, .i xs.length)], [(15, mk1 k xs.length ++ (xs.map .i).drop xs.length)]⟩) (fun i hi => by
    have w1 : wr ((i : Int) + 1) = (i : Int) + 1 := wr_id (by omega) (by omega)
    have w2 : wr (k + i + 1) = k + (i + 1 : Nat) := by rw [wr_id (by omega) (by omega)]; omega
    have hi' : (i : Int) < xs.length := by omega
    have e := split_at (es := xs.map DV.i) (i := i) (by simpa using hi)
    rw [List.getElem_map] at e
    rw [mk1_succ, e]
    have hA := mk1_len k i
    have lB : (List.drop (i + 1) (xs.map DV.i)).length = xs.length - (i + 1) := by simp
    generalize xs[i] = x at *
    generalize List.drop (i + 1) (xs.map DV.i) = B at *
    generalize mk1 k i = A at *
    have q1 := mid_at (B := B) hA
    have q2 := mid_set (B := B) hA
    have q3 : ∀ x : DV, (A ++ x :: B).length = xs.length := fun x => by simp [hA, lB]; omega
    rw [show A ++ [DV.i (k + ↑i)] ++ B = A ++ DV.i (k + ↑i) :: B by simp]
    simp [F_laws_markIntS_L0, hi, hi', w1, w2, q1, q2, q3, -List.length_append, -List.length_cons]) (by
    have lm := mk1_len k xs.length
    simp [F_laws_markIntS_L0, lm]) (by simp)
  have z : mk1 k 0 ++ (xs.map DV.i).drop 0 = xs.map .i := by simp [mk1]
  rw [z] at L
  have zn : mk1 k xs.length ++ (xs.map DV.i).drop xs.length = mk1 k xs.length := by simp
  rw [zn] at L
  have L' : ex lf F_laws_markIntS_W0 ⟨[(0, .own 15 xs.length 0 xs.length), (1, .i k), (5, .i 0)], [(15, xs.map .i)]⟩ = some (.exit 0, ⟨[(0, .own 15 xs.length 0 xs.length), (1, .i (k + xs.length)), (5, .i xs.length)], [(15, mk1 k xs.length)]⟩) := by
    have := L
    simp only [Int.natCast_zero, Int.add_zero] at this
    exact this
  have lm := mk1_len k xs.length
  simp [F_laws_markIntS, L', lm]
set_option maxHeartbeats 4000000 in
theorem c_markMarkS (xs : List T) (k : Int) (k0 : 0 ≤ k) (k1 : k ≤ 1000000000) (hl : xs.length ≤ 1048576) : call lf n_laws_markMarkS [.fr 2 (xs.map e2), .i k] = some (.i (k + 2 * xs.length), [.fr 2 (mk2 k xs.length)]) := by
  rw [call_k lf n_laws_markMarkS _ (F := F_laws_markMarkS) rfl rfl]
  have L := loop_count (lf := lf) (L := F_laws_markMarkS_L0) xs.length (fun i => ⟨[(0, .own 23 xs.length 0 xs.length), (1, .i (k + 2 * i)), (5, .i i)], [(23, mk2 k i ++ (xs.map e2).drop i)]⟩) (x := .exit 0) (R := ⟨[(0, .own 23 xs.length 0 xs.length), (1, .i (k + 2 * xs.length)), (5, .i xs.length)], [(23, mk2 k xs.length ++ (xs.map e2).drop xs.length)]⟩) (fun i hi => by
    have w1 : wr ((i : Int) + 1) = (i : Int) + 1 := wr_id (by omega) (by omega)
    have w2 : wr (k + 2 * i + 1) = k + 2 * i + 1 := wr_id (by omega) (by omega)
    have w3 : wr (k + 2 * i + 1 + 1) = k + 2 * (i + 1 : Nat) := by rw [wr_id (by omega) (by omega)]; omega
    have hi' : (i : Int) < xs.length := by omega
    have e := split_at (es := xs.map e2) (i := i) (by simpa using hi)
    rw [List.getElem_map] at e
    rw [mk2_succ, e]
    have hA := mk2_len k i
    have lB : (List.drop (i + 1) (xs.map e2)).length = xs.length - (i + 1) := by simp
    generalize xs[i] = x at *
    generalize List.drop (i + 1) (xs.map e2) = B at *
    generalize mk2 k i = A at *
    have q1 := mid_at (B := B) hA
    have q2 := mid_set (B := B) hA
    have q3 : ∀ x : DV, (A ++ x :: B).length = xs.length := fun x => by simp [hA, lB]; omega
    rw [show A ++ [DV.st [DV.i (k + 2 * ↑i), DV.i (k + 2 * ↑i + 1)]] ++ B = A ++ DV.st [DV.i (k + 2 * ↑i), DV.i (k + 2 * ↑i + 1)] :: B by simp]
    have q4 : ∀ a b : DV, 1 ≤ [a, b].length := fun a b => by simp
    have q5 : ∀ a b : DV, 2 ≤ [a, b].length := fun a b => by simp
    simp [F_laws_markMarkS_L0, e2, hi, hi', w1, w2, w3, q1, q2, q3, q4, q5, -List.length_append, -List.length_cons]) (by
    have lm := mk2_len k xs.length
    simp [F_laws_markMarkS_L0, lm]) (by simp)
  have z : mk2 k 0 ++ (xs.map e2).drop 0 = xs.map e2 := by simp [mk2]
  rw [z] at L
  have zn : mk2 k xs.length ++ (xs.map e2).drop xs.length = mk2 k xs.length := by simp
  rw [zn] at L
  have L' : ex lf F_laws_markMarkS_W0 ⟨[(0, .own 23 xs.length 0 xs.length), (1, .i k), (5, .i 0)], [(23, xs.map e2)]⟩ = some (.exit 0, ⟨[(0, .own 23 xs.length 0 xs.length), (1, .i (k + 2 * xs.length)), (5, .i xs.length)], [(23, mk2 k xs.length)]⟩) := by
    have := L
    simp only [Int.natCast_zero, Int.mul_zero, Int.add_zero] at this
    exact this
  have lm := mk2_len k xs.length
  simp [F_laws_markMarkS, L', lm]
set_option maxHeartbeats 4000000 in
theorem c_heldIntS (n : Nat) (k : Int) (k0 : 0 ≤ k) (k1 : k ≤ 1000000000) (hl : n ≤ 1048576) : call lf n_laws_heldIntS [.sl 0 (mk1 k n), .i k] = some (.i (k + n), []) := by
  rw [call_k lf n_laws_heldIntS _ (F := F_laws_heldIntS) rfl rfl]
  have lm := mk1_len k n
  have A : ∀ i, i < n → atI (mk1 k n) (i : Int) = some (.i (k + i)) := fun i hi => by simp [atI, mk1, hi]
  generalize mk1 k n = es at *
  have L := loop_count (lf := lf) (L := F_laws_heldIntS_L0) n (fun i => ⟨[(0, .sl 0 es), (1, .i (k + i)), (5, .i i)], []⟩) (x := .exit 0) (R := ⟨[(0, .sl 0 es), (1, .i (k + n)), (5, .i n)], []⟩) (fun i hi => by
    have w1 : wr ((i : Int) + 1) = (i : Int) + 1 := wr_id (by omega) (by omega)
    have w2 : wr (k + i + 1) = k + (i + 1 : Nat) := by rw [wr_id (by omega) (by omega)]; omega
    have hi' : (i : Int) < n := by omega
    have q := A i hi
    simp [F_laws_heldIntS_L0, hi, hi', w1, w2, lm, q]) (by
    simp [F_laws_heldIntS_L0, lm]) (by simp)
  have L' : ex lf F_laws_heldIntS_W0 ⟨[(0, .sl 0 es), (1, .i k), (5, .i 0)], []⟩ = some (.exit 0, ⟨[(0, .sl 0 es), (1, .i (k + n)), (5, .i n)], []⟩) := by
    have := L
    simp only [Int.natCast_zero, Int.add_zero] at this
    exact this
  simp [F_laws_heldIntS, L']
set_option maxHeartbeats 4000000 in
theorem c_markTestS (xs : List T) (k : Int) (k0 : 0 ≤ k) (k1 : k ≤ 1000000000) (hl : xs.length ≤ 1048576) : call lf n_laws_markTestS [.fr 2 (xs.map e2), .i k] = some (.i (k + 2 * xs.length), [.fr 2 (mk2 k xs.length)]) := by
  rw [call_k lf n_laws_markTestS _ (F := F_laws_markTestS) rfl rfl]
  have L := loop_count (lf := lf) (L := F_laws_markTestS_L0) xs.length (fun i => ⟨[(0, .own 23 xs.length 0 xs.length), (1, .i (k + 2 * i)), (5, .i i)], [(23, mk2 k i ++ (xs.map e2).drop i)]⟩) (x := .exit 0) (R := ⟨[(0, .own 23 xs.length 0 xs.length), (1, .i (k + 2 * xs.length)), (5, .i xs.length)], [(23, mk2 k xs.length ++ (xs.map e2).drop xs.length)]⟩) (fun i hi => by
    have w1 : wr ((i : Int) + 1) = (i : Int) + 1 := wr_id (by omega) (by omega)
    have w2 : wr (k + 2 * i + 1) = k + 2 * i + 1 := wr_id (by omega) (by omega)
    have w3 : wr (k + 2 * i + 1 + 1) = k + 2 * (i + 1 : Nat) := by rw [wr_id (by omega) (by omega)]; omega
    have hi' : (i : Int) < xs.length := by omega
    have e := split_at (es := xs.map e2) (i := i) (by simpa using hi)
    rw [List.getElem_map] at e
    rw [mk2_succ, e]
    have hA := mk2_len k i
    have lB : (List.drop (i + 1) (xs.map e2)).length = xs.length - (i + 1) := by simp
    generalize xs[i] = x at *
    generalize List.drop (i + 1) (xs.map e2) = B at *
    generalize mk2 k i = A at *
    have q1 := mid_at (B := B) hA
    have q2 := mid_set (B := B) hA
    have q3 : ∀ x : DV, (A ++ x :: B).length = xs.length := fun x => by simp [hA, lB]; omega
    rw [show A ++ [DV.st [DV.i (k + 2 * ↑i), DV.i (k + 2 * ↑i + 1)]] ++ B = A ++ DV.st [DV.i (k + 2 * ↑i), DV.i (k + 2 * ↑i + 1)] :: B by simp]
    have q4 : ∀ a b : DV, 1 ≤ [a, b].length := fun a b => by simp
    have q5 : ∀ a b : DV, 2 ≤ [a, b].length := fun a b => by simp
    simp [F_laws_markTestS_L0, e2, hi, hi', w1, w2, w3, q1, q2, q3, q4, q5, -List.length_append, -List.length_cons]) (by
    have lm := mk2_len k xs.length
    simp [F_laws_markTestS_L0, lm]) (by simp)
  have z : mk2 k 0 ++ (xs.map e2).drop 0 = xs.map e2 := by simp [mk2]
  rw [z] at L
  have zn : mk2 k xs.length ++ (xs.map e2).drop xs.length = mk2 k xs.length := by simp
  rw [zn] at L
  have L' : ex lf F_laws_markTestS_W0 ⟨[(0, .own 23 xs.length 0 xs.length), (1, .i k), (5, .i 0)], [(23, xs.map e2)]⟩ = some (.exit 0, ⟨[(0, .own 23 xs.length 0 xs.length), (1, .i (k + 2 * xs.length)), (5, .i xs.length)], [(23, mk2 k xs.length)]⟩) := by
    have := L
    simp only [Int.natCast_zero, Int.mul_zero, Int.add_zero] at this
    exact this
  have lm := mk2_len k xs.length
  simp [F_laws_markTestS, L', lm]
end
section
set_option maxHeartbeats 4000000 in
theorem boL_len (us t : List T) : (boL us t).length ≤ 5 := by
  unfold boL
  split
  · rename_i h
    unfold boOk at h
    rw [Bool.and_eq_true] at h
    have := (boF_ok us t).2.1
    have := tsOk_iff.1 h.1
    omega
  · simp
set_option maxHeartbeats 4000000 in
theorem law_FnExactBestOrder (y : List (Int × Int)) (hy : y.length ≤ Go.maxLen) (x : List (Int × Int)) (hx : x.length ≤ Go.maxLen) : call lf n_laws_FnExactBestOrder [rs2 y, rs2 x] = some (.b true, []) := by
  show call lf n_laws_FnExactBestOrder [.sl 0 (y.map e2), .sl 0 (x.map e2)] = _
  rw [call_k lf n_laws_FnExactBestOrder _ (F := F_laws_FnExactBestOrder) rfl rfl]
  have hz : (x.length : Int) ≤ 9223372036854775807 := by unfold Go.maxLen at hx; omega
  have hw : (y.length : Int) ≤ 9223372036854775807 := by unfold Go.maxLen at hy; omega
  have S := c_szTestS y 1048576 (by omega) (by omega) hw
  by_cases h : (1048576 : Int) < y.length
  · simp [F_laws_FnExactBestOrder, S, h]
  · have n1 : ¬ ((1048576 : Int) - y.length < 0) := by omega
    have S2 := c_szMarkS x (1048576 - y.length) (by omega) (by omega) hz
    by_cases h2 : (1048576 : Int) - y.length < x.length
    · simp [F_laws_FnExactBestOrder, S, h, n1, S2, h2]
    · have n2 : ¬ ((1048576 : Int) - y.length - x.length < 0) := by omega
      have A := c_toMarkS x (by omega)
      have Q := c_eqMarkS_self x (by omega)
      have A1 := c_toTestS y (by omega)
      have Q1 := c_eqTestS_self y (by omega)
      have C1 := c_impl_BestOrder y x (by omega) (by omega)
      have C2 := c_spec_BestOrder y x (by omega) (by omega)
      have M0 := c_markTestS y 1 (by omega) (by omega) (by omega)
      have M1 := c_markMarkS x (1 + 2 * y.length) (by omega) (by omega) (by omega)
      have lb0 : y.length ≤ bound := by unfold bound; omega
      have lb1 : x.length ≤ bound := by unfold bound; omega
      obtain ⟨v0, hv0, lv0⟩ := mk2_map 1 y.length
      obtain ⟨v, hv, lv⟩ := mk2_map (1 + 2 * y.length) x.length
      rw [hv0] at M0
      rw [hv] at M1
      have l0 : List.take y.length (v0.map e2) = v0.map e2 := tk_n (by simp [lv0])
      have l2 : List.take x.length (v.map e2) = v.map e2 := tk_n (by simp [lv])
      have n3 : ¬ ((1 : Int) + 2 * y.length + 2 * x.length < 0) := by omega
      have ll : (boL y x).length ≤ 5 := boL_len y x
      have b0 : boOk y x = false → boL y x = [] := fun h => by unfold boL; rw [h]; rfl
      generalize boL y x = w at *
      generalize boN y x = n at *
      have Q2 := c_eqIntS_self w (by omega)
      have M2 := c_markIntS w 1 (by omega) (by omega) (by omega)
      have H := c_heldIntS w.length 1 (by omega) (by omega) (by omega)
      have lb2 : w.length ≤ bound := by unfold bound; omega
      obtain ⟨u, hu, lu⟩ := mk1_map 1 w.length
      rw [hu] at M2 H
      have l1 : List.take w.length (u.map DV.i) = u.map DV.i := tk_n (by simp [lu])
      have n4 : ¬ ((1 : Int) + w.length < 0) := by omega
      cases hb : boOk y x with
      | true =>
        rw [hb] at C2
        simp at C2
        simp (config := { maxSteps := 2000000 }) [F_laws_FnExactBestOrder, h, h2, S, S2, n1, n2, n3, n4, A, Q, A1, Q1, Q2, C1, C2, M0, M1, M2, H, l0, l1, l2, lu, lv, lv0, lb0, lb1, lb2]
      | false =>
        have := b0 hb
        subst this
        rw [hb] at C2
        simp at C2 C1 Q2 M2 H lu
        subst lu
        simp at M2 H
        simp (config := { maxSteps := 2000000 }) [F_laws_FnExactBestOrder, h, h2, S, S2, n1, n2, n3, A, Q, A1, Q1, Q2, C1, C2, M0, M1, M2, H, l0, l2, lv, lv0, lb0, lb1]
end
section
def rowT (m : Nat) (row : Int) : List T := (List.range m).flatMap fun (k : Nat) => if k = 0 then [(0, 0)] else [(0, (k : Int)), (2 + row, 0)]
/-- the state in which a row goes on to its end -/
def goS (m : Nat) (row : Int) : Nat := if row = 0 then 2 ^ m - 1 else 0
def rwOk (row : Int) : Bool := decide (0 ≤ row ∧ row ≤ 1)
theorem rwOk_iff {row : Int} : rwOk row = true ↔ row = 0 ∨ row = 1 := by unfold rwOk; rw [decide_eq_true_eq]; omega
theorem row_tab : ∀ (m : Fin 5) (r : Fin 2) (s : Fin 32), s.val < 2 ^ (m.val + 1) → ((tv (rowT (m.val + 1) r.val) s.val == (r.val == 0)) = (s.val == goS (m.val + 1) r.val)) := by decide +kernel
theorem row_tmS : ∀ (m : Fin 5) (r : Fin 2), tmOk ((m.val + 1 : Nat) : Int) (rowT (m.val + 1) r.val) = true := by decide +kernel
theorem row_tm {m : Nat} (h1 : 1 ≤ m) (h5 : m ≤ 5) {row : Int} (hr : row = 0 ∨ row = 1) : tmOk m (rowT m row) = true := by
  obtain ⟨n, rfl⟩ : ∃ n, m = n + 1 := ⟨m - 1, by omega⟩
  rcases hr with rfl | rfl
  · exact row_tmS ⟨n, by omega⟩ 0
  · exact row_tmS ⟨n, by omega⟩ 1
theorem row_tv {m : Nat} (h1 : 1 ≤ m) (h5 : m ≤ 5) {row : Int} (hr : row = 0 ∨ row = 1) {s : Nat} (hs : s < 2 ^ m) : tv (rowT m row) s = (row == 0) ↔ s = goS m row := by
  obtain ⟨n, rfl⟩ : ∃ n, m = n + 1 := ⟨m - 1, by omega⟩
  have h32 : s < 32 := Nat.lt_of_lt_of_le hs (by have := Nat.pow_le_pow_right (n := 2) (by omega) h5; simpa using this)
  rcases hr with rfl | rfl
  · have := row_tab ⟨n, by omega⟩ 0 ⟨s, h32⟩ hs
    have e : (tv (rowT (n + 1) 0) s == true) = (s == goS (n + 1) 0) := this
    show tv (rowT (n + 1) 0) s = true ↔ _
    rw [← beq_iff_eq (a := s), ← e, beq_iff_eq]
  · have := row_tab ⟨n, by omega⟩ 1 ⟨s, h32⟩ hs
    have e : (tv (rowT (n + 1) 1) s == false) = (s == goS (n + 1) 1) := this
    show tv (rowT (n + 1) 1) s = false ↔ _
    rw [← beq_iff_eq (a := s), ← e, beq_iff_eq]
theorem goS_lt {m : Nat} (row : Int) : goS m row < 2 ^ m := by
  have := Nat.two_pow_pos m
  unfold goS; split <;> omega
theorem goS_bit {m k : Nat} (row : Int) (hk : k < m) : (goS m row).testBit k = (row == 0) := by
  unfold goS
  by_cases h : row = 0
  · rw [if_pos h, Nat.testBit_two_pow_sub_one, h]; simp [hk]
  · rw [if_neg h, Nat.zero_testBit]; simp [h]
theorem prf_row {m : Nat} (h1 : 1 ≤ m) (h5 : m ≤ 5) {row : Int} (hr : row = 0 ∨ row = 1) {st so : Nat} (hs : st < 2 ^ m) :
    prf m (rowT m row) st so = false ↔ (∀ k, k < m → so.testBit k = true → st.testBit k = (goS m row).testBit k) ∧ ∃ k, k < m ∧ so.testBit k = false := by
  have P := prf_iff (m := (m : Int)) (ts := rowT m row) (st := st) (so := so) (by rw [Int.toNat_natCast]; exact hs)
  rw [Int.toNat_natCast] at P
  constructor
  · intro h
    have h' : ¬ prf m (rowT m row) st so = true := by rw [h]; simp
    rw [P] at h'
    constructor
    · intro k hk hb
      by_cases e : st.testBit k = (goS m row).testBit k
      · exact e
      · exfalso
        apply h'
        intro s hs' ha
        have n1 : st ≠ goS m row := fun q => e (by rw [q])
        have n2 : s ≠ goS m row := fun q => e (by rw [← ha k hk hb, q])
        have t1 := mt (row_tv h1 h5 hr hs).1 n1
        have t2 := mt (row_tv h1 h5 hr hs').1 n2
        cases ha : tv (rowT m row) s <;> cases hb : tv (rowT m row) st <;> cases hc : (row == 0) <;> simp_all
    · refine Classical.byContradiction fun hn => h' fun s hs' ha => ?_
      have : s = st := eq_of_low hs' hs fun k hk => by
        cases hb : so.testBit k with
        | true => exact ha k hk hb
        | false => exact absurd ⟨k, hk, hb⟩ hn
      rw [this]
  · rintro ⟨h, k, hk, hb⟩
    have hg := goS_lt (m := m) row
    have hx : goS m row ^^^ 2 ^ k < 2 ^ m := Nat.xor_lt_two_pow hg (Nat.pow_lt_pow_right (by omega) hk)
    cases hp : prf m (rowT m row) st so with
    | false => rfl
    | true =>
      exfalso
      have Q := P.1 hp
      have q1 := Q (goS m row) hg fun j hj hjb => (h j hj hjb).symm
      have q2 := Q (goS m row ^^^ 2 ^ k) hx fun j hj hjb => by
        have : j ≠ k := fun e => by rw [e, hb] at hjb; cases hjb
        rw [Nat.testBit_xor, Nat.testBit_two_pow, h j hj hjb]
        simp [Ne.symm this]
      have t1 := (row_tv h1 h5 hr hg).2 rfl
      have n2 : goS m row ^^^ 2 ^ k ≠ goS m row := fun e => by
        have := congrArg (fun x => Nat.testBit x k) e
        simp only [Nat.testBit_xor, Nat.testBit_two_pow, decide_true] at this
        cases hq : (goS m row).testBit k <;> rw [hq] at this <;> simp at this
      have t2 := mt (row_tv h1 h5 hr hx).1 n2
      rw [q2, ← q1] at t2
      exact t2 t1
theorem agB_ag (ks : List Int) (s : Nat) : agB ks s = ag ks (s : Int) := rfl
theorem owT_row {us : List T} (h : tsOk us = true) {row : Int} (hr : row = 0 ∨ row = 1) {so : Nat} (hn : ∃ k, k < us.length ∧ so.testBit k = false) :
    owT us (rowT us.length row) so = wk us (told us.length (goS us.length row) so) := by
  have h' := tsOk_iff.1 h
  have tk := told_ok (m := us.length) (by omega) (by omega) (goS us.length row) so
  rw [Int.toNat_natCast] at tk
  have tl := told_len us.length (goS us.length row) so
  rw [← wa_wk tl ((ksOk_iff.1 tk).2.2)]
  unfold owT wa
  refine sumTo_congr fun s hs => ?_
  have P := prf_row (m := us.length) (by omega) (by omega) hr (so := so) hs
  have A := ag_told (m := us.length) (st := goS us.length row) (so := so) (s := s)
  rw [agB_ag] at A
  by_cases hp : prf us.length (rowT us.length row) s so = true
  · rw [if_pos hp]
    have : ¬ ag (told us.length (goS us.length row) so) (s : Int) = true := fun ha => by
      have := P.2 ⟨A.1 ha, hn⟩
      rw [hp] at this; cases this
    rw [if_neg this]
  · rw [if_neg hp]
    have hp' : prf us.length (rowT us.length row) s so = false := by simpa using hp
    rw [if_pos (A.2 (P.1 hp').1)]
theorem told_put {m g so a : Nat} (ha : a < m) : told m g (so ||| 2 ^ a) = (told m g so).set a (bI (g.testBit a)) := by
  apply List.ext_getElem?
  intro k
  by_cases hk : k < m
  · by_cases e : k = a
    · subst e
      rw [List.getElem?_set_self (by rw [told_len]; exact ha)]
      simp [told, ha, or_bit]
    · rw [List.getElem?_set_ne (fun q => e q.symm)]
      simp [told, hk, or_bit, Ne.symm e]
  · rw [List.getElem?_eq_none (by rw [told_len]; omega), List.getElem?_eq_none (by rw [List.length_set, told_len]; omega)]
/-- the chance of a test to end a row -/
def eA (us : List T) (row : Int) (a : Nat) : Int := if row = 0 then 6 - (us.getD a (0, 0)).2 else (us.getD a (0, 0)).2
def rA (us : List T) (row : Int) : Int → List Int → Int
  | _, [] => 0
  | on, a :: r => cA us a.toNat * on * 6 ^ (r.length + 1) + rA us row (on * (6 - eA us row a.toNat)) r
theorem eA_bd {us : List T} (h : us.all tOk = true) {row : Int} {a : Nat} (ha : a < us.length) : 1 ≤ eA us row a ∧ eA us row a ≤ 5 := by
  have e : us.getD a (0, 0) = us[a] := by simp [List.getD, ha]
  have := tOk_iff.1 (List.all_eq_true.1 h us[a] (List.getElem_mem ha))
  unfold eA
  rw [e]
  split <;> omega
theorem wk_next {us : List T} {row : Int} (hr : row = 0 ∨ row = 1) {so a : Nat} (ha : a < us.length) (hb : so.testBit a = false) :
    ∃ X, wk us (told us.length (goS us.length row) so) = 6 * X ∧ wk us (told us.length (goS us.length row) (so ||| 2 ^ a)) = (6 - eA us row a) * X := by
  have hk : (told us.length (goS us.length row) so)[a]? = some (-1) := by simp [told, ha, hb]
  obtain ⟨X, x1, x2, x3⟩ := wk_set (us := us) hk ha
  refine ⟨X, x1, ?_⟩
  rw [told_put ha, goS_bit row ha]
  unfold eA
  rcases hr with rfl | rfl
  · rw [if_pos rfl, show (6 : Int) - (6 - (us.getD a (0, 0)).2) = (us.getD a (0, 0)).2 by omega]
    exact x2
  · rw [if_neg (by omega)]
    exact x3
theorem row_cC {us : List T} (h : tsOk us = true) {row : Int} (hr : row = 0 ∨ row = 1) : ∀ (os : List Int) (so : Nat) (on : Int), orS us.length so os = true →
    wk us (told us.length (goS us.length row) so) = on * 6 ^ os.length → cC us (rowT us.length row) so os = rA us row on os
  | [], _, _, _, _ => rfl
  | a :: r, so, on, ho, hw => by
    obtain ⟨o1, o2, o3⟩ := orS_cons.1 ho
    have ha : a.toNat < us.length := by omega
    obtain ⟨X, x1, x2⟩ := wk_next (us := us) hr ha o2
    have e : on * 6 ^ (r.length + 1) = 6 * (on * 6 ^ r.length) := by
      rw [Int.pow_succ, ← Int.mul_assoc, Int.mul_comm 6]
    have hX : X = on * 6 ^ r.length := by
      rw [List.length_cons] at hw
      rw [x1, e] at hw
      omega
    simp only [cC, rA]
    rw [owT_row h hr ⟨a.toNat, ha, o2⟩, hw, List.length_cons, row_cC h hr r (so ||| 2 ^ a.toNat) (on * (6 - eA us row a.toNat)) o3 (by rw [x2, hX, ← Int.mul_assoc, Int.mul_comm on]), Int.mul_assoc]
theorem row_avO {us : List T} (h : tsOk us = true) {row : Int} (hr : row = 0 ∨ row = 1) {os : List Int} (ho : orOk us.length os = true) : avO us (rowT us.length row) os = rA us row 1 os := by
  obtain ⟨g1, g2, g3⟩ := orOk_iff.1 ho
  rw [avO_cC]
  refine row_cC h hr os 0 1 g3 ?_
  have e : told us.length (goS us.length row) 0 = non us.length := by
    unfold told non
    simp [List.map_const']
  rw [e, wk_non, Int.one_mul, show os.length = us.length by omega]
/-- exchanging neighbours -/
theorem rA_swap (us : List T) (row on : Int) (a b : Int) (r : List Int) :
    rA us row on (a :: b :: r) - rA us row on (b :: a :: r) = on * 6 ^ (r.length + 1) * (cA us a.toNat * eA us row b.toNat - cA us b.toNat * eA us row a.toNat) := by
  simp only [rA, List.length_cons]
  rw [show on * (6 - eA us row b.toNat) * (6 - eA us row a.toNat) = on * (6 - eA us row a.toNat) * (6 - eA us row b.toNat) by rw [Int.mul_assoc, Int.mul_assoc, Int.mul_comm (6 - eA us row b.toNat)]]
  generalize rA us row _ r = z
  rw [Int.pow_succ 6 (r.length + 1)]
  generalize (6 : Int) ^ (r.length + 1) = p
  generalize cA us a.toNat = ca
  generalize cA us b.toNat = cb
  generalize eA us row a.toNat = ea
  generalize eA us row b.toNat = eb
  grind
end
section
/-- the one costs no more for its chance to end than the other -/
def rLe (us : List T) (row : Int) (a b : Int) : Bool := decide (cA us a.toNat * eA us row b.toNat ≤ cA us b.toNat * eA us row a.toNat)
def insR (us : List T) (row : Int) (k : Int) : List Int → List Int
  | [] => [k]
  | o :: r => if rLe us row o k = true then o :: insR us row k r else k :: o :: r
def rO (us : List T) (row : Int) : Nat → List Int
  | 0 => []
  | n + 1 => insR us row (n : Int) (rO us row n)
theorem insR_perm (us : List T) (row k : Int) : ∀ l : List Int, (insR us row k l).Perm (k :: l)
  | [] => List.Perm.refl _
  | o :: r => by
    simp only [insR]
    split
    · exact ((insR_perm us row k r).cons o).trans (List.Perm.swap k o r)
    · exact List.Perm.refl _
theorem rO_perm (us : List T) (row : Int) : ∀ n : Nat, (rO us row n).Perm (rng n)
  | 0 => List.Perm.refl _
  | n + 1 => by
    rw [rng_succ]
    exact (insR_perm us row n (rO us row n)).trans (((rO_perm us row n).cons (n : Int)).trans (List.perm_append_comm (l₁ := [(n : Int)])))
theorem rO_mem {us : List T} {row : Int} {n : Nat} {o : Int} (h : o ∈ rO us row n) : 0 ≤ o ∧ o < n := mem_rng.1 ((rO_perm us row n).mem_iff.1 h)
theorem rO_len (us : List T) (row : Int) (n : Nat) : (rO us row n).length = n := by rw [(rO_perm us row n).length_eq, rng_len]
theorem rO_ok {us : List T} (h : tsOk us = true) (row : Int) : orOk us.length (rO us row us.length) = true := by
  have h' := tsOk_iff.1 h
  exact perm_ok (m := us.length) (by omega) (by rw [Int.toNat_natCast]; exact rO_perm us row us.length)
theorem rLe_trans {us : List T} (h : us.all tOk = true) {row a b c : Int} (ha : a.toNat < us.length) (hb : b.toNat < us.length) (hc : c.toNat < us.length)
    (h1 : rLe us row a b = true) (h2 : rLe us row b c = true) : rLe us row a c = true := by
  unfold rLe at *
  rw [decide_eq_true_eq] at *
  have ea := eA_bd h (row := row) ha
  have eb := eA_bd h (row := row) hb
  have ec := eA_bd h (row := row) hc
  refine Int.le_of_mul_le_mul_right (a := eA us row b.toNat) ?_ (by omega)
  have q1 := Int.mul_le_mul_of_nonneg_right h1 (show 0 ≤ eA us row c.toNat by omega)
  have q2 := Int.mul_le_mul_of_nonneg_right h2 (show 0 ≤ eA us row a.toNat by omega)
  revert q1 q2
  generalize cA us a.toNat = ca
  generalize cA us b.toNat = cb
  generalize cA us c.toNat = cc
  generalize eA us row a.toNat = x
  generalize eA us row b.toNat = y
  generalize eA us row c.toNat = z
  intro q1 q2
  have e1 : ca * z * y = ca * y * z := by rw [Int.mul_assoc, Int.mul_comm z, Int.mul_assoc]
  have e2 : cb * x * z = cb * z * x := by rw [Int.mul_assoc, Int.mul_comm x, Int.mul_assoc]
  have e3 : cc * x * y = cc * y * x := by rw [Int.mul_assoc, Int.mul_comm x, Int.mul_assoc]
  omega
theorem rLe_total {us : List T} {row a b : Int} (h : rLe us row a b = false) : rLe us row b a = true := by
  unfold rLe at *
  rw [decide_eq_true_eq]
  rw [decide_eq_false_iff_not] at h
  omega
theorem insR_sorted {us : List T} (h : us.all tOk = true) {row k : Int} (hk : k.toNat < us.length) : ∀ {l : List Int}, (∀ o ∈ l, o.toNat < us.length) → l.Pairwise (fun a b => rLe us row a b = true) → (insR us row k l).Pairwise (fun a b => rLe us row a b = true)
  | [], _, _ => List.pairwise_singleton _ _
  | o :: r, hm, hp => by
    obtain ⟨p1, p2⟩ := List.pairwise_cons.1 hp
    have ho := hm o (List.mem_cons_self ..)
    have hr : ∀ x ∈ r, x.toNat < us.length := fun x hx => hm x (List.mem_cons_of_mem _ hx)
    simp only [insR]
    by_cases hc : rLe us row o k = true
    · rw [if_pos hc]
      refine List.pairwise_cons.2 ⟨fun x hx => ?_, insR_sorted h hk hr p2⟩
      rcases List.mem_cons.1 ((insR_perm us row k r).mem_iff.1 hx) with rfl | hx
      · exact hc
      · exact p1 x hx
    · rw [if_neg hc]
      have hc' : rLe us row k o = true := rLe_total (by simpa using hc)
      refine List.pairwise_cons.2 ⟨fun x hx => ?_, hp⟩
      rcases List.mem_cons.1 hx with rfl | hx
      · exact hc'
      · exact rLe_trans h hk ho (hr x hx) hc' (p1 x hx)
theorem rO_sorted {us : List T} (h : us.all tOk = true) (row : Int) : ∀ n : Nat, n ≤ us.length → (rO us row n).Pairwise (fun a b => rLe us row a b = true)
  | 0, _ => List.Pairwise.nil
  | n + 1, hn => by
    refine insR_sorted h (by omega) (fun o ho => ?_) (rO_sorted h row n (by omega))
    have := rO_mem ho
    omega
/-- the least ratio moved to the front -/
theorem rA_front {us : List T} {row : Int} (h : us.all tOk = true) {a : Int} : ∀ (p q : List Int) (on : Int), 0 ≤ on → (∀ x ∈ p, x.toNat < us.length) → (∀ x ∈ p, rLe us row a x = true) → rA us row on (a :: (p ++ q)) ≤ rA us row on (p ++ a :: q)
  | [], q, on, _, _, _ => Int.le_refl _
  | x :: p, q, on, hon, hx, hl => by
    have s := rA_swap us row on x a (p ++ q)
    have hx0 := hx x (List.mem_cons_self ..)
    have l0 := hl x (List.mem_cons_self ..)
    have ex := eA_bd h (row := row) hx0
    unfold rLe at l0
    rw [decide_eq_true_eq] at l0
    have f := rA_front h (row := row) (a := a) p q (on * (6 - eA us row x.toNat)) (Int.mul_nonneg hon (by omega)) (fun y hy => hx y (List.mem_cons_of_mem _ hy)) (fun y hy => hl y (List.mem_cons_of_mem _ hy))
    have pn : (0 : Int) ≤ on * 6 ^ ((p ++ q).length + 1) * (cA us x.toNat * eA us row a.toNat - cA us a.toNat * eA us row x.toNat) :=
      Int.mul_nonneg (Int.mul_nonneg hon (Int.pow_nonneg (by omega))) (by omega)
    have e1 : rA us row on (x :: a :: (p ++ q)) = cA us x.toNat * on * 6 ^ ((p ++ q).length + 1 + 1) + rA us row (on * (6 - eA us row x.toNat)) (a :: (p ++ q)) := rfl
    have e2 : rA us row on (x :: (p ++ a :: q)) = cA us x.toNat * on * 6 ^ ((p ++ a :: q).length + 1) + rA us row (on * (6 - eA us row x.toNat)) (p ++ a :: q) := rfl
    have e3 : (p ++ a :: q).length = (p ++ q).length + 1 := by simp; omega
    rw [e3] at e2
    show rA us row on (a :: x :: (p ++ q)) ≤ rA us row on (x :: (p ++ a :: q))
    omega
theorem rA_least {us : List T} {row : Int} (h : us.all tOk = true) : ∀ {l p : List Int} {on : Int}, 0 ≤ on → (∀ x ∈ l, x.toNat < us.length) → l.Pairwise (fun a b => rLe us row a b = true) → p.Perm l → rA us row on l ≤ rA us row on p
  | [], p, on, _, _, _, hp => by rw [hp.eq_nil]; exact Int.le_refl _
  | a :: l, p, on, hon, hm, hs, hp => by
    obtain ⟨p1, p2, rfl⟩ := List.append_of_mem (hp.mem_iff.2 (List.mem_cons_self ..))
    have hpp : (p1 ++ p2).Perm l := (List.perm_cons a).1 (List.perm_middle.symm.trans hp)
    obtain ⟨s1, s2⟩ := List.pairwise_cons.1 hs
    have hm1 : ∀ x ∈ p1, x ∈ l := fun x hx => hpp.mem_iff.1 (List.mem_append_left _ hx)
    have f := rA_front h (row := row) (a := a) p1 p2 on hon (fun x hx => hm x (List.mem_cons_of_mem _ (hm1 x hx))) (fun x hx => s1 x (hm1 x hx))
    have ea := eA_bd h (row := row) (hm a (List.mem_cons_self ..))
    have i := rA_least h (row := row) (l := l) (p := p1 ++ p2) (on := on * (6 - eA us row a.toNat)) (Int.mul_nonneg hon (by omega)) (fun x hx => hm x (List.mem_cons_of_mem _ hx)) s2 hpp
    have e1 : rA us row on (a :: l) = cA us a.toNat * on * 6 ^ (l.length + 1) + rA us row (on * (6 - eA us row a.toNat)) l := rfl
    have e2 : rA us row on (a :: (p1 ++ p2)) = cA us a.toNat * on * 6 ^ ((p1 ++ p2).length + 1) + rA us row (on * (6 - eA us row a.toNat)) (p1 ++ p2) := rfl
    rw [hpp.length_eq] at e2
    omega
theorem rng_nodup (n : Nat) : (rng n).Nodup := List.Pairwise.map _ (fun a b h e => h (by omega)) (List.nodup_range (n := n))
theorem or_perm {m : Int} {os : List Int} (h : orOk m os = true) : os.Perm (rng m.toNat) := by
  obtain ⟨g1, g2, g3⟩ := orOk_iff.1 h
  obtain ⟨n1, n2⟩ := orS_nodup.1 g3
  refine (List.perm_ext_iff_of_nodup n2 (rng_nodup _)).2 fun o => ?_
  constructor
  · intro ho
    exact mem_rng.2 (by have := (n1 o ho).1; omega)
  · intro ho
    have hr := mem_rng.1 ho
    have := set_all h o.toNat (by omega)
    rw [setO_bit (fun x hx => (n1 x hx).1.1)] at this
    rcases this with q | q
    · simp at q
    · rwa [Int.toNat_of_nonneg hr.1] at q
/-- No order is better than the one by ratios. -/
theorem rO_least {us : List T} (h : tsOk us = true) {row : Int} {os : List Int} (ho : orOk us.length os = true) : rA us row 1 (rO us row us.length) ≤ rA us row 1 os := by
  have h' := tsOk_iff.1 h
  refine rA_least h'.2 (by omega) (fun x hx => by have := rO_mem hx; omega) (rO_sorted h'.2 row us.length (Nat.le_refl _)) ?_
  have p := or_perm ho
  rw [Int.toNat_natCast] at p
  exact p.trans (rO_perm us row us.length).symm
theorem rO_best {us : List T} (h : tsOk us = true) {row : Int} (hr : row = 0 ∨ row = 1) : rA us row 1 (rO us row us.length) = (boF us (rowT us.length row)).2 := by
  have a := boF_least (t := rowT us.length row) (rO_ok h row)
  rw [row_avO h hr (rO_ok h row)] at a
  have b := rO_least h (row := row) (boF_or h (rowT us.length row))
  rw [← row_avO h hr (boF_or h (rowT us.length row)), ← boF_av] at b
  omega
end
section
theorem cA_other (us : List T) (a : Nat) : cA (us.map other) a = cA us a := by
  unfold cA
  by_cases h : a < us.length
  · simp [List.getD, h, other]
  · simp [List.getD, h]
theorem eA_other {us : List T} {row : Int} (hr : row = 0 ∨ row = 1) {a : Nat} (ha : a < us.length) : eA (us.map other) (1 - row) a = eA us row a := by
  have e : ((us.map other).getD a (0, 0)).2 = 6 - (us.getD a (0, 0)).2 := by simp [List.getD, ha, other]
  unfold eA
  rw [e]
  rcases hr with rfl | rfl
  · rw [if_neg (by omega), if_pos rfl]
  · rw [if_pos (by omega), if_neg (by omega)]; omega
theorem insR_congr {us vs : List T} {row rw' k : Int} : ∀ {l : List Int}, (∀ o ∈ l, rLe us row o k = rLe vs rw' o k) → insR us row k l = insR vs rw' k l
  | [], _ => rfl
  | o :: r, h => by
    simp only [insR]
    rw [h o (List.mem_cons_self ..), insR_congr fun x hx => h x (List.mem_cons_of_mem _ hx)]
theorem rO_other {us : List T} {row : Int} (hr : row = 0 ∨ row = 1) : ∀ n : Nat, n ≤ us.length → rO (us.map other) (1 - row) n = rO us row n
  | 0, _ => rfl
  | n + 1, hn => by
    simp only [rO]
    rw [rO_other hr n (by omega)]
    refine insR_congr fun o ho => ?_
    have := rO_mem ho
    unfold rLe
    rw [cA_other, cA_other, eA_other hr (by omega), eA_other hr (by omega)]
end
section
attribute [-simp] DV.cells
attribute [local simp] sliceD cells_st cells_sl cells_i cells_y cells_b cells_s cells_w
theorem c_spec_l5Ends (c q row : Int) (hq : 1 ≤ q ∧ q ≤ 5) : call lf n_spec_l5Ends [.st [.i c, .i q], .i row] = some (.i (if row = 0 then 6 - q else q), []) := by
  have w1 : wr (6 - q) = 6 - q := wr_id (by omega) (by omega)
  rw [call_k lf n_spec_l5Ends _ (F := F_spec_l5Ends) rfl rfl]
  by_cases h : row = 0
  · simp [F_spec_l5Ends, h, w1]
  · have h' : (row == 0) = false := by simp [h]
    simp [F_spec_l5Ends, h, h']
def rwL (m row : Int) : List T := if nOk m && rwOk row then rowT m.toNat row else []
theorem rowT_succ (i : Nat) (row : Int) : rowT (i + 1) row = rowT i row ++ (if i = 0 then [(0, 0)] else [(0, (i : Int)), (2 + row, 0)]) := by
  simp [rowT, List.range_succ]
theorem rowT_len (i : Nat) (row : Int) : (rowT (i + 1) row).length = 2 * i + 1 := by
  induction i with
  | zero => rfl
  | succ i ih => rw [rowT_succ, List.length_append, ih, if_neg (by omega)]; simp; omega
def raOk (us : List T) (os : List Int) (row : Int) : Bool := tsOk us && orOk us.length os && rwOk row
def raOf (us : List T) (os : List Int) (row : Int) : Int := if raOk us os row then rA us row 1 os else -1
theorem p6le {i j : Nat} (h : i + j ≤ 5) {on : Int} (h0 : 0 ≤ on) (h1 : on ≤ 6 ^ i) : 0 ≤ on * 6 ^ j ∧ on * 6 ^ j ≤ 7776 := by
  have pj := p6 (n := j) (by omega)
  have q := (p6 h).2
  rw [Int.pow_add] at q
  have := Int.mul_le_mul_of_nonneg_right h1 (show (0 : Int) ≤ 6 ^ j by omega)
  have := Int.mul_nonneg h0 (show (0 : Int) ≤ 6 ^ j by omega)
  omega
theorem eA_call {us : List T} (h : us.all tOk = true) {row a : Int} (h0 : 0 ≤ a) (h1 : a < us.length) : ∃ c q : Int, atI (us.map e2) a = some (.st [.i c, .i q]) ∧ c = cA us a.toNat ∧ call lf n_spec_l5Ends [.st [.i c, .i q], .i row] = some (.i (eA us row a.toNat), []) := by
  obtain ⟨c, q, c1, c2, c3⟩ := cA_at (us := us) h0 h1
  refine ⟨c, q, c1, c2, ?_⟩
  have e : us.getD a.toNat (0, 0) = us[a.toNat] := by simp [List.getD, show a.toNat < us.length by omega]
  have tq := tOk_iff.1 (List.all_eq_true.1 h us[a.toNat] (List.getElem_mem (by omega)))
  rw [← e, c3] at tq
  rw [c_spec_l5Ends c q row tq.2]
  unfold eA
  rw [c3]
end
section
attribute [-simp] DV.cells
attribute [local simp] sliceD cells_st cells_sl cells_i cells_y cells_b cells_s cells_w
def insPos (us : List T) (row k : Int) : List Int → Nat
  | [] => 0
  | o :: r => if rLe us row o k = true then insPos us row k r + 1 else 0
theorem insPos_le (us : List T) (row k : Int) : ∀ l : List Int, insPos us row k l ≤ l.length
  | [] => Nat.le_refl _
  | o :: r => by
    have := insPos_le us row k r
    simp only [insPos, List.length_cons]
    split <;> omega
theorem insR_pos (us : List T) (row k : Int) : ∀ l : List Int, insR us row k l = l.take (insPos us row k l) ++ k :: l.drop (insPos us row k l)
  | [] => rfl
  | o :: r => by
    simp only [insR, insPos]
    by_cases h : rLe us row o k = true
    · rw [if_pos h, if_pos h, insR_pos us row k r]; simp
    · rw [if_neg h, if_neg h]; simp
def stIn (us : List T) (row : Int) (K i : Nat) (L : List Int) (a : Nat) : LS := ⟨[(0, .sl 0 (us.map e2)), (1, .i row), (5, .own K L.length 0 L.length), (6, .i i), (7, .i a)], [(K, L.map .i)]⟩
set_option maxHeartbeats 4000000 in
theorem ratio_inner {us : List T} (h : tsOk us = true) (row : Int) {i : Nat} (hi : i < us.length) (L : List Int) (hL : L.length ≤ 5) (hm : ∀ o ∈ L, 0 ≤ o ∧ o < us.length) : ∀ (r p : List Int), L = p ++ r →
    ex lf F_spec_RatioOrder_W1 (stIn us row 4616 i L p.length) = some (.exit 2, stIn us row 4616 i L (p.length + insPos us row i r)) := by
  have h' := tsOk_iff.1 h
  intro r
  induction r with
  | nil =>
    intro p hp
    have e : p.length = L.length := by rw [hp]; simp
    rw [w_spec_RatioOrder_1, e]
    simp [stIn, F_spec_RatioOrder_L1, insPos]
  | cons o r ih =>
    intro p hp
    have lp : p.length < L.length := by rw [hp]; simp
    have ho := hm o (by rw [hp]; simp)
    have ao : atI (L.map DV.i) (p.length : Nat) = some (.i o) := by
      simp only [atI, if_pos (Int.natCast_nonneg _)]
      show (L.map DV.i)[((p.length : Nat) : Int).toNat]? = _
      rw [hp, Int.toNat_natCast]; simp
    have an : atN (L.map DV.i) p.length = some (.i o) := by
      show (L.map DV.i)[p.length]? = _
      rw [hp]; simp
    obtain ⟨c1, q1, x1, x2, x3⟩ := eA_call h'.2 (row := row) ho.1 ho.2
    obtain ⟨c2, q2, y1, y2, y3⟩ := eA_call h'.2 (row := row) (a := (i : Int)) (by omega) (by omega)
    rw [Int.toNat_natCast] at y2 y3
    have b1 := cA_nn h'.2 o.toNat
    have b2 := cA_nn h'.2 i
    have e1 := eA_bd h'.2 (row := row) (a := o.toNat) (by omega)
    have e2' := eA_bd h'.2 (row := row) (a := i) hi
    have m1 : 0 ≤ c1 * eA us row i ∧ c1 * eA us row i ≤ 9 * 5 := ⟨Int.mul_nonneg (by omega) (by omega), Int.mul_le_mul (by omega) (by omega) (by omega) (by omega)⟩
    have m2 : 0 ≤ c2 * eA us row o.toNat ∧ c2 * eA us row o.toNat ≤ 9 * 5 := ⟨Int.mul_nonneg (by omega) (by omega), Int.mul_le_mul (by omega) (by omega) (by omega) (by omega)⟩
    have w1 : wr (c1 * eA us row i) = c1 * eA us row i := wr_id (by omega) (by omega)
    have w2 : wr (c2 * eA us row o.toNat) = c2 * eA us row o.toNat := wr_id (by omega) (by omega)
    have w3 : wr ((p.length : Int) + 1) = ((p.length + 1 : Nat) : Int) := by rw [wr_id (by omega) (by omega)]; omega
    have rl : rLe us row o i = decide (c1 * eA us row i ≤ c2 * eA us row o.toNat) := by unfold rLe; rw [x2, y2, Int.toNat_natCast]
    have ho1 := ho.1
    have ho2 := ho.2
    have I := ih (p ++ [o]) (by rw [hp]; simp)
    rw [List.length_append, List.length_singleton] at I
    rw [w_spec_RatioOrder_1]
    by_cases hc : c1 * eA us row i ≤ c2 * eA us row o.toNat
    · have hp1 : insPos us row i (o :: r) = insPos us row i r + 1 := by simp only [insPos]; rw [if_pos (by rw [rl]; exact decide_eq_true hc)]
      rw [hp1, show p.length + (insPos us row i r + 1) = p.length + 1 + insPos us row i r by omega]
      unfold stIn at *
      simp [F_spec_RatioOrder_L1, lp, ao, an, ho1, ho2, hi, x1, x3, y1, y3, w1, w2, w3, hc, I, -Int.natCast_add]
    · have hp0 : insPos us row i (o :: r) = 0 := by simp only [insPos]; rw [if_neg (by rw [rl]; simpa using hc)]
      rw [hp0]
      unfold stIn
      simp [F_spec_RatioOrder_L1, lp, ao, an, ho1, ho2, hi, x1, x3, y1, y3, w1, w2, w3, hc, -Int.natCast_add]
end
section
attribute [-simp] DV.cells
attribute [local simp] sliceD cells_st cells_sl cells_i cells_y cells_b cells_s cells_w
def roL (us : List T) (row : Int) : List Int := if tsOk us && rwOk row then rO us row us.length else []
def stOu (us : List T) (row : Int) (K : Nat) (L : List Int) (i : Nat) : LS := ⟨[(0, .sl 0 (us.map e2)), (1, .i row), (5, .own K L.length 0 L.length), (6, .i i)], [(K, L.map .i)]⟩
set_option maxHeartbeats 4000000 in
theorem ratio_outer {us : List T} (h : tsOk us = true) {row : Int} (hr : rwOk row = true) (j : Nat) : ∀ (i K : Nat), (K = 4616 ∨ K = 32264) → i + j = us.length →
    ex lf F_spec_RatioOrder_W0 (stOu us row K (rO us row i) i) = some (.exit 0, stOu us row 4616 (rO us row us.length) us.length) := by
  have h' := tsOk_iff.1 h
  have C1 := c_spec_TestsOk us (by omega)
  rw [h] at C1
  have d : decide (0 ≤ row ∧ row ≤ 1) = true := hr
  induction j with
  | zero =>
    intro i K hK hi
    have e : i = us.length := by omega
    subst e
    rw [w_spec_RatioOrder_0]
    rcases hK with rfl | rfl <;> simp [stOu, F_spec_RatioOrder_L0]
  | succ j ih =>
    intro i K hK hi
    have k2 := ih (i + 1) 32264 (.inr rfl) (by omega)
    have hlt : i < us.length := by omega
    have ll := rO_len us row i
    have I := ratio_inner h row hlt (rO us row i) (by omega) (fun o ho => by have := rO_mem ho; omega) (rO us row i) [] rfl
    have pl := insPos_le us row i (rO us row i)
    have e : rO us row (i + 1) = (rO us row i).take (insPos us row i (rO us row i)) ++ (i : Int) :: (rO us row i).drop (insPos us row i (rO us row i)) := insR_pos us row i (rO us row i)
    rw [e] at k2
    rw [List.length_nil, Nat.zero_add] at I
    generalize insPos us row i (rO us row i) = a at *
    generalize rO us row i = L at *
    obtain ⟨x, y, rfl, rfl⟩ : ∃ x y, L = x ++ y ∧ x.length = a := ⟨L.take a, L.drop a, (List.take_append_drop a L).symm, by simp; omega⟩
    have s1 : (x ++ y).take x.length = x := by simp
    have s2 : (x ++ y).drop x.length = y := by simp
    rw [s1, s2] at k2
    have lxy : x.length + y.length = i := by simpa using ll
    have w1 : wr ((i : Int) + 1) = ((i + 1 : Nat) : Int) := by rw [wr_id (by omega) (by omega)]; omega
    have c1 : x.length ≤ bound := by unfold bound; omega
    have c2 : x.length + 1 ≤ bound := by unfold bound; omega
    have c3 : i + 1 ≤ bound := by unfold bound; omega
    have xi : x.length ≤ i := by omega
    have t1 : ((x ++ y).map DV.i).take x.length = x.map .i := by simp
    have t2 : ((x ++ y).map DV.i).drop x.length = y.map .i := by simp
    have t4 : List.take i ((x ++ y).map DV.i) = (x ++ y).map DV.i := List.take_of_length_le (by simp; omega)
    have hL : ((x ++ y).map DV.i).length = i := by simp; omega
    have e1 : x.length + 1 + y.length = i + 1 := by omega
    have e3 : x.length + (y.length + 1) = i + 1 := by omega
    have n0 : ¬ (i < x.length) := by omega
    unfold stOu stIn at *
    rw [ll] at I ⊢
    simp only [Int.natCast_zero] at I
    rw [w_spec_RatioOrder_0]
    simp only [List.length_append, List.length_cons, List.map_append, List.map_cons, e3] at k2
    generalize (x ++ y).map DV.i = M at *
    rcases hK with rfl | rfl <;> simp [F_spec_RatioOrder_L0, hlt, C1, d, c_spec_l1In, I, w1, hL, t1, t2, t4, c1, c2, c3, xi, e1, k2, -Int.natCast_add]
theorem c_spec_RatioOrder (us : List T) (row : Int) (ha : (us.length : Int) < 1099511627776) : call lf n_spec_RatioOrder [.sl 0 (us.map e2), .i row] = some (.fr 1 ((roL us row).map .i), []) := by
  rw [call_k lf n_spec_RatioOrder _ (F := F_spec_RatioOrder) rfl rfl]
  unfold roL
  by_cases h : (tsOk us && rwOk row) = true
  · rw [if_pos h]
    rw [Bool.and_eq_true] at h
    have L := ratio_outer h.1 h.2 us.length 0 4616 (.inl rfl) (by omega)
    unfold stOu at L
    have z : (rO us row 0).map DV.i = [] := rfl
    have z' : (rO us row 0).length = 0 := rfl
    rw [z, z'] at L
    simp only [Int.natCast_zero] at L
    have ll := rO_len us row us.length
    have tk : List.take us.length ((rO us row us.length).map DV.i) = (rO us row us.length).map .i := List.take_of_length_le (by simp [ll])
    rw [ll] at L
    simp [F_spec_RatioOrder, L, ll, tk]
  · rw [if_neg h]
    have C1 := c_spec_TestsOk us ha
    have L' : ex lf F_spec_RatioOrder_W0 ⟨[(0, .sl 0 (us.map e2)), (1, .i row), (5, .own 4616 0 0 0), (6, .i 0)], [(4616, [])]⟩ = some (.exit 0, ⟨[(0, .sl 0 (us.map e2)), (1, .i row), (5, .own 4616 0 0 0), (6, .i 0)], [(4616, [])]⟩) := by
      rw [w_spec_RatioOrder_0]
      by_cases h0 : 0 < us.length
      · cases h1 : tsOk us with
        | false => rw [h1] at C1; simp [F_spec_RatioOrder_L0, h0, C1]
        | true =>
          rw [h1] at C1
          have h2 : decide (0 ≤ row ∧ row ≤ 1) = false := by
            cases h2 : decide (0 ≤ row ∧ row ≤ 1) with
            | false => rfl
            | true => exact absurd (by rw [Bool.and_eq_true]; exact ⟨h1, h2⟩) h
          simp [F_spec_RatioOrder_L0, h0, C1, c_spec_l1In, h2]
      · simp [F_spec_RatioOrder_L0, h0]
    simp [F_spec_RatioOrder, L']
end
section
attribute [-simp] DV.cells
attribute [local simp] sliceD cells_st cells_sl cells_i cells_y cells_b cells_s cells_w
def czT (t : T) : T := (wr (1 + wr (t.1.tdiv 4)), t.2)
def stCz (cs : List Nat) (p : Int) (n : Nat) (L : List T) (i : Nat) : LS := ⟨[(4, .oad 4112 1 0 0), (5, .own 5136 n 0 n), (6, .i i)], [(4112, [.st [.sl 0 (cs.map .y), .i p]]), (5136, L.map e2)]⟩
set_option maxHeartbeats 4000000 in
theorem cheap_loop (cs : List Nat) (p : Int) {n : Nat} (hn : n ≤ 5) : ∀ (r d : List T), d.length + r.length = n →
    ex lf F_spec_DrawRatioOrder_W0 (stCz cs p n (d ++ r) d.length) = some (.exit 0, stCz cs p n (d ++ r.map czT) n)
  | [], d, hl => by
    have e : d.length = n := by simpa using hl
    rw [w_spec_DrawRatioOrder_0, e]
    simp [stCz, F_spec_DrawRatioOrder_L0]
  | t :: r, d, hl => by
    obtain ⟨c, q⟩ := t
    have I := cheap_loop cs p hn r (d ++ [czT (c, q)]) (by simp at hl ⊢; omega)
    rw [List.append_assoc, List.append_assoc, List.length_append, List.length_singleton] at I
    have lt : d.length < n := by simp at hl; omega
    have w1 : wr ((d.length : Int) + 1) = ((d.length + 1 : Nat) : Int) := by rw [wr_id (by omega) (by omega)]; omega
    have ai : atI ((d ++ (c, q) :: r).map e2) (d.length : Nat) = some (.st [.i c, .i q]) := by
      simp only [atI, if_pos (Int.natCast_nonneg _)]
      show ((d ++ (c, q) :: r).map e2)[((d.length : Nat) : Int).toNat]? = _
      rw [Int.toNat_natCast]; simp [e2]
    have an : atN ((d ++ (c, q) :: r).map e2) d.length = some (.st [.i c, .i q]) := by
      show ((d ++ (c, q) :: r).map e2)[d.length]? = _
      simp [e2]
    have st : ((d ++ (c, q) :: r).map e2).set d.length (.st [.i (wr (1 + wr (c.tdiv 4))), .i q]) = (d ++ czT (c, q) :: r).map e2 := by
      rw [List.map_append, List.map_append, List.set_append_right _ _ (by simp)]
      simp [czT, e2]
    have hL : ((d ++ (c, q) :: r).map e2).length = n := by simpa using hl
    have e1 : [czT (c, q)] ++ r = czT (c, q) :: r := rfl
    have e3 : [czT (c, q)] ++ r.map czT = ((c, q) :: r).map czT := rfl
    rw [e1, e3] at I
    unfold stCz at *
    simp only [List.map_append, List.map_cons, List.map_map] at I
    rw [w_spec_DrawRatioOrder_0]
    generalize (d ++ (c, q) :: r).map e2 = L at *
    simp [F_spec_DrawRatioOrder_L0, lt, ai, an, st, hL, w1, I, -Int.natCast_add]
theorem c_DrawRatioOrder {bs : List Nat} (hb : ∀ y ∈ bs, y < 256) (hl : bs.length ≤ 1048576) :
    ∃ (us : List T) (row : Int), us.length ≤ 5 ∧ (0 ≤ row ∧ row ≤ 2) ∧ call lf n_spec_DrawRatioOrder [.sl 0 (bs.map .y)] = some (.tup [.fr 2 (us.map e2), .i row], []) := by
  obtain ⟨c1, c2⟩ := take_b hb
  have o := c_open hl
  generalize bs.take 2000 = cs at *
  obtain ⟨us, q, u1, q1, q2, h⟩ := c_l20Tests c1 c2 (p := 0) (n := 12) (by omega) (by omega) (by omega) (by omega)
  have k3 := c_pick c1 c2 (p := q) (n := 3) (by omega) (by omega) (by omega)
  have k4 := c_pick c1 c2 (p := q + 1) (n := 2) (by omega) (by omega) (by omega)
  have a4 := pk_bound c1 (p := q + 1) (n := 2) (by omega) (by omega) (by omega)
  have k5 := c_pick c1 c2 (p := q + 1 + 1) (n := 40) (by omega) (by omega) (by omega)
  have a5 := pk_bound c1 (p := q + 1 + 1) (n := 40) (by omega) (by omega) (by omega)
  have q5 := quo39 a5.1 a5.2
  have w1 : wr ((pk cs (q + 1 + 1) 40).tdiv 39) = (pk cs (q + 1 + 1) 40).tdiv 39 := wr_id (by omega) (by omega)
  have w2 : wr (pk cs (q + 1) 2 + (pk cs (q + 1 + 1) 40).tdiv 39) = pk cs (q + 1) 2 + (pk cs (q + 1 + 1) 40).tdiv 39 := wr_id (by omega) (by omega)
  by_cases h0 : pk cs q 3 = 0
  · have L := cheap_loop cs (q + 1) u1 us [] (by simp)
    unfold stCz at L
    simp only [List.length_nil, List.nil_append, Int.natCast_zero] at L
    have tk : List.take us.length ((us.map czT).map e2) = (us.map czT).map e2 := List.take_of_length_le (by simp)
    refine ⟨us.map czT, pk cs (q + 1) 2 + (pk cs (q + 1 + 1) 40).tdiv 39, by simpa using u1, by omega, ?_⟩
    rw [call_k lf n_spec_DrawRatioOrder _ (F := F_spec_DrawRatioOrder) rfl rfl]
    have hl2 : ((us.map czT).map e2).length = us.length := by simp
    generalize (us.map czT).map e2 = M at *
    simp [F_spec_DrawRatioOrder, o, h, k3, k4, k5, w1, w2, h0, L, tk, hl2]
  · have h0' : (pk cs q 3 == 0) = false := by simp [h0]
    refine ⟨us, pk cs (q + 1) 2 + (pk cs (q + 1 + 1) 40).tdiv 39, u1, by omega, ?_⟩
    rw [call_k lf n_spec_DrawRatioOrder _ (F := F_spec_DrawRatioOrder) rfl rfl]
    simp [F_spec_DrawRatioOrder, o, h, k3, k4, k5, w1, w2, h0']
end
section
attribute [-simp] DV.cells
attribute [local simp] sliceD cells_st cells_sl cells_i cells_y cells_b cells_s cells_w
theorem c_impl_rowOk (row : Int) : call lf n_impl_rowOk [.i row] = some (.b (rwOk row), []) := by
  rw [call_k lf n_impl_rowOk _ (F := F_impl_rowOk) rfl rfl]
  have e : rwOk row = (row == 0 || row == 1) := by
    unfold rwOk
    by_cases h0 : row = 0
    · subst h0; rfl
    · by_cases h1 : row = 1
      · subst h1; rfl
      · have n0 : (row == 0) = false := beq_eq_false_iff_ne.2 h0
        have n1 : (row == 1) = false := beq_eq_false_iff_ne.2 h1
        rw [n0, n1]
        exact decide_eq_false (by omega)
  rw [e]
  cases h0 : (row == 0) with
  | true => simp [F_impl_rowOk, h0]
  | false => simp [F_impl_rowOk, h0]
theorem c_impl_endChance (c q row : Int) (hq : 1 ≤ q ∧ q ≤ 5) : call lf n_impl_endChance [.st [.i c, .i q], .i row] = some (.i (if row = 0 then 6 - q else q), []) := by
  have w1 : wr (6 - q) = 6 - q := wr_id (by omega) (by omega)
  rw [call_k lf n_impl_endChance _ (F := F_impl_endChance) rfl rfl]
  by_cases h : row = 0
  · simp [F_impl_endChance, h, w1]
  · have h' : (row == 0) = false := by simp [h]
    simp [F_impl_endChance, h, h']
theorem c_impl_wholeOf {n : Nat} (hn : n ≤ 5) : call lf n_impl_wholeOf [.i n] = some (.i (6 ^ n), []) := by
  rw [call_k lf n_impl_wholeOf _ (F := F_impl_wholeOf) rfl rfl]
  have L := loop_count (lf := lf) (L := F_impl_wholeOf_L0) n (fun i => ⟨[(3, .i (6 ^ i)), (4, .i n), (5, .i i)], []⟩) (x := .exit 0) (R := ⟨[(3, .i (6 ^ n)), (4, .i n), (5, .i n)], []⟩) (fun i hi => by
    have p := p6 (n := i) (by omega)
    have w1 : wr ((i : Int) + 1) = i + 1 := wr_id (by omega) (by omega)
    have w2 : wr ((6 : Int) ^ i * 6) = 6 ^ i * 6 := wr_id (by omega) (by omega)
    simp [F_impl_wholeOf_L0, hi, w1, w2, Int.pow_succ]) (by simp [F_impl_wholeOf_L0]) (by simp)
  have L' : ex lf F_impl_wholeOf_W0 ⟨[(3, .i 1), (4, .i n), (5, .i 0)], []⟩ = some (.exit 0, ⟨[(3, .i (6 ^ n)), (4, .i n), (5, .i n)], []⟩) := L
  simp [F_impl_wholeOf, L']
def stRi (m row : Int) (L : List T) (i : Nat) : LS := ⟨[(0, .i m), (5, .oad 2576 1 0 0), (6, .own 10768 L.length 0 L.length), (7, .i i)], [(2576, [.st [.i (2 + row), .i 0]]), (10768, L.map e2)]⟩
set_option maxHeartbeats 4000000 in
theorem c_impl_RowTerm (m row : Int) : call lf n_impl_RowTerm [.i m, .i row] = some (.fr 2 ((rwL m row).map e2), []) := by
  rw [call_k lf n_impl_RowTerm _ (F := F_impl_RowTerm) rfl rfl]
  unfold rwL
  by_cases h : (nOk m && rwOk row) = true
  · rw [if_pos h]
    rw [Bool.and_eq_true] at h
    have hm : 1 ≤ m ∧ m ≤ 5 := by simpa [nOk] using h.1
    have hr := rwOk_iff.1 h.2
    obtain ⟨n, rfl⟩ : ∃ n : Nat, m = (n + 1 : Nat) := ⟨m.toNat - 1, by omega⟩
    rw [Int.toNat_natCast]
    have L := loop_count (lf := lf) (L := F_impl_RowTerm_L0) n (fun i => stRi (n + 1 : Nat) row (rowT (i + 1) row) (i + 1)) (x := .exit 0) (R := stRi (n + 1 : Nat) row (rowT (n + 1) row) (n + 1)) (fun i hi => by
      have w1 : wr (((i + 1 : Nat) : Int) + 1) = ((i + 1 + 1 : Nat) : Int) := by rw [wr_id (by omega) (by omega)]; omega
      have hi' : ((i + 1 : Nat) : Int) < ((n + 1 : Nat) : Int) := by omega
      have hi2 : i + 1 < n + 1 := by omega
      have len := rowT_len i row
      have sc := rowT_succ (i + 1) row
      rw [if_neg (by omega)] at sc
      have lb1 : 2 * i + 1 + 2 ≤ bound := by unfold bound; omega
      unfold stRi
      rw [sc]
      have tk0 : List.take (2 * i + 1) ((rowT (i + 1) row).map e2) = (rowT (i + 1) row).map e2 := List.take_of_length_le (by simp [len])
      generalize rowT (i + 1) row = L at *
      simp [F_impl_RowTerm_L0, hi, hi', hi2, w1, lb1, len, tk0, e2, -Int.natCast_add]) (by simp [stRi, F_impl_RowTerm_L0]) (by simp)
    have L' : ex lf F_impl_RowTerm_W0 ⟨[(0, .i (n + 1 : Nat)), (5, .oad 2576 1 0 0), (6, .own 10768 1 0 1), (7, .i 1)], [(2576, [.st [.i (2 + row), .i 0]]), (10768, [.st [.i 0, .i 0]])]⟩ = some (.exit 0, stRi (n + 1 : Nat) row (rowT (n + 1) row) (n + 1)) := L
    unfold stRi at L'
    have len := rowT_len n row
    have tk0 : List.take (2 * n + 1) ((rowT (n + 1) row).map e2) = (rowT (n + 1) row).map e2 := List.take_of_length_le (by simp [len])
    rcases hr with rfl | rfl
    · simp [-Int.natCast_add] at L'
      simp [F_impl_RowTerm, c_impl_manyOk, c_impl_rowOk, h.1, h.2, L', len, tk0, -Int.natCast_add]
    · simp [-Int.natCast_add] at L'
      simp [F_impl_RowTerm, c_impl_manyOk, c_impl_rowOk, h.1, h.2, L', len, tk0, -Int.natCast_add]
  · rw [if_neg h]
    cases h1 : nOk m with
    | false => simp [F_impl_RowTerm, c_impl_manyOk, h1]
    | true =>
      have h2 : rwOk row = false := by
        cases h2 : rwOk row with
        | false => rfl
        | true => exact absurd (by rw [h1, h2]; rfl) h
      simp [F_impl_RowTerm, c_impl_manyOk, c_impl_rowOk, h1, h2]
theorem eA_calli {us : List T} (h : us.all tOk = true) {row a : Int} (h0 : 0 ≤ a) (h1 : a < us.length) : ∃ c q : Int, atI (us.map e2) a = some (.st [.i c, .i q]) ∧ c = cA us a.toNat ∧ call lf n_impl_endChance [.st [.i c, .i q], .i row] = some (.i (eA us row a.toNat), []) := by
  obtain ⟨c, q, c1, c2, c3⟩ := cA_at (us := us) h0 h1
  refine ⟨c, q, c1, c2, ?_⟩
  have e : us.getD a.toNat (0, 0) = us[a.toNat] := by simp [List.getD, show a.toNat < us.length by omega]
  have tq := tOk_iff.1 (List.all_eq_true.1 h us[a.toNat] (List.getElem_mem (by omega)))
  rw [← e, c3] at tq
  rw [c_impl_endChance c q row tq.2]
  unfold eA
  rw [c3]
set_option maxHeartbeats 4000000 in
theorem l_impl_RowAverage {us : List T} (h : tsOk us = true) (row : Int) (os : List Int) (ho5 : os.length ≤ 5) (rest : List Int) : ∀ (k : Nat) (on sum : Int) (so : Nat), orS us.length so rest = true → 0 ≤ on → on ≤ 6 ^ k → 0 ≤ sum → sum ≤ 70000 * k → k + rest.length = os.length → (os.map DV.i).drop k = rest.map .i →
    ∃ on' : Int, ex lf F_impl_RowAverage_W0 ⟨[(0, .sl 0 (us.map e2)), (2, .i row), (8, .i sum), (9, .i (on * 6 ^ rest.length)), (30, .sl 0 (os.map .i)), (31, .i os.length), (32, .i k)], []⟩ =
      some (.exit 0, ⟨[(0, .sl 0 (us.map e2)), (2, .i row), (8, .i (sum + rA us row on rest)), (9, .i on'), (30, .sl 0 (os.map .i)), (31, .i os.length), (32, .i os.length)], []⟩) := by
  have h' := tsOk_iff.1 h
  induction rest with
  | nil =>
    intro k on sum so ho n0 n1 s0 s1 hn hd
    have hk : k = os.length := by simpa using hn
    refine ⟨on * 6 ^ ([] : List Int).length, ?_⟩
    rw [w_impl_RowAverage_0]
    simp [F_impl_RowAverage_L0, hk, rA]
  | cons a rest ih =>
    intro k on sum so ho n0 n1 s0 s1 hn hd
    obtain ⟨o1, o2, o3⟩ := orS_cons.1 ho
    have hn2 : (k : Int) + ((DV.i a :: rest.map DV.i).length : Nat) = os.length := by simp at hn ⊢; omega
    obtain ⟨q1, q2, q3, q4, q5, q6⟩ := stp (es := os.map DV.i) (by omega) hn2 (by omega) (by simpa using hd)
    have kl : k < os.length := by omega
    obtain ⟨c, q, x1, x2, x3⟩ := eA_calli h'.2 (row := row) o1.1 o1.2
    have cn := cA_nn h'.2 a.toNat
    have ea := eA_bd h'.2 (row := row) (a := a.toNat) (by omega)
    have hl : rest.length + 1 = os.length - k := by simp at hn; omega
    have pb := p6le (i := k) (j := rest.length + 1) (by omega) n0 n1
    have pk := p6 (n := k) (by omega)
    have pr := p6 (n := rest.length) (by omega)
    have m2 : 0 ≤ c * (on * 6 ^ (rest.length + 1)) ∧ c * (on * 6 ^ (rest.length + 1)) ≤ 9 * 7776 := by
      exact ⟨Int.mul_nonneg (by omega) pb.1, Int.mul_le_mul (by omega) pb.2 pb.1 (by omega)⟩
    have w3 : wr (c * (on * 6 ^ (rest.length + 1))) = c * (on * 6 ^ (rest.length + 1)) := wr_id (by omega) (by omega)
    have w4 : wr (sum + c * (on * 6 ^ (rest.length + 1))) = sum + c * (on * 6 ^ (rest.length + 1)) := wr_id (by omega) (by omega)
    have w5 : wr (6 - eA us row a.toNat) = 6 - eA us row a.toNat := wr_id (by omega) (by omega)
    have dv : (on * 6 ^ (rest.length + 1)).tdiv 6 = on * 6 ^ rest.length := by
      rw [Int.pow_succ, ← Int.mul_assoc]
      exact Int.mul_tdiv_cancel _ (by omega)
    have pb0 : 0 ≤ on * 6 ^ rest.length ∧ on * 6 ^ rest.length ≤ 7776 := p6le (i := k) (j := rest.length) (by omega) n0 n1
    have w7 : wr (on * 6 ^ rest.length) = on * 6 ^ rest.length := wr_id (by omega) (by omega)
    have m3 : 0 ≤ on * (6 - eA us row a.toNat) ∧ on * (6 - eA us row a.toNat) ≤ 6 ^ (k + 1) := by
      refine ⟨Int.mul_nonneg n0 (by omega), ?_⟩
      rw [Int.pow_succ]
      exact Int.mul_le_mul n1 (by omega) (by omega) (by omega)
    have m4 : 0 ≤ on * 6 ^ rest.length * (6 - eA us row a.toNat) ∧ on * 6 ^ rest.length * (6 - eA us row a.toNat) ≤ 7776 * 6 :=
      ⟨Int.mul_nonneg pb0.1 (by omega), Int.mul_le_mul pb0.2 (by omega) (by omega) (by omega)⟩
    have w8 : wr (on * 6 ^ rest.length * (6 - eA us row a.toNat)) = on * (6 - eA us row a.toNat) * 6 ^ rest.length := by
      rw [wr_id (by omega) (by omega), Int.mul_assoc, Int.mul_assoc, Int.mul_comm (6 ^ rest.length)]
    have e : sum + rA us row on (a :: rest) = sum + c * (on * 6 ^ (rest.length + 1)) + rA us row (on * (6 - eA us row a.toNat)) rest := by simp only [rA, x2, Int.mul_assoc]; omega
    obtain ⟨on', I⟩ := ih (k + 1) (on * (6 - eA us row a.toNat)) (sum + c * (on * 6 ^ (rest.length + 1))) _ o3 m3.1 m3.2 (by omega) (by omega) (by simp at hn; omega) (by simpa using q6)
    refine ⟨on', ?_⟩
    have q3' : wr ((k : Int) + 1) = ((k + 1 : Nat) : Int) := by rw [q3]; omega
    have o11 := o1.1
    have o12 := o1.2
    rw [w_impl_RowAverage_0, e]
    simp only [List.length_cons] at *
    generalize on * (6 - eA us row a.toNat) * 6 ^ rest.length = G at *
    generalize on * 6 ^ (rest.length + 1) = P at *
    generalize on * 6 ^ rest.length = Q at *
    generalize rA us row _ rest = Z at *
    generalize eA us row a.toNat = E at *
    simp [F_impl_RowAverage_L0, kl, q1, q2, q3', o11, o12, x1, x3, w3, w4, w5, dv, w7, w8, I, -Int.natCast_add]
theorem c_impl_RowAverage (us : List T) (os : List Int) (row : Int) (ha : (us.length : Int) < 1099511627776) (hc : (os.length : Int) < 1099511627776) :
    call lf n_impl_RowAverage [.sl 0 (us.map e2), .sl 0 (os.map .i), .i row] = some (.i (raOf us os row), []) := by
  rw [call_k lf n_impl_RowAverage _ (F := F_impl_RowAverage) rfl rfl]
  have C1 := c_impl_TestsOk us ha
  have C3 := c_impl_OrderOk us.length os hc
  have C4 := c_impl_rowOk row
  unfold raOf raOk
  cases h1 : tsOk us with
  | false => rw [h1] at C1; simp [F_impl_RowAverage, C1]
  | true =>
    rw [h1] at C1
    cases h3 : orOk us.length os with
    | false => rw [h3] at C3; simp [F_impl_RowAverage, C1, C3]
    | true =>
      rw [h3] at C3
      cases h4 : rwOk row with
      | false =>
        rw [h4] at C4
        simp [F_impl_RowAverage, C1, C3, C4]
      | true =>
        rw [h4] at C4
        obtain ⟨g1, g2, g3⟩ := orOk_iff.1 h3
        have W := c_impl_wholeOf (n := us.length) (by omega)
        obtain ⟨on', L⟩ := l_impl_RowAverage h1 row os (by omega) os 0 1 0 0 g3 (by omega) (by omega) (by omega) (by omega) (by omega) (by simp)
        have el : os.length = us.length := by omega
        simp only [Int.natCast_zero, Int.zero_add, Int.one_mul, el] at L
        simp [F_impl_RowAverage, C1, C3, C4, W, el, L]
end
section
attribute [-simp] DV.cells
attribute [local simp] sliceD cells_st cells_sl cells_i cells_y cells_b cells_s cells_w
theorem rwL_ok {us : List T} {row : Int} (h : tsOk us = true) (hr : rwOk row = true) : rwL us.length row = rowT us.length row := by
  unfold rwL
  rw [if_pos (by rw [hr, Bool.and_true]; unfold tsOk at h; rw [Bool.and_eq_true] at h; exact h.1), Int.toNat_natCast]
end
section
attribute [-simp] DV.cells
attribute [local simp] sliceD cells_st cells_sl cells_i cells_y cells_b cells_s cells_w
theorem c_impl_ratioOf (c q row : Int) (hq : 1 ≤ q ∧ q ≤ 5) : call lf n_impl_ratioOf [.st [.i c, .i q], .i row] = some (.st [.i c, .i (if row = 0 then 6 - q else q)], []) := by
  rw [call_k lf n_impl_ratioOf _ (F := F_impl_ratioOf) rfl rfl]
  have C := c_impl_endChance c q row hq
  generalize (if row = 0 then 6 - q else q) = z at *
  simp [F_impl_ratioOf, C]
theorem c_impl_isLess (a b x y : Int) (h1 : 0 ≤ a * y ∧ a * y ≤ 1000) (h2 : 0 ≤ x * b ∧ x * b ≤ 1000) : call lf n_impl_ratio_isLess [.st [.i a, .i b], .st [.i x, .i y]] = some (.b (decide (a * y < x * b)), []) := by
  rw [call_k lf n_impl_ratio_isLess _ (F := F_impl_ratio_isLess) rfl rfl]
  have w1 : wr (a * y) = a * y := wr_id (by omega) (by omega)
  have w2 : wr (x * b) = x * b := wr_id (by omega) (by omega)
  simp [F_impl_ratio_isLess, w1, w2]
theorem c_impl_less {us : List T} (h : tsOk us = true) (row : Int) {a b : Int} (ha : 0 ≤ a ∧ a < us.length) (hb : 0 ≤ b ∧ b < us.length) :
    call lf n_impl_RatioOrder_1 [.i a, .i b, .adr (.sl 0 (us.map e2)), .adr (.i row)] = some (.b (!(rLe us row b a)), []) := by
  have h' := tsOk_iff.1 h
  obtain ⟨c1, q1, x1, x2, x3⟩ := cA_at (us := us) ha.1 ha.2
  obtain ⟨c2, q2, y1, y2, y3⟩ := cA_at (us := us) hb.1 hb.2
  have tq1 := tOk_iff.1 (List.all_eq_true.1 h'.2 us[a.toNat] (List.getElem_mem (by omega)))
  have tq2 := tOk_iff.1 (List.all_eq_true.1 h'.2 us[b.toNat] (List.getElem_mem (by omega)))
  rw [← show us.getD a.toNat (0, 0) = us[a.toNat] by simp [List.getD, show a.toNat < us.length by omega], x3] at tq1
  rw [← show us.getD b.toNat (0, 0) = us[b.toNat] by simp [List.getD, show b.toNat < us.length by omega], y3] at tq2
  have R1 := c_impl_ratioOf c1 q1 row tq1.2
  have R2 := c_impl_ratioOf c2 q2 row tq2.2
  have e1 : (if row = 0 then 6 - q1 else q1) = eA us row a.toNat := by unfold eA; rw [x3]
  have e2' : (if row = 0 then 6 - q2 else q2) = eA us row b.toNat := by unfold eA; rw [y3]
  rw [e1] at R1
  rw [e2'] at R2
  have b1 := eA_bd h'.2 (row := row) (a := a.toNat) (by omega)
  have b2 := eA_bd h'.2 (row := row) (a := b.toNat) (by omega)
  have t1 := tq1.1
  have t2 := tq2.1
  simp only at t1 t2
  have I := c_impl_isLess c1 (eA us row a.toNat) c2 (eA us row b.toNat) ⟨Int.mul_nonneg (by omega) (by omega), Int.le_trans (Int.mul_le_mul (show c1 ≤ 9 by omega) (show eA us row b.toNat ≤ 5 by omega) (by omega) (by omega)) (by omega)⟩ ⟨Int.mul_nonneg (by omega) (by omega), Int.le_trans (Int.mul_le_mul (show c2 ≤ 9 by omega) (show eA us row a.toNat ≤ 5 by omega) (by omega) (by omega)) (by omega)⟩
  have e : (!(rLe us row b a)) = decide (c1 * eA us row b.toNat < c2 * eA us row a.toNat) := by
    unfold rLe
    rw [← x2, ← y2]
    by_cases hc : c2 * eA us row a.toNat ≤ c1 * eA us row b.toNat
    · rw [decide_eq_true hc, decide_eq_false (by omega)]; rfl
    · rw [decide_eq_false hc, decide_eq_true (by omega)]; rfl
  rw [e]
  have ha1 := ha.1
  have ha2 := ha.2
  have hb1 := hb.1
  have hb2 := hb.2
  rw [call_k lf n_impl_RatioOrder_1 _ (F := F_impl_RatioOrder_1) rfl rfl]
  simp [F_impl_RatioOrder_1, x1, y1, R1, R2, I]
theorem c_Insert (es : List DV) (x : DV) {n : Nat} (hn : n ≤ es.length) (hb : es.length ≤ 1000) : call lf n_slices_Insert_int_int [.gv 1 es, .i n, .gv 1 [x]] = some (.fr 1 (es.take n ++ x :: es.drop n), []) := by
  rw [call_prim lf n_slices_Insert_int_int _ (F := F_slices_Insert_int_int) rfl rfl, ins_k, if_pos ⟨by omega, by omega, by simp [bound]; omega, by simp⟩]
  simp
def stIs (us : List T) (row k : Int) (L : List Int) (a : Nat) : LS := ⟨[(0, .own 14 L.length 0 L.length), (1, .i k), (2, .fn n_impl_RatioOrder_1 [.adr (.sl 0 (us.map e2)), .adr (.i row)]), (7, .i a)], [(14, L.map .i)]⟩
set_option maxHeartbeats 4000000 in
theorem ins_loop {us : List T} (h : tsOk us = true) (row : Int) {k : Int} (hk : 0 ≤ k ∧ k < us.length) {L : List Int} (hL : L.length ≤ 5) {p : Nat} (H : ∀ j (hj : j < L.length), (0 ≤ L[j] ∧ L[j] < us.length) ∧ rLe us row L[j] k = decide (j < p)) : ∀ d : Nat, p + d ≤ L.length →
    ex lf F_impl_inserted_int_W0 (stIs us row k L (p + d)) = some (.exit 0, stIs us row k L p) := by
  have tk : List.take L.length (L.map DV.i) = L.map .i := List.take_of_length_le (by simp)
  have one : ∀ (j : Nat) (hj : j < L.length), atI (L.map DV.i) ((j : Nat) : Int) = some (.i L[j]) ∧ atN (L.map DV.i) j = some (.i L[j]) ∧ wr (((j + 1 : Nat) : Int) - 1) = (j : Nat) ∧ (0 : Int) < ((j + 1 : Nat) : Int) ∧ call lf n_impl_RatioOrder_1 [.i k, .i L[j], .adr (.sl 0 (us.map e2)), .adr (.i row)] = some (.b (!(decide (j < p))), []) := by
    intro j hj
    obtain ⟨h1, h2⟩ := H j hj
    refine ⟨?_, ?_, ?_, by omega, ?_⟩
    · simp only [atI, if_pos (Int.natCast_nonneg _)]
      show (L.map DV.i)[((j : Nat) : Int).toNat]? = _
      rw [Int.toNat_natCast]; simp [hj]
    · show (L.map DV.i)[j]? = _
      simp [hj]
    · rw [wr_id (by omega) (by omega)]; omega
    · rw [c_impl_less h row hk h1, h2]
  intro d
  induction d with
  | zero =>
    intro hd
    cases p with
    | zero =>
      rw [w_impl_inserted_int_0]
      simp [stIs, F_impl_inserted_int_L0]
    | succ p =>
      obtain ⟨q1, q2, q3, q4, q5⟩ := one p (by omega)
      rw [decide_eq_true (show p < p + 1 by omega)] at q5
      have hp : p < L.length := by omega
      rw [w_impl_inserted_int_0]
      simp [stIs, F_impl_inserted_int_L0, tk, q1, q2, q3, q4, q5, hp, -Int.natCast_add]
  | succ d ih =>
    intro hd
    obtain ⟨q1, q2, q3, q4, q5⟩ := one (p + d) (by omega)
    rw [decide_eq_false (show ¬ p + d < p by omega)] at q5
    have hp : p + d < L.length := by omega
    have I := ih (by omega)
    rw [w_impl_inserted_int_0, show p + (d + 1) = p + d + 1 by omega]
    unfold stIs at *
    simp [F_impl_inserted_int_L0, tk, q1, q2, q3, q4, q5, hp, I, -Int.natCast_add]
theorem c_impl_inserted {us : List T} (h : tsOk us = true) (row : Int) {k : Int} (hk : 0 ≤ k ∧ k < us.length) {L : List Int} (hL : L.length ≤ 5) {p : Nat} (hp : p ≤ L.length) (H : ∀ j (hj : j < L.length), (0 ≤ L[j] ∧ L[j] < us.length) ∧ rLe us row L[j] k = decide (j < p)) :
    call lf n_impl_inserted_int [.gv 1 (L.map .i), .i k, .fn n_impl_RatioOrder_1 [.adr (.sl 0 (us.map e2)), .adr (.i row)]] = some (.fr 1 ((L.take p ++ k :: L.drop p).map .i), []) := by
  have W := ins_loop h row hk hL H (L.length - p) (by omega)
  rw [show p + (L.length - p) = L.length by omega] at W
  unfold stIs at W
  have I := c_Insert (L.map .i) (.i k) (n := p) (by simpa using hp) (by simp; omega)
  have e : (L.map DV.i).take p ++ DV.i k :: (L.map DV.i).drop p = (L.take p ++ k :: L.drop p).map .i := by simp
  rw [e] at I
  have le : (L.take p ++ k :: L.drop p).length = L.length + 1 := by simp; omega
  rw [call_k lf n_impl_inserted_int _ (F := F_impl_inserted_int) rfl rfl]
  generalize L.take p ++ k :: L.drop p = M at *
  simp [F_impl_inserted_int, W, I]
theorem rO_split {us : List T} (h : tsOk us = true) (row : Int) {i : Nat} (hi : i < us.length) : ∀ j (hj : j < (rO us row i).length), (0 ≤ (rO us row i)[j] ∧ (rO us row i)[j] < us.length) ∧ rLe us row (rO us row i)[j] i = decide (j < insPos us row i (rO us row i)) := by
  have h' := tsOk_iff.1 h
  have S := rO_sorted h'.2 row i (by omega)
  have M : ∀ o ∈ rO us row i, 0 ≤ o ∧ o < us.length := fun o ho => by have := rO_mem ho; omega
  generalize rO us row i = L at *
  intro j hj
  refine ⟨M _ (List.getElem_mem hj), ?_⟩
  induction L generalizing j with
  | nil => simp at hj
  | cons o r ih =>
    obtain ⟨p1, p2⟩ := List.pairwise_cons.1 S
    have ih := ih p2 (fun o ho => M o (List.mem_cons_of_mem _ ho))
    by_cases hc : rLe us row o i = true
    · have e : insPos us row i (o :: r) = insPos us row i r + 1 := by simp only [insPos]; rw [if_pos hc]
      rw [e]
      cases j with
      | zero => simp [hc]
      | succ j =>
        have := ih j (by simpa using hj)
        rw [List.getElem_cons_succ, this]
        simp
    · have e : insPos us row i (o :: r) = 0 := by simp only [insPos]; rw [if_neg hc]
      rw [e]
      have hf : rLe us row o i = false := by simpa using hc
      cases j with
      | zero => simp [hf]
      | succ j =>
        rw [List.getElem_cons_succ]
        have hj' : j < r.length := by simpa using hj
        have hm := M _ (List.mem_cons_self ..)
        have hr := M _ (List.mem_cons_of_mem _ (List.getElem_mem hj'))
        cases hq : rLe us row r[j] i with
        | false => simp
        | true =>
          have := rLe_trans h'.2 (row := row) (a := o) (b := r[j]) (c := (i : Int)) (by omega) (by omega) (by omega) (p1 _ (List.getElem_mem hj')) hq
          rw [hf] at this; cases this
def stOi (us : List T) (row : Int) (K : Nat) (L : List Int) (i : Nat) : LS := ⟨[(5, .fn n_impl_RatioOrder_1 [.adr (.sl 0 (us.map e2)), .adr (.i row)]), (6, .own K L.length 0 L.length), (18, .i us.length), (19, .i i)], [(K, L.map .i)]⟩
set_option maxHeartbeats 4000000 in
theorem ratio_outerI {us : List T} (h : tsOk us = true) (row : Int) (j : Nat) : ∀ (i K : Nat), (K = 3080 ∨ K = 12808) → i + j = us.length →
    ex lf F_impl_RatioOrder_W0 (stOi us row K (rO us row i) i) = some (.exit 0, stOi us row 3080 (rO us row us.length) us.length) := by
  have h' := tsOk_iff.1 h
  induction j with
  | zero =>
    intro i K hK hi
    have e : i = us.length := by omega
    subst e
    rw [w_impl_RatioOrder_0]
    rcases hK with rfl | rfl <;> simp [stOi, F_impl_RatioOrder_L0]
  | succ j ih =>
    intro i K hK hi
    have k2 := ih (i + 1) 12808 (.inr rfl) (by omega)
    have hlt : i < us.length := by omega
    have ll := rO_len us row i
    have pl := insPos_le us row i (rO us row i)
    have I := c_impl_inserted h row (k := (i : Nat)) ⟨by omega, by omega⟩ (L := rO us row i) (by omega) pl (rO_split h row hlt)
    rw [← insR_pos us row i (rO us row i), show insR us row i (rO us row i) = rO us row (i + 1) from rfl] at I
    have l2 := rO_len us row (i + 1)
    have w1 : wr ((i : Int) + 1) = ((i + 1 : Nat) : Int) := by rw [wr_id (by omega) (by omega)]; omega
    have lt' : (i : Int) < us.length := by omega
    unfold stOi at *
    rw [l2] at k2
    rw [ll]
    have m1 : ((rO us row i).map DV.i).length = i := by simp [ll]
    have m2 : ((rO us row (i + 1)).map DV.i).length = i + 1 := by simp [l2]
    have lm : lendL ((rO us row i).map DV.i) = (rO us row i).map .i := by simp
    have am : ∀ b, adoptL b ((rO us row (i + 1)).map DV.i) = (rO us row (i + 1)).map .i := fun b => by simp
    rw [w_impl_RatioOrder_0]
    generalize (rO us row i).map DV.i = M at *
    generalize (rO us row (i + 1)).map DV.i = M2 at *
    rcases hK with rfl | rfl <;> simp [F_impl_RatioOrder_L0, hlt, lt', I, w1, k2, m1, m2, lm, am, -Int.natCast_add]
theorem c_impl_RatioOrder (us : List T) (row : Int) (ha : (us.length : Int) < 1099511627776) : call lf n_impl_RatioOrder [.sl 0 (us.map e2), .i row] = some (.fr 1 ((roL us row).map .i), []) := by
  rw [call_k lf n_impl_RatioOrder _ (F := F_impl_RatioOrder) rfl rfl]
  have C1 := c_impl_TestsOk us ha
  have C2 := c_impl_rowOk row
  unfold roL
  cases h1 : tsOk us with
  | false => rw [h1] at C1; simp [F_impl_RatioOrder, C1]
  | true =>
    rw [h1] at C1
    cases h2 : rwOk row with
    | false => rw [h2] at C2; simp [F_impl_RatioOrder, C1, C2]
    | true =>
      rw [h2] at C2
      have L := ratio_outerI h1 row us.length 0 3080 (.inl rfl) (by omega)
      unfold stOi at L
      have z : (rO us row 0).map DV.i = [] := rfl
      have z' : (rO us row 0).length = 0 := rfl
      rw [z, z'] at L
      simp only [Int.natCast_zero] at L
      have ll := rO_len us row us.length
      rw [ll] at L
      simp [F_impl_RatioOrder, C1, C2, L, ll]
end
section
attribute [-simp] DV.cells
attribute [local simp] sliceD cells_st cells_sl cells_i cells_y cells_b cells_s cells_w
set_option maxHeartbeats 4000000 in
theorem law_FnRatioOrder (x : List Nat) (_ : x.length ≤ Go.maxLen) (hb : ∀ y ∈ x, y < 256) : call lf n_laws_FnRatioOrder [bys x] = some (.b true, []) := by
  show call lf n_laws_FnRatioOrder [.sl 0 (x.map .y)] = _
  rw [call_k lf n_laws_FnRatioOrder _ (F := F_laws_FnRatioOrder) rfl rfl]
  by_cases hl : 1048576 < (x.length : Int)
  · simp (config := { maxSteps := 2000000 }) [F_laws_FnRatioOrder, hl]
  · obtain ⟨us, row, u1, r1, d⟩ := c_DrawRatioOrder hb (by omega)
    have D1 := c_impl_RatioOrder us row (by omega)
    have D2 := c_spec_RatioOrder us row (by omega)
    have lb1 : us.length ≤ bound := by unfold bound; omega
    have tk1 := tk_e2 us
    by_cases hk : (tsOk us && rwOk row) = true
    · have e : roL us row = rO us row us.length := by unfold roL; rw [if_pos hk]
      rw [Bool.and_eq_true] at hk
      obtain ⟨h1, h4⟩ := hk
      have ht := tsOk_iff.1 h1
      have hr := rwOk_iff.1 h4
      have ll := rO_len us row us.length
      have ok := rO_ok h1 row
      rw [e] at D1 D2
      have R := c_impl_RowTerm us.length row
      rw [rwL_ok h1 h4] at R
      have tm := row_tm (m := us.length) (by omega) (by omega) hr
      obtain ⟨n, hn⟩ : ∃ n, us.length = n + 1 := ⟨us.length - 1, by omega⟩
      have rl : (rowT us.length row).length ≤ 9 := by rw [hn, rowT_len]; omega
      have B := c_impl_BestOrder us (rowT us.length row) (by omega) (by omega)
      have eb : boN us (rowT us.length row) = rA us row 1 (rO us row us.length) := by
        unfold boN boOk
        rw [h1, tm, rO_best h1 hr]; rfl
      rw [eb] at B
      have V := c_impl_RowAverage us (rO us row us.length) row (by omega) (by omega)
      have ev : raOf us (rO us row us.length) row = rA us row 1 (rO us row us.length) := by
        unfold raOf raOk
        rw [h1, ok, h4]; rfl
      rw [ev] at V
      have P := c_impl_OrderOk us.length (rO us row us.length) (by omega)
      rw [ok] at P
      have O1 := c_impl_OtherTests us (by omega)
      have eo : others us = us.map other := by simp [others, h1]
      rw [eo] at O1
      have lu : (us.map other).length = us.length := by simp
      have D3 := c_impl_RatioOrder (us.map other) (1 - row) (by omega)
      have e3 : roL (us.map other) (1 - row) = rO us row us.length := by
        unfold roL
        rw [if_pos (by rw [others_ok h1, Bool.true_and]; exact rwOk_iff.2 (by omega)), lu, rO_other hr us.length (Nat.le_refl _)]
      rw [e3] at D3
      have S := c_sameInts_i (rO us row us.length) (by omega)
      have w1 : wr (1 - row) = 1 - row := wr_id (by omega) (by omega)
      have tk2 : List.take us.length ((rO us row us.length).map DV.i) = (rO us row us.length).map .i := List.take_of_length_le (by simp [ll])
      have tk3 := tk_e2 (rowT us.length row)
      have tk4 := tk_e2 (us.map other)
      rw [lu] at tk4
      have lb3 : (rowT us.length row).length ≤ bound := by unfold bound; omega
      have nz : ((us.length : Int) == 0) = false := beq_eq_false_iff_ne.2 (by omega)
      have ne : ¬ us = [] := fun q => by rw [q] at hn; simp at hn
      generalize us.map other = vs at *
      generalize rowT us.length row = t at *
      generalize rA us row 1 (rO us row us.length) = N at *
      generalize rO us row us.length = os at *
      generalize boL us t = bl at *
      simp (config := { maxSteps := 2000000 }) [F_laws_FnRatioOrder, hl, d, D1, D2, D3, R, B, V, P, O1, S, w1, lb1, lb3, tk1, tk2, tk3, tk4, ll, lu, nz, ne]
    · have e : roL us row = [] := by unfold roL; rw [if_neg hk]
      rw [e] at D1 D2
      have S := c_sameInts_i [] (by simp)
      simp at D1 D2 S
      simp (config := { maxSteps := 2000000 }) [F_laws_FnRatioOrder, hl, d, D1, D2, S, lb1, tk1, c_alive]
end
end Zz
