/- What the functions answer, as equations: EB. No conditions. -/
import Derived.Test.YthgklolghalofabDoorEAm
set_option linter.unusedSectionVars false
set_option linter.unusedVariables false
set_option linter.unusedSimpArgs false
namespace Zz
open Go.Lg Md
set_option linter.unusedSimpArgs false
set_option linter.unusedVariables false
attribute [local simp] ia_mv ia_newnil ia_pick ia_bin ia_eqb ia_eqs ia_un ia_len ia_lens ia_chk ia_fld ia_fldv ia_idxa ia_idx ia_load ia_store ia_slice ia_slices ia_make ia_alloc ia_box ia_build ia_bslice ia_app ia_b2i ia_i2b ia_i2i ia_same ia_b2s ia_s2b ia_ext ia_mm ia_idxp ia_calld ia_mkfn ia_i2r ia_r2s ia_call pt_nil pt_cons mi_nil mi_cons md_bslice md_mv md_newnil md_pick md_bin md_eqb md_un md_len md_lens md_fld md_fldv md_idxa md_idx md_load md_store md_slice md_slices md_make md_alloc md_box md_build md_app md_conv md_ext md_call md_calld md_callg md_mkfn md_mm md_idxp md_eqn md_eqs md_chk tg_bslice tg_mv tg_newnil tg_pick tg_bin tg_eqb tg_un tg_len tg_lens tg_fld tg_fldv tg_idxa tg_idx tg_load tg_store tg_slice tg_slices tg_make tg_alloc tg_box tg_build tg_app tg_conv tg_ext tg_call tg_calld tg_callg tg_mkfn tg_mm tg_idxp tg_eqn tg_eqs tg_chk rp_eq ro_eq ifP_t ifP_f np_def ng1_nil ng2_nil ng_gate ng_gen tgA_t tgA_0 tgA_1 tgA_2 aC_nil aC_c aC_t nxP_some nxP_none rq_nil rq_gen rq_gate nxR_some nxR_none ru_nil ru_gen ru_gate pl_none pl_some gt_nil gt_t gt_c di_some di_none an_nil an_cons nxG_some nxG_none rg_nil rg_gen rg_gate oldO_some oa_nil oa_i oa_y oa_b oa_s oa_st oa_sl oa_own oa_oad oa_nl al_nil al_cons al_i al_y al_b al_s al_st al_sl nxF_some nxF_none rf_nil rf_gen rf_gate hk_newnil hk_make hk_alloc hk_box hk_build hk_bslice hk_call hk_store hk_app cl_nil cl_cons ai_nil ai_cons il_i il_y il_b il_s il_st il_sl il_own il_adr il_oad il_ref il_fr il_tup il_nil il_np il_und il_dead ol_adr ol_b ol_dead ol_e ol_fn ol_fr ol_i ol_nil ol_np ol_oad ol_own ol_q ol_r ol_ref ol_s ol_sl ol_st ol_tup ol_und ol_w ol_y oj_e oj_i oj_y oj_b oj_s oj_st oj_sl oj_own oj_adr oj_oad oj_ref oj_fr oj_tup oj_nil oj_np oj_und oj_dead oj_w oj_q oj_r oj_fn oi_e oi_i oi_y oi_b oi_s oi_st oi_sl oi_own oi_adr oi_oad oi_ref oi_fr oi_tup oi_nil oi_np oi_und oi_dead as_nil as_cons ao_nil ao_cons av_i av_y av_b av_s av_st av_sl av_own av_adr av_oad av_ref av_fr av_tup av_nil av_np av_und av_dead pro_cons ghK_some ks_promote ks_freeze frz_own ks_rename ren_own dropO adoptP newP wholeP cutP allOldL ex_skip ex_ret ex_exit ks_region ks_seq ks_cond ks_block seqK_n seqK_e seqK_r regK_some condK_t condK_f blkK_n blkK_r blkK_e endK_n endK_r rr_false rr_true rd_free mo_nil mo_cons drK_some drK_none nxW_some nxW_none rw_nil rw_gen rw_gate ak_newnil ak_make ak_alloc ak_box ak_build ak_bslice ak_call ak_store ak_app iw_mm iw_eqn iw_idxp ef_callg cgK_some gv_e gv_own gv_i gv_sl gv_st gv_b gv_nil gvK_some gvO_some iw_callg ia_callg ak_callg hk_callg is_mv is_newnil is_pick is_bin is_eqb is_eqs is_un is_len is_lens is_chk is_fld is_fldv is_idxa is_idx is_load is_slice is_slices is_make is_alloc is_box is_build is_bslice is_app is_conv is_ext is_call is_calld is_callg is_mkfn is_mm is_idxp is_eqn is_store rt_nil rt_gen rt_gate nxT_some nxT_none ef_eqn_nil ef_eqn_sl ef_eqn_own ia_eqn ef_mmx ef_mmn ef_idxp nxD_some nxD_none ov_i ov_y ov_b ov_s ov_st ov_sl ov_own ov_oad ov_adr ov_nil ov_np ov_und ov_dead ov_tup oldN_some oldN_nil oldN_none so_none so_i so_y so_b so_s so_st so_sl so_adr so_nil so_np so_und so_dead anyM_nil anyM_t anyM_c so_own so_oad rd_nil rd_gen rd_mv rd_gate iw_mv iw_newnil iw_pick iw_bin iw_eqb iw_eqs iw_un iw_len iw_lens iw_chk iw_fld iw_fldv iw_idxa iw_idx iw_load iw_store iw_slice iw_slices iw_make iw_alloc iw_box iw_build iw_bslice iw_app iw_b2i iw_i2b iw_i2i iw_same iw_b2s iw_s2b iw_ext iw_call nm_i nm_y nm_b nm_s nm_st nm_sl nm_own nm_oad nm_adr nm_nil nm_np nm_und nm_dead nm_tup rl_nil rl_gate rl_mv rl_gen opv_t opv_c nx_some nx_none gate_tt gate_tf gate_ft gate_ff gate_u fr_ap em_nil em_i em_y em_b em_s em_st em_sl em_own em_adr em_oad em_ref em_nl em_np em_und em_dead em_tup0 em_tup_i em_tup_b em_tup_s em_tup_sl em_tup_st em_tup_np em_tup_own em_tup_oad mm_i mm_y mm_b mm_s mm_st mm_sl mm_own mm_oad mm_adr mm_nil mm_np mm_und mm_dead ef_mv ef_newnil ef_pickt ef_pickf ef_bin ef_eqb ef_eqs ef_un ef_lens ef_len_sl ef_len_own ef_len_nil ef_chk_adr ef_chk_oad ef_fld_adr ef_fld_oad ef_fldv idxR_some ef_idxa_sl ef_idxa_own ef_idx ef_load_adr_st ef_load_adr_i ef_load_adr_y ef_load_adr_b ef_load_adr_s ef_load_adr_sl atN_nil atN_zero atN_succ ef_load_oad ef_store ef_slice ef_slices ef_make ef_alloc ef_box ef_build ef_bslice ef_app_own ef_app_nil ef_b2i ef_i2b ef_i2i ef_same ef_ext ret1 ret2_some calL_some ef_call retC_i retC_y retC_b retC_s retC_st retC_sl retC_np retC_fr retC_ref retC_tup rk_nil rk_i rk_y rk_b rk_s rk_st rk_sl rk_own rk_oad rk_nl ok_nil ok_i ok_y ok_b ok_s ok_st ok_sl ok_own ok_oad ok_nl lo_nil lo_i lo_y lo_b lo_s lo_st lo_sl lo_own lo_oad lo_nl pr_nil pr_i pr_y pr_b pr_s pr_st pr_sl pr_own pr_nl pr_oad nr_i nr_y nr_b nr_s nr_st nr_sl nr_fr nr_np nr_tup ng_i ng_b ng_s ng_fr ng_nil resV effP_eff binD bi_add bi_sub bi_mul bi_quo bi_rem bi_eql bi_neq bi_lss bi_leq bi_gtr bi_geq bi_shl bi_shr bi_and bi_or bi_xor bi_andNot binY binS unD look put putD LS.get LS.drop killE sweep lookO putO dropO enter leave giveBackL giveBack outs lendArgs lendArg newOuts takeIn takeInL lendL DV.lend adoptL DV.adopt elems apartKs part DV.cells unpart settle settleL over mkId szId fillP fillE tk_e2 tk_i tk_y lt_e2 lt_i lt_y lend_rep al_e2 al_is al_ys al_rep al_app lend_app adopt_app new_app lend_e2 lend_i lend_y adopt_e2 adopt_i adopt_y new_e2 new_i allNewL DV.allNew bounds sliceD sliceS em_w em_q em_r em_fn em_tup_w em_tup_q em_tup_r mm_w mm_q mm_r mm_fn ef_load_adr_w ef_load_adr_q ef_load_adr_r retC_w retC_q retC_r rk_w rk_q rk_r rk_fn ok_w ok_q ok_r ok_fn lo_w lo_q lo_r lo_fn pr_w pr_q pr_r pr_fn nr_w nr_q nr_r ng_w ng_q ng_r oa_w oa_q oa_r oa_fn al_w al_q al_r al_fn ov_w ov_q ov_r ov_fn so_w so_q so_r so_fn il_w il_q il_r il_fn oi_w oi_q oi_r oi_fn av_w av_q av_r av_fn nm_w nm_q nm_r nm_fn ef_i2r ef_r2s ef_mkfn ef_idxp_adr ef_calld capsOk DV.cell List.all_cons List.all_nil rk_own_t lo_own_t lk_f lk_t pr_own_t mutB ak_calld hk_calld iw_calld iw_mkfn iw_i2r iw_r2s bw_and bw_or bw_xor bw_andNot bw_eql bw_neq sw_shl sw_shr sq_shl gEnv_nil rk_adr ok_adr lo_adr pr_adr oa_adr capL capArg DV.cap ak_mkfn hk_mkfn ef_callm gf_ap ga_nil ga_cons tgv_own gk_e gk_giv gk_i gk_y gk_b gk_s gk_w gk_q gk_r gk_fn gk_st gk_sl gk_own gk_oad gk_adr gk_nl gk_np rk_giv ok_giv lo_giv pr_giv oa_giv iw_callm hk_callm ak_callm is_callm ia_callm tg_callm md_callm ef_i2q ef_q2i ef_q2q iw_i2q iw_q2i iw_q2q ia_i2q ia_q2i ia_q2q bq_and bq_add bq_shr sq_shr tgv_nil gk_ref rk_ref ok_ref lo_ref pr_ref oa_ref retC_fn nr_fn ef_load_adr_fn ks_close cls_oad
attribute [local congr] ifP_congr nxP_congr nxR_congr nxT_congr nxG_congr nxF_congr ghK_congr gate_congr nx_congr nxD_congr runL_congr runD_congr eff_congr calL_congr ret2_congr seqK_congr regK_congr condK_congr endK_congr drK_congr nxW_congr
attribute [local simp ↓] nxT_some rt_nil rt_gen rt_gate nxP_some rq_nil rq_gen rq_gate nxR_some ru_nil ru_gen ru_gate nxG_some rg_nil rg_gen rg_gate nxF_some rf_nil rf_gen rf_gate ks_promote ks_freeze frz_own ks_rename ghK_some gate_tt gate_tf gate_ft gate_ff gate_u nx_some nxD_some rl_nil rl_mv rl_gen rl_gate rd_nil rd_mv rd_gen rd_gate rd_free rr_false rr_true drK_some drK_none nxW_some rw_nil rw_gen rw_gate ks_region ks_seq ks_cond ks_block seqK_n seqK_e seqK_r regK_some condK_t condK_f blkK_n blkK_r endK_n endK_r calL_some ret2_some opv_t opv_c
section
attribute [-simp] DV.cells sliceD
attribute [local simp] cells_st cells_sl cells_i cells_y cells_b cells_s cells_w
attribute [local simp] lend_e3 adopt_e3 new_e3 al_e3 lt_e3
def stLd (m tab : Nat) (ks : List Int) (best : Int) (k : Nat) : LS := ⟨[(0, .i m), (1, .i tab), (2, .sl 0 (ks.map .i)), (7, .i best), (8, .i k)], []⟩
set_option maxHeartbeats 4000000 in
theorem c_spec_l6Depth {m : Nat} (h1 : 1 ≤ m) (h5 : m ≤ 5) (t : List T) : ∀ (f : Nat) (ks : List Int), ks.length = m → ks.all kOk = true → uk ks ≤ f →
    call lf n_spec_l6Depth [.i m, .i (tabT m t), .sl 0 (ks.map .i)] = some (.i (ldP m t f ks), [])
  | f, ks, hl, hk, hf => by
    have F := c_spec_l3Forced (m := (m : Int)) (by omega) (by omega) ks (by omega) (tabT m t) (by
      obtain ⟨s, q1, q2⟩ := agB_some hk
      exact ⟨s, by rw [Int.toNat_natCast, ← hl]; exact q1, q2⟩)
    rw [foT_tab (by omega) (by omega)] at F
    have fe : (foT m t ks != -1) = fcd m t ks := rfl
    rw [call_k lf n_spec_l6Depth _ (F := F_spec_l6Depth) rfl rfl]
    cases hc : fcd m t ks with
    | true =>
      rw [hc] at fe
      have e : ldP m t f ks = 0 := by
        cases f with
        | zero => rfl
        | succ f => simp only [ldP]; rw [if_pos hc]
      rw [e]
      simp [F_spec_l6Depth, F, fe]
    | false =>
      rw [hc] at fe
      cases f with
      | zero =>
        rw [fcd_all hl hk (by omega)] at hc
        cases hc
      | succ f =>
        have e : ldP m t (f + 1) ks = mnB (fun k => 1 + max (ldP m t f (ks.set k 0)) (ldP m t f (ks.set k 1))) ks m m := by
          simp only [ldP]
          rw [if_neg (by rw [hc]; simp)]
        have us' := fun (k : Nat) (h : ks[k]? = some (-1)) (b : Bool) => uk_set (b := bI b) (by cases b <;> simp [bI]) h
        have IH := fun (k : Nat) (h : ks[k]? = some (-1)) (b : Bool) => c_spec_l6Depth h1 h5 t f (ks.set k (bI b)) (by simpa using hl) (kOk_set hk k b) (by have := us' k h b; omega)
        have BD := fun (k : Nat) (b : Bool) => ldP_nn (m := m) (t := t) f (ks.set k (bI b))
        have LP := loop_count (lf := lf) (L := F_spec_l6Depth_L0) m (fun i => stLd m (tabT m t) ks (mnB (fun k => 1 + max (ldP m t f (ks.set k 0)) (ldP m t f (ks.set k 1))) ks m i) i) (x := .exit 0) (R := stLd m (tabT m t) ks (ldP m t (f + 1) ks) m) (fun i hi => by
          have hi' : (i : Int) < m := by omega
          have kk : i < ks.length := by omega
          have kk' : (i : Int) < ks.length := by omega
          have lb : ks.length ≤ bound := by unfold bound; omega
          have w1 : wr ((i : Int) + 1) = ((i + 1 : Nat) : Int) := by rw [wr_id (by omega) (by omega)]; omega
          have ka : atI (ks.map DV.i) (i : Int) = some (.i ks[i]) := by
            simp only [atI, if_pos (Int.natCast_nonneg i)]
            show (ks.map DV.i)[(i : Int).toNat]? = _
            simp [kk]
          simp only [mnB]
          by_cases hn : ks[i]? = some (-1)
          · have hn' : ks[i] = -1 := by rw [List.getElem?_eq_getElem kk] at hn; injection hn
            rw [hn'] at ka
            rw [if_pos hn]
            have I0 := IH i hn false
            have I1 := IH i hn true
            have B0 := BD i false
            have B1 := BD i true
            rw [bI_0] at I0 B0
            rw [bI_1] at I1 B1
            rw [List.map_set] at I0 I1
            have t0 : List.take ks.length ((ks.map DV.i).set i (.i 0)) = (ks.map .i).set i (.i 0) := List.take_of_length_le (by simp)
            have t1 : List.take ks.length ((ks.map DV.i).set i (.i 1)) = (ks.map .i).set i (.i 1) := List.take_of_length_le (by simp)
            obtain ⟨u, atk⟩ : ∃ u : Int, atN (ks.map DV.i) i = some (.i u) := ⟨ks[i], by show (ks.map DV.i)[i]? = _; simp [kk]⟩
            generalize mnB (fun k => 1 + max (ldP m t f (ks.set k 0)) (ldP m t f (ks.set k 1))) ks m i = q at *
            generalize ldP m t f (ks.set i 0) = r0 at *
            generalize ldP m t f (ks.set i 1) = r1 at *
            have w2 : wr (1 + max r0 r1) = 1 + max r0 r1 := wr_id (by omega) (by omega)
            unfold stLd
            simp [F_spec_l6Depth_L0, hi', kk, kk', lb, ka, atk, t0, t1, lend_set, I0, I1, w1, w2, -Int.natCast_add]
          · rw [if_neg hn]
            have hn' : (ks[i] != -1) = true := bne_iff_ne.2 fun e => hn (by rw [List.getElem?_eq_getElem kk, e])
            generalize mnB (fun k => 1 + max (ldP m t f (ks.set k 0)) (ldP m t f (ks.set k 1))) ks m i = q at *
            unfold stLd
            simp [F_spec_l6Depth_L0, hi', kk', ka, hn', w1, -Int.natCast_add]) (by
          rw [← e]
          unfold stLd
          simp [F_spec_l6Depth_L0]) (by intro h; cases h)
        simp only [mnB, Int.natCast_zero] at LP
        clear IH BD
        generalize ldP m t (f + 1) ks = r at *
        unfold stLd at LP
        change ex lf F_spec_l6Depth_W0 _ = _ at LP
        simp only [Int.natCast_zero] at LP
        simp [F_spec_l6Depth, F, fe, LP]
def ldOf (m : Int) (t : List T) : Int := if tmOk m t then lD m.toNat t else -1
theorem c_spec_LeastDepth (m : Int) (t : List T) (hb : (t.length : Int) < 1099511627776) : call lf n_spec_LeastDepth [.i m, .sl 0 (t.map e2)] = some (.i (ldOf m t), []) := by
  have C1 := c_spec_TermOk m t hb
  rw [call_k lf n_spec_LeastDepth _ (F := F_spec_LeastDepth) rfl rfl]
  unfold ldOf
  cases h1 : tmOk m t with
  | false => rw [h1] at C1; simp [F_spec_LeastDepth, C1]
  | true =>
    rw [h1] at C1
    obtain ⟨⟨m1, m5⟩, _, _⟩ := tmOk_iff.1 h1
    have C3 := c_spec_l3Table h1
    have C4 := c_spec_l4None (m := m) (by omega) (by omega)
    have mm : ((m.toNat : Nat) : Int) = m := by omega
    have C6 := c_spec_l6Depth (m := m.toNat) (by omega) (by omega) t m.toNat (non m.toNat) (non_len _) (non_all _) (by rw [uk_non]; exact Nat.le_refl _)
    rw [mm] at C6
    have nl := non_len m.toNat
    have e : ldP m.toNat t m.toNat (non m.toNat) = lD m.toNat t := rfl
    rw [e] at C6
    have tk : List.take m.toNat ((non m.toNat).map DV.i) = (non m.toNat).map .i := List.take_of_length_le (by simp [nl])
    simp [F_spec_LeastDepth, C1, C3, C4, C6, nl, tk]
end
section
def aN : List Int → Nat
  | [] => 0
  | k :: r => (if k = -1 then 0 else 1) + 2 * aN r
def kn : List Int → Nat
  | [] => 0
  | k :: r => (if k = -1 then 0 else 1) + kn r
theorem kn_uk : ∀ ks : List Int, kn ks + uk ks = ks.length
  | [] => rfl
  | k :: r => by
    have ih := kn_uk r
    simp only [kn, uk, List.length_cons]
    split <;> omega
theorem kn_non (m : Nat) : kn (non m) = 0 := by
  have h := kn_uk (non m)
  rw [uk_non, non_len] at h
  omega
theorem kn_set {ks : List Int} {k : Nat} {b : Int} (hb : b ≠ -1) (h : ks[k]? = some (-1)) : kn (ks.set k b) = kn ks + 1 := by
  have h1 := kn_uk ks
  have h2 := kn_uk (ks.set k b)
  have h3 := uk_set hb h
  rw [List.length_set] at h2
  omega
theorem aN_lt : ∀ ks : List Int, aN ks < 2 ^ ks.length
  | [] => by decide
  | k :: r => by
    have ih := aN_lt r
    simp only [aN, List.length_cons, Nat.pow_succ]
    split <;> omega
theorem aN_non : ∀ m : Nat, aN (non m) = 0
  | 0 => rfl
  | m + 1 => by
    show (if (-1 : Int) = -1 then 0 else 1) + 2 * aN (non m) = 0
    rw [aN_non m]
    rfl
theorem aN_b0 (k : Int) (r : List Int) : (aN (k :: r)).testBit 0 = !decide (k = -1) := by
  simp only [aN, Nat.testBit_zero]
  by_cases h : k = -1
  · simp [h]
  · simp [h]
theorem aN_div (k : Int) (r : List Int) : aN (k :: r) / 2 = aN r := by
  simp only [aN]
  split <;> omega
theorem aN_bs (k : Int) (r : List Int) (i : Nat) : (aN (k :: r)).testBit (i + 1) = (aN r).testBit i := by
  rw [Nat.testBit_succ, aN_div]
theorem aN_bit : ∀ {ks : List Int} {i : Nat}, i < ks.length → ((aN ks).testBit i = !decide (ks[i]? = some (-1)))
  | [], i, h => by simp at h
  | k :: r, 0, _ => by rw [aN_b0]; simp
  | k :: r, i + 1, h => by
    rw [aN_bs, aN_bit (ks := r) (by simpa using h)]
    simp
theorem aN_set {ks : List Int} {k : Nat} {b : Int} (hb : b ≠ -1) (h : ks[k]? = some (-1)) : aN (ks.set k b) = aN ks ||| 2 ^ k := by
  apply Nat.eq_of_testBit_eq
  intro i
  have hk := ks_ex h
  rw [Nat.testBit_or, Nat.testBit_two_pow]
  by_cases hi : i < ks.length
  · rw [aN_bit (by simpa using hi), aN_bit hi]
    by_cases e : k = i
    · subst e
      rw [List.getElem?_set_self hk]
      simp [hb]
    · rw [List.getElem?_set_ne e]
      simp [e]
  · have l1 := aN_lt (ks.set k b)
    have l2 := aN_lt ks
    rw [List.length_set] at l1
    have p : 2 ^ ks.length ≤ 2 ^ i := Nat.pow_le_pow_right (by omega) (by omega)
    rw [Nat.testBit_lt_two_pow (by omega), Nat.testBit_lt_two_pow (by omega)]
    simp; omega
/-- how many ones there are, for small numbers -/
def pc (x : Nat) : Nat := x % 2 + x / 2 % 2 + x / 4 % 2 + x / 8 % 2 + x / 16 % 2
theorem pc_kn {ks : List Int} (h : ks.length ≤ 5) : pc (aN ks) = kn ks := by
  have key : ∀ k : Int, (if k = -1 then (0 : Nat) else 1) = 0 ∨ (if k = -1 then (0 : Nat) else 1) = 1 := fun k => by split <;> simp
  unfold pc
  match ks, h with
  | [], _ => rfl
  | [a], _ =>
    simp only [aN, kn]
    have hx := key a
    generalize (if a = -1 then (0 : Nat) else 1) = x at *
    rcases hx with rfl | rfl <;> rfl
  | [a, b], _ =>
    simp only [aN, kn]
    have hx := key a
    generalize (if a = -1 then (0 : Nat) else 1) = x at *
    have hy := key b
    generalize (if b = -1 then (0 : Nat) else 1) = y at *
    rcases hx with rfl | rfl <;> rcases hy with rfl | rfl <;> rfl
  | [a, b, c], _ =>
    simp only [aN, kn]
    have hx := key a
    generalize (if a = -1 then (0 : Nat) else 1) = x at *
    have hy := key b
    generalize (if b = -1 then (0 : Nat) else 1) = y at *
    have hz := key c
    generalize (if c = -1 then (0 : Nat) else 1) = z at *
    rcases hx with rfl | rfl <;> rcases hy with rfl | rfl <;> rcases hz with rfl | rfl <;> rfl
  | [a, b, c, d], _ =>
    simp only [aN, kn]
    have hx := key a
    generalize (if a = -1 then (0 : Nat) else 1) = x at *
    have hy := key b
    generalize (if b = -1 then (0 : Nat) else 1) = y at *
    have hz := key c
    generalize (if c = -1 then (0 : Nat) else 1) = z at *
    have hu := key d
    generalize (if d = -1 then (0 : Nat) else 1) = u at *
    rcases hx with rfl | rfl <;> rcases hy with rfl | rfl <;> rcases hz with rfl | rfl <;> rcases hu with rfl | rfl <;> rfl
  | [a, b, c, d, e], _ =>
    simp only [aN, kn]
    have hx := key a
    generalize (if a = -1 then (0 : Nat) else 1) = x at *
    have hy := key b
    generalize (if b = -1 then (0 : Nat) else 1) = y at *
    have hz := key c
    generalize (if c = -1 then (0 : Nat) else 1) = z at *
    have hu := key d
    generalize (if d = -1 then (0 : Nat) else 1) = u at *
    have hv := key e
    generalize (if e = -1 then (0 : Nat) else 1) = v at *
    rcases hx with rfl | rfl <;> rcases hy with rfl | rfl <;> rcases hz with rfl | rfl <;> rcases hu with rfl | rfl <;> rcases hv with rfl | rfl <;> rfl
  | _ :: _ :: _ :: _ :: _ :: _ :: _, h => simp at h
/-- what agrees, as a number -/
def lfW (ks : List Int) : BitVec 32 := agW ks 0 (4294967295#32)
theorem lfW_bit {ks : List Int} (hk : ks.all kOk = true) (hl : ks.length ≤ 5) {s : Nat} (hs : s < 32) : (lfW ks).getLsbD s = agB ks s := by
  unfold lfW
  rw [agW_bit hk (by omega) hs, ones_bit hs]
  simp
theorem lfW_non (m : Nat) (hm : m ≤ 5) : lfW (non m) = 4294967295#32 := by
  apply BitVec.eq_of_getLsbD_eq
  intro s hs
  rw [lfW_bit (non_all m) (by rw [non_len]; exact hm) hs, agB_non, ones_bit hs]
def syW (k : Nat) (b : Bool) : BitVec 32 := if b then yesW k else ~~~ yesW k
theorem lfW_set {ks : List Int} {k : Nat} (b : Bool) (hk : ks.all kOk = true) (hl : ks.length ≤ 5) (h : ks[k]? = some (-1)) : lfW (ks.set k (bI b)) = lfW ks &&& syW k b := by
  have hk5 := ks_ex h
  apply BitVec.eq_of_getLsbD_eq
  intro s hs
  have y := yes_bit ⟨k, by omega⟩ ⟨s, hs⟩
  simp only at y
  rw [lfW_bit (kOk_set hk k b) (by simpa using hl) hs, agB_put h, BitVec.getLsbD_and, lfW_bit hk hl hs]
  unfold syW
  cases b with
  | true => rw [if_pos rfl, y]; cases agB ks s <;> cases s.testBit k <;> rfl
  | false =>
    rw [if_neg (by simp), BitVec.getLsbD_not, y]
    cases agB ks s <;> cases s.testBit k <;> simp [hs]
theorem vaW_fcd {m : Nat} {t : List T} {ks : List Int} (h1 : tmOk m t = true) (hl : ks.length = m) (hk : ks.all kOk = true) : vaW (tsW t) (lfW ks) = foT m t ks := by
  obtain ⟨h3, _, _⟩ := tmOk_iff.1 h1
  exact vaW_foT h1 (ksOk_iff.2 ⟨h3, by omega, hk⟩)
end
section
abbrev Pts := List (Option (List Int))
/-- one goes on to where it is noted -/
def go3 (m : Nat) (t : List T) (N : Nat) (pts : Pts) (p : Int) (a : Int) (ks : List Int) : Prop :=
  (a = -1 ∧ fcd m t ks = true) ∨ (p + 1 ≤ a ∧ a ≤ (N : Int) - 1 ∧ pts[a.toNat]? = some (some ks))
structure Inv (m : Nat) (t : List T) (P : List C3) (p : Nat) (pts : Pts) : Prop where
  len : pts.length = P.length
  nd : (rfs (P.take p)).Nodup
  rng : ∀ a ∈ rfs (P.take p), 1 ≤ a ∧ a < P.length
  iff_ : ∀ a : Nat, a < P.length → (pts[a]? ≠ some none ↔ (a = 0 ∨ (a : Int) ∈ rfs (P.take p)))
  ok : ∀ (a : Nat) (ks : List Int), pts[a]? = some (some ks) → ks.length = m ∧ ks.all kOk = true ∧ fcd m t ks = false
  loc : ∀ q : Nat, q < p → ∃ (ks : List Int) (k no ye : Int), P[q]? = some (k, no, ye) ∧ pts[q]? = some (some ks) ∧ (0 ≤ k ∧ k < m) ∧ ks[k.toNat]? = some (-1) ∧ go3 m t P.length pts q no (ks.set k.toNat 0) ∧ go3 m t P.length pts q ye (ks.set k.toNat 1)
end
section
attribute [-simp] DV.cells
attribute [local simp] sliceD cells_st cells_sl cells_i cells_y cells_b cells_s cells_w
attribute [local simp] lend_e3 adopt_e3 new_e3 al_e3 lt_e3
def pv (m a : Int) (w v : BitVec 32) : DV := .st [.i m, .i a, .w w, .w v]
/-- the point at which so much is known -/
def pD (m : Nat) (t : List T) (ks : List Int) : DV := pv m (aN ks) (lfW ks) (tsW t)
/-- 64 bits: how many are ones -/
theorem c_OnesCount64 {n : Nat} (h : n < 32) : call lf n_math_bits_OnesCount64 [.q n] = some (.i (pc n), []) := by
  rw [call_k lf n_math_bits_OnesCount64 _ (F := F_math_bits_OnesCount64) rfl rfl]
  have c : n = 0 ∨ n = 1 ∨ n = 2 ∨ n = 3 ∨ n = 4 ∨ n = 5 ∨ n = 6 ∨ n = 7 ∨ n = 8 ∨ n = 9 ∨ n = 10 ∨ n = 11 ∨ n = 12 ∨ n = 13 ∨ n = 14 ∨ n = 15 ∨ n = 16 ∨ n = 17 ∨ n = 18 ∨ n = 19 ∨ n = 20 ∨ n = 21 ∨ n = 22 ∨ n = 23 ∨ n = 24 ∨ n = 25 ∨ n = 26 ∨ n = 27 ∨ n = 28 ∨ n = 29 ∨ n = 30 ∨ n = 31 := by omega
  rcases c with rfl | rfl | rfl | rfl | rfl | rfl | rfl | rfl | rfl | rfl | rfl | rfl | rfl | rfl | rfl | rfl | rfl | rfl | rfl | rfl | rfl | rfl | rfl | rfl | rfl | rfl | rfl | rfl | rfl | rfl | rfl | rfl <;>
    simp [F_math_bits_OnesCount64, pc, andI, wr, Go.IntKind.wrap, Go.IntKind.signed, Go.IntKind.bits]
theorem c_OnesCount {n : Nat} (h : n < 32) : call lf n_math_bits_OnesCount [.q n] = some (.i (pc n), []) := by
  have C := c_OnesCount64 h
  rw [call_k lf n_math_bits_OnesCount _ (F := F_math_bits_OnesCount) rfl rfl]
  simp [F_math_bits_OnesCount, C]
theorem c_howMany {m : Nat} {t : List T} {ks : List Int} (hl : ks.length ≤ 5) : call lf n_impl_point_howManyAsked [pD m t ks] = some (.i (kn ks), []) := by
  have l := aN_lt ks
  have p : 2 ^ ks.length ≤ 2 ^ 5 := Nat.pow_le_pow_right (by omega) hl
  have C := c_OnesCount (n := aN ks) (by omega)
  rw [pc_kn hl] at C
  have e : ((aN ks : Int) % 18446744073709551616).toNat = aN ks := by omega
  unfold pD pv
  rw [call_k lf n_impl_point_howManyAsked _ (F := F_impl_point_howManyAsked) rfl rfl]
  generalize aN ks = a at *
  simp [F_impl_point_howManyAsked, C, e]
theorem c_isForced {m : Nat} {t : List T} {ks : List Int} (h1 : tmOk m t = true) (hl : ks.length = m) (hk : ks.all kOk = true) : call lf n_impl_point_isForced [pD m t ks] = some (.b (fcd m t ks), []) := by
  have C := c_impl_valueAmong (tsW t) (lfW ks)
  rw [vaW_fcd h1 hl hk] at C
  unfold pD pv
  rw [call_k lf n_impl_point_isForced _ (F := F_impl_point_isForced) rfl rfl]
  unfold fcd
  simp [F_impl_point_isForced, C]
/-- may it be asked? -/
def caK (m : Nat) (ks : List Int) (a : Int) : Bool := decide (0 ≤ a ∧ a < m) && decide (ks[a.toNat]? = some (-1))
theorem c_canAsk {m : Nat} {t : List T} {ks : List Int} (hm : m ≤ 5) (hl : ks.length = m) (a : Int) : call lf n_impl_point_canAsk [pD m t ks, .i a] = some (.b (caK m ks a), []) := by
  have W := c_impl_isWithin a 0 ((m : Int) - 1)
  have w1 : wr ((m : Int) - 1) = (m : Int) - 1 := wr_id (by omega) (by omega)
  unfold pD pv
  rw [call_k lf n_impl_point_canAsk _ (F := F_impl_point_canAsk) rfl rfl]
  unfold caK
  by_cases h : 0 ≤ a ∧ a < m
  · obtain ⟨k, rfl⟩ := Int.eq_ofNat_of_zero_le h.1
    have e : decide (0 ≤ (k : Int) ∧ (k : Int) ≤ (m : Int) - 1) = true := decide_eq_true ⟨h.1, by omega⟩
    have H := c_impl_hasTest (aN ks) k (by omega)
    have hb := aN_bit (ks := ks) (i := k) (by omega)
    rw [hb] at H
    rw [e] at W
    rw [decide_eq_true h, Int.toNat_natCast]
    generalize aN ks = x at *
    generalize lfW ks = y at *
    simp [F_impl_point_canAsk, w1, W, H]
  · have e : decide (0 ≤ a ∧ a ≤ (m : Int) - 1) = false := decide_eq_false (by omega)
    rw [e] at W
    rw [decide_eq_false h]
    simp [F_impl_point_canAsk, w1, W]
theorem c_answered {m : Nat} {t : List T} {ks : List Int} {k : Nat} (b : Bool) (hl : ks.length ≤ 5) (hk : ks.all kOk = true) (h : ks[k]? = some (-1)) : call lf n_impl_point_answered [pD m t ks, .i k, .i (bI b)] = some (pD m t (ks.set k (bI b)), []) := by
  have hlt := ks_ex h
  have C := c_impl_statesSaying (k := k) (by omega) (bI b)
  have e1 : syI k (bI b) = syW k b := by cases b <;> rfl
  rw [e1] at C
  have sh := shl1 (k := (k : Int)) (by omega) (by omega)
  have nk : ¬ (k : Int) < 0 := by omega
  have l := aN_lt ks
  have p : 2 ^ ks.length ≤ 2 ^ 5 := Nat.pow_le_pow_right (by omega) hl
  have p2 : 2 ^ k ≤ 2 ^ 5 := Nat.pow_le_pow_right (by omega) (by omega)
  have o := orI_nat (a := aN ks) (b := 2 ^ k) (by omega) (by omega)
  rw [← aN_set (b := bI b) (by cases b <;> simp [bI]) h] at o
  have e2 := lfW_set b hk hl h
  unfold pD pv
  rw [call_k lf n_impl_point_answered _ (F := F_impl_point_answered) rfl rfl]
  rw [e2]
  have o' : orI (aN ks) (2 ^ k) = aN (ks.set k (bI b)) := by
    have : ((2 ^ k : Nat) : Int) = 2 ^ k := by simp
    rw [← this]; exact o
  rw [Int.toNat_natCast] at sh
  generalize aN (ks.set k (bI b)) = x at *
  generalize aN ks = y at *
  generalize lfW ks = z at *
  generalize (2 : Int) ^ k = w at *
  simp [F_impl_point_answered, C, sh, nk, o']
theorem c_startOf {m : Nat} {t : List T} (hm : m ≤ 5) (h : tmOk m t = true) : call lf n_impl_startOf [.i m, .sl 0 (t.map e2)] = some (pD m t (non m), []) := by
  have C := c_impl_trueStates h
  unfold pD pv
  rw [aN_non, lfW_non m hm]
  rw [call_k lf n_impl_startOf _ (F := F_impl_startOf) rfl rfl]
  simp [F_impl_startOf, C]
end
section
attribute [-simp] DV.cells
attribute [local simp] sliceD cells_st cells_sl cells_i cells_y cells_b cells_s cells_w
attribute [local simp] lend_e3 adopt_e3 new_e3 al_e3 lt_e3
def e4 (m : Nat) (t : List T) : Option (List Int) → DV
  | some ks => pD m t ks
  | none => pv 0 0 (0#32) (0#32)
end
section
attribute [-simp] DV.cells
attribute [local simp] sliceD cells_st cells_sl cells_i cells_y cells_b cells_s cells_w
attribute [local simp] lend_e3 adopt_e3 new_e3 al_e3 lt_e3
structure Fin (m : Nat) (t : List T) (P : List C3) (L : LT) (pts : Pts) : Prop where
  inv : Inv m t P P.length pts
  start : go3 m t P.length pts (-1) (rot P) (non m)
end
section
def lsB (S : Nat → Int) (ks : List Int) : Nat → Int × Int
  | 0 => (-1, 0)
  | i + 1 => if ks[i]? = some (-1) then (if (lsB S ks i).1 = -1 ∨ S i < (lsB S ks i).2 then ((i : Int), S i) else lsB S ks i) else lsB S ks i
def lsF (m : Nat) (t : List T) (pr : List Int → Nat → Int → Int → Int) : Nat → List Int → Int × Int
  | 0, _ => (-1, 0)
  | f + 1, ks => if fcd m t ks = true then (-1, 0) else lsB (fun k => pr ks k (lsF m t pr f (ks.set k 0)).2 (lsF m t pr f (ks.set k 1)).2) ks m
theorem lsB_lp {S S' : Nat → Int} {ks : List Int} {c : Int} (hc : 1 ≤ c) (h : ∀ k, ks[k]? = some (-1) → 0 ≤ S k ∧ S' k = c * S k) : ∀ i : Nat,
    (lsB S ks i = (-1, 0) ∧ lpB S' ks i = (-1, -1)) ∨ ∃ k : Nat, k < i ∧ ks[k]? = some (-1) ∧ lsB S ks i = ((k : Int), S k) ∧ lpB S' ks i = (S' k, (k : Int))
  | 0 => .inl ⟨rfl, rfl⟩
  | i + 1 => by
    simp only [lsB, lpB]
    by_cases hi : ks[i]? = some (-1)
    · rw [if_pos hi, if_pos hi]
      right
      rcases lsB_lp hc h i with ⟨e1, e2⟩ | ⟨k, k1, k2, e1, e2⟩
      · rw [e1, e2, if_pos (.inl rfl), if_pos (.inl (by show (-1 : Int) < 0; omega))]
        exact ⟨i, by omega, hi, rfl, rfl⟩
      · rw [e1, e2]
        obtain ⟨a0, a1⟩ := h i hi
        obtain ⟨b0, b1⟩ := h k k2
        have bn : 0 ≤ S' k := by rw [b1]; exact Int.mul_nonneg (by omega) b0
        have q : S' i < S' k ↔ S i < S k := by
          rw [a1, b1]
          constructor
          · intro hx
            exact Int.lt_of_mul_lt_mul_left hx (by omega)
          · intro hx
            exact Int.mul_lt_mul_of_pos_left hx (by omega)
        by_cases hx : S i < S k
        · rw [if_pos (.inr hx), if_pos (.inr (q.2 hx))]
          exact ⟨i, by omega, hi, rfl, rfl⟩
        · rw [if_neg (by rintro (h | h); exact absurd h (by show ¬ (k : Int) = -1; omega); exact hx h), if_neg (by rintro (h | h); exact absurd h (by show ¬ S' k < 0; omega); exact hx (q.1 h))]
          exact ⟨k, by omega, k2, rfl, rfl⟩
    · rw [if_neg hi, if_neg hi]
      rcases lsB_lp hc h i with e | ⟨k, k1, k2, e1, e2⟩
      · exact .inl e
      · exact .inr ⟨k, by omega, k2, e1, e2⟩
theorem lsB_mn {S : Nat → Int} {ks : List Int} {z : Int} (h : ∀ k, ks[k]? = some (-1) → S k ≤ z) : ∀ i : Nat,
    (lsB S ks i = (-1, 0) ∧ mnB S ks z i = z ∧ ∀ k, k < i → ks[k]? ≠ some (-1)) ∨ ((lsB S ks i).1 ≠ -1 ∧ mnB S ks z i = (lsB S ks i).2)
  | 0 => .inl ⟨rfl, rfl, fun k h => by omega⟩
  | i + 1 => by
    simp only [lsB, mnB]
    by_cases hi : ks[i]? = some (-1)
    · rw [if_pos hi, if_pos hi]
      right
      have hz := h i hi
      rcases lsB_mn h i with ⟨e1, e2, _⟩ | ⟨e1, e2⟩
      · rw [e1, e2, if_pos (.inl rfl)]
        refine ⟨by show (i : Int) ≠ -1; omega, ?_⟩
        show min z (S i) = S i
        omega
      · rw [e2]
        by_cases hx : S i < (lsB S ks i).2
        · rw [if_pos (.inr hx)]
          refine ⟨by show (i : Int) ≠ -1; omega, ?_⟩
          show min (lsB S ks i).2 (S i) = S i
          omega
        · rw [if_neg (by rintro (h | h); exact e1 h; exact hx h)]
          exact ⟨e1, by omega⟩
    · rw [if_neg hi, if_neg hi]
      rcases lsB_mn h i with ⟨e1, e2, e3⟩ | e
      · refine .inl ⟨e1, e2, fun k hk => ?_⟩
        by_cases q : k = i
        · subst q; exact hi
        · exact e3 k (by omega)
      · exact .inr e
/-- the weight of what is known -/
def kp : List T → List Int → Int
  | t :: r, k :: ks => (if k = -1 then 1 else if k = 1 then t.2 else 6 - t.2) * kp r ks
  | _, _ => 1
theorem kp_wk : ∀ {us : List T} {ks : List Int}, ks.length = us.length → wk us ks = kp us ks * 6 ^ uk ks
  | [], [], _ => rfl
  | [], _ :: _, h => by simp at h
  | _ :: _, [], h => by simp at h
  | t :: us, k :: ks, h => by
    have ih := kp_wk (us := us) (ks := ks) (by simpa using h)
    show (if k = -1 then 6 else if k = 1 then t.2 else 6 - t.2) * wk us ks = (if k = -1 then 1 else if k = 1 then t.2 else 6 - t.2) * kp us ks * 6 ^ uk (k :: ks)
    rw [ih]
    by_cases e : k = -1
    · have : uk (k :: ks) = uk ks + 1 := by simp only [uk]; rw [if_pos e]; omega
      rw [if_pos e, if_pos e, this, Int.pow_succ, Int.one_mul, Int.mul_comm 6, Int.mul_assoc]
    · have : uk (k :: ks) = uk ks := by simp only [uk]; rw [if_neg e]; omega
      rw [if_neg e, if_neg e, this, Int.mul_assoc]
theorem kp_pos : ∀ {us : List T} {ks : List Int}, us.all tOk = true → 1 ≤ kp us ks
  | [], ks, _ => by simp [kp]
  | t :: us, [], _ => by simp [kp]
  | t :: us, k :: ks, h => by
    simp only [List.all_cons, Bool.and_eq_true] at h
    have ih := kp_pos (us := us) (ks := ks) h.2
    have ht := (tOk_iff.1 h.1).2
    have c : 1 ≤ (if k = -1 then 1 else if k = 1 then t.2 else 6 - t.2) := by
      split
      · omega
      · split <;> omega
    have := Int.mul_le_mul c ih (by omega) (by omega)
    simpa [kp] using this
theorem kp_put : ∀ {us : List T} {ks : List Int} {k : Nat}, ks.length = us.length → ks[k]? = some (-1) →
    kp us (ks.set k 0) = kp us ks * (6 - (us.getD k (0, 0)).2) ∧ kp us (ks.set k 1) = kp us ks * (us.getD k (0, 0)).2
  | _, [], k, _, h => by simp at h
  | [], x :: r, k, hl, h => by simp at hl
  | t :: us, x :: r, 0, hl, h => by
    simp only [List.getElem?_cons_zero, Option.some.injEq] at h
    subst h
    have e : kp (t :: us) (-1 :: r) = kp us r := by simp [kp]
    rw [e]
    refine ⟨?_, ?_⟩
    · show (6 - t.2) * kp us r = _
      rw [Int.mul_comm]; rfl
    · show t.2 * kp us r = _
      rw [Int.mul_comm]; rfl
  | t :: us, x :: r, k + 1, hl, h => by
    simp only [List.getElem?_cons_succ] at h
    obtain ⟨h2, h3⟩ := kp_put (us := us) (by simpa using hl) h
    have e : ∀ ks : List Int, kp (t :: us) (x :: ks) = (if x = -1 then 1 else if x = 1 then t.2 else 6 - t.2) * kp us ks := fun _ => rfl
    generalize hc : (if x = -1 then 1 else if x = 1 then t.2 else 6 - t.2) = c at e
    have g : (t :: us).getD (k + 1) (0, 0) = us.getD k (0, 0) := by simp [List.getD]
    rw [g]
    refine ⟨?_, ?_⟩
    · rw [List.set_cons_succ, e, e, h2, Int.mul_assoc]
    · rw [List.set_cons_succ, e, e, h3, Int.mul_assoc]
theorem kp_non : ∀ us : List T, kp us (non us.length) = 1
  | [] => rfl
  | t :: us => by
    show (if (-1 : Int) = -1 then 1 else _) * kp us (non us.length) = 1
    rw [if_pos rfl, kp_non us]
    rfl
/-- what asking costs on average, in parts -/
def avQ (us : List T) (ks : List Int) (k : Nat) (no yes : Int) : Int := cA us k * 6 ^ uk ks + (6 - (us.getD k (0, 0)).2) * no + (us.getD k (0, 0)).2 * yes
theorem lsF_bPl {us t : List T} (h : us.all tOk = true) : ∀ (f : Nat) (ks : List Int), ks.length = us.length → ks.all kOk = true → uk ks ≤ f →
    0 ≤ (lsF us.length t (avQ us) f ks).2 ∧ kp us ks * (lsF us.length t (avQ us) f ks).2 = (bPl us t f ks).1 ∧ (lsF us.length t (avQ us) f ks).1 = (bPl us t f ks).2
  | 0, ks, hl, hk, hu => by
    simp only [lsF, bPl]
    exact ⟨Int.le_refl _, by simp, by simp⟩
  | f + 1, ks, hl, hk, hu => by
    simp only [lsF, bPl]
    cases hc : fcd us.length t ks with
    | true => rw [if_pos rfl, if_pos rfl]; exact ⟨Int.le_refl _, by simp, rfl⟩
    | false =>
      rw [if_neg (by simp), if_neg (by simp)]
      have key : ∀ k, ks[k]? = some (-1) → 0 ≤ avQ us ks k (lsF us.length t (avQ us) f (ks.set k 0)).2 (lsF us.length t (avQ us) f (ks.set k 1)).2 ∧
          wk us ks * cA us k + (bPl us t f (ks.set k 0)).1 + (bPl us t f (ks.set k 1)).1 = kp us ks * avQ us ks k (lsF us.length t (avQ us) f (ks.set k 0)).2 (lsF us.length t (avQ us) f (ks.set k 1)).2 := fun k hkk => by
        have u := fun (b : Bool) => uk_set (b := bI b) (by cases b <;> simp [bI]) hkk
        have u0 := u false
        have u1 := u true
        rw [bI_0] at u0
        rw [bI_1] at u1
        obtain ⟨a1, a2, _⟩ := lsF_bPl h (t := t) f (ks.set k 0) (by simpa using hl) (kOk_set hk k false) (by omega)
        obtain ⟨b1, b2, _⟩ := lsF_bPl h (t := t) f (ks.set k 1) (by simpa using hl) (kOk_set hk k true) (by omega)
        obtain ⟨p0, p1⟩ := kp_put hl hkk
        rw [← a2, ← b2, p0, p1, kp_wk hl]
        have kl := ks_ex hkk
        have tq : 1 ≤ (us.getD k (0, 0)).2 ∧ (us.getD k (0, 0)).2 ≤ 5 := by
          have hlt : k < us.length := by omega
          have e : us.getD k (0, 0) = us[k] := by simp [List.getD, hlt]
          have := tOk_iff.1 (List.all_eq_true.1 h us[k] (List.getElem_mem hlt))
          rw [← e] at this
          exact this.2
        have c0 := cA_nn' h k
        have pp : (0 : Int) ≤ 6 ^ uk ks := Int.le_of_lt (Int.pow_pos (by omega))
        generalize (lsF us.length t (avQ us) f (ks.set k 0)).2 = x at *
        generalize (lsF us.length t (avQ us) f (ks.set k 1)).2 = y at *
        unfold avQ
        generalize (us.getD k (0, 0)).2 = q at *
        generalize cA us k = c at *
        generalize (6 : Int) ^ uk ks = w at *
        generalize kp us ks = K at *
        refine ⟨?_, ?_⟩
        · have m1 := Int.mul_nonneg c0 pp
          have m2 := Int.mul_nonneg (show (0 : Int) ≤ 6 - q by omega) a1
          have m3 := Int.mul_nonneg (show (0 : Int) ≤ q by omega) b1
          omega
        · rw [Int.mul_add, Int.mul_add, Int.mul_assoc K (6 - q) x, Int.mul_assoc K q y, Int.mul_assoc K w c, Int.mul_comm w c]
      rcases lsB_lp (kp_pos (ks := ks) h) key us.length with ⟨e1, e2⟩ | ⟨k, k1, k2, e1, e2⟩
      · exfalso
        have up : 0 < uk ks := by
          apply Nat.pos_of_ne_zero
          intro e
          rw [fcd_all hl hk e] at hc
          cases hc
        have B := bPl_ok (t := t) h (f + 1) ks hl hk hu
        obtain ⟨k, k1, k2, _⟩ := B.go hc
        simp only [bPl] at k2
        rw [if_neg (by rw [hc]; simp), e2] at k2
        simp only at k2
        omega
      · rw [e1, e2]
        exact ⟨(key k k2).1, (key k k2).2.symm, rfl⟩
theorem lsF_up {us t : List T} (h : us.all tOk = true) (hm : us.length ≤ 5) {f : Nat} {ks : List Int} (hl : ks.length = us.length) (hk : ks.all kOk = true) (hu : uk ks ≤ f) (hf : f ≤ 5) : (lsF us.length t (avQ us) f ks).2 ≤ 349920 := by
  obtain ⟨a1, a2, _⟩ := lsF_bPl h (t := t) f ks hl hk hu
  have b := bPl_up h (t := t) f ks hl hk hu
  have kpp := kp_pos (ks := ks) h
  rw [← a2, kp_wk hl] at b
  have ul := uk_le ks
  have p := p6 (n := uk ks) (by omega)
  have : (lsF us.length t (avQ us) f ks).2 ≤ 9 * f * 6 ^ uk ks := by
    refine Int.le_of_mul_le_mul_left (a := kp us ks) ?_ (by omega)
    rw [show kp us ks * (9 * (f : Int) * 6 ^ uk ks) = 9 * f * (kp us ks * 6 ^ uk ks) by rw [Int.mul_left_comm]]
    exact b
  have q : 9 * (f : Int) * 6 ^ uk ks ≤ 45 * 7776 := Int.mul_le_mul (by omega) p.2 (by omega) (by omega)
  omega
def dpP (ks : List Int) (k : Nat) (no yes : Int) : Int := 1 + max no yes
theorem lsF_ldP {m : Nat} {t : List T} : ∀ (f : Nat) (ks : List Int), ks.length = m → ks.all kOk = true → uk ks ≤ f → (lsF m t dpP f ks).2 = ldP m t f ks
  | 0, ks, hl, hk, hu => rfl
  | f + 1, ks, hl, hk, hu => by
    simp only [lsF, ldP]
    cases hc : fcd m t ks with
    | true => rw [if_pos rfl, if_pos rfl]
    | false =>
      rw [if_neg (by simp), if_neg (by simp)]
      have u := fun (k : Nat) (hkk : ks[k]? = some (-1)) (b : Bool) => uk_set (b := bI b) (by cases b <;> simp [bI]) hkk
      have ul := uk_le ks
      have mn : mnB (fun k => 1 + max (ldP m t f (ks.set k 0)) (ldP m t f (ks.set k 1))) ks m m = mnB (fun k => dpP ks k (lsF m t dpP f (ks.set k 0)).2 (lsF m t dpP f (ks.set k 1)).2) ks m m := by
        have gen : ∀ i, mnB (fun k => 1 + max (ldP m t f (ks.set k 0)) (ldP m t f (ks.set k 1))) ks m i = mnB (fun k => dpP ks k (lsF m t dpP f (ks.set k 0)).2 (lsF m t dpP f (ks.set k 1)).2) ks m i := by
          intro i
          induction i with
          | zero => rfl
          | succ i ih =>
            simp only [mnB]
            by_cases hi : ks[i]? = some (-1)
            · rw [if_pos hi, if_pos hi, ih]
              have u0 := u i hi false
              have u1 := u i hi true
              rw [bI_0] at u0
              rw [bI_1] at u1
              rw [lsF_ldP f (ks.set i 0) (by simpa using hl) (kOk_set hk i false) (by omega), lsF_ldP f (ks.set i 1) (by simpa using hl) (kOk_set hk i true) (by omega)]
              rfl
            · rw [if_neg hi, if_neg hi, ih]
        exact gen m
      rw [mn]
      have up : 0 < uk ks := by
        apply Nat.pos_of_ne_zero
        intro e
        rw [fcd_all hl hk e] at hc
        cases hc
      have le : ∀ k, ks[k]? = some (-1) → dpP ks k (lsF m t dpP f (ks.set k 0)).2 (lsF m t dpP f (ks.set k 1)).2 ≤ m := fun k hkk => by
        have u0 := u k hkk false
        have u1 := u k hkk true
        rw [bI_0] at u0
        rw [bI_1] at u1
        rw [lsF_ldP f (ks.set k 0) (by simpa using hl) (kOk_set hk k false) (by omega), lsF_ldP f (ks.set k 1) (by simpa using hl) (kOk_set hk k true) (by omega)]
        obtain ⟨x, x1, x2⟩ := ldP_ex (t := t) f (ks.set k 0) (by simpa using hl) (kOk_set hk k false) (by omega)
        obtain ⟨y, y1, y2⟩ := ldP_ex (t := t) f (ks.set k 1) (by simpa using hl) (kOk_set hk k true) (by omega)
        have d0 := dpT_le x (ks.set k 0) (by simpa using hl) x1
        have d1 := dpT_le y (ks.set k 1) (by simpa using hl) y1
        rw [x2, y2]
        unfold dpP
        omega
      rcases lsB_mn le m with ⟨_, _, e3⟩ | ⟨_, e2⟩
      · exfalso
        have : uk ks = 0 := uk_none fun k hkk => e3 k (by have := ks_ex hkk; omega) hkk
        omega
      · exact e2.symm
end
section
attribute [-simp] DV.cells
attribute [local simp] sliceD cells_st cells_sl cells_i cells_y cells_b cells_s cells_w
theorem c_impl_wholeOf {n : Nat} (hn : n ≤ 5) : call lf n_impl_wholeOf [.i n] = some (.i (6 ^ n), []) := by
  rw [call_k lf n_impl_wholeOf _ (F := F_impl_wholeOf) rfl rfl]
  have L := loop_count (lf := lf) (L := F_impl_wholeOf_L0) n (fun i => ⟨[(3, .i (6 ^ i)), (4, .i n), (5, .i i)], []⟩) (x := .exit 0) (R := ⟨[(3, .i (6 ^ n)), (4, .i n), (5, .i n)], []⟩) (fun i hi => by
    have p := p6 (n := i) (by omega)
    have w1 : wr ((i : Int) + 1) = i + 1 := wr_id (by omega) (by omega)
    have w2 : wr ((6 : Int) ^ i * 6) = 6 ^ i * 6 := wr_id (by omega) (by omega)
    simp [F_impl_wholeOf_L0, hi, w1, w2, Int.pow_succ]) (by simp [F_impl_wholeOf_L0]) (by simp)
  have L' : ex lf F_impl_wholeOf_W0 ⟨[(3, .i 1), (4, .i n), (5, .i 0)], []⟩ = some (.exit 0, ⟨[(3, .i (6 ^ n)), (4, .i n), (5, .i n)], []⟩) := L
  simp [F_impl_wholeOf, L']
end
section
attribute [-simp] DV.cells
attribute [local simp] sliceD cells_st cells_sl cells_i cells_y cells_b cells_s cells_w
attribute [local simp] lend_e3 adopt_e3 new_e3 al_e3 lt_e3
set_option maxHeartbeats 4000000 in
theorem c_averagesOf_1 {us t : List T} {ks : List Int} (hu : us.all tOk = true) (hm : us.length ≤ 5) (hl : ks.length = us.length) {k : Nat} (hk : k < us.length) {no yes : Int} (h0 : 0 ≤ no ∧ no ≤ 400000) (h1 : 0 ≤ yes ∧ yes ≤ 400000) :
    call lf n_impl_averagesOf_1 [pD us.length t ks, .i k, .i no, .i yes, .adr (.sl 0 (us.map e2))] = some (.i (avQ us ks k no yes), []) := by
  obtain ⟨c, q, c1, c2, c3⟩ := cA_at (us := us) (a := (k : Int)) (by omega) (by omega)
  rw [Int.toNat_natCast] at c2 c3
  have tq : tOk (c, q) = true := by
    have e : us.getD k (0, 0) = us[k] := by simp [List.getD, hk]
    rw [← c3, e]
    exact List.all_eq_true.1 hu us[k] (List.getElem_mem hk)
  have tq := tOk_iff.1 tq
  simp only at tq
  have H := c_howMany (m := us.length) (t := t) (ks := ks) (by omega)
  have kk := kn_uk ks
  have W := c_impl_wholeOf (n := uk ks) (by omega)
  have p := p6 (n := uk ks) (by omega)
  have w1 : wr ((us.length : Int) - kn ks) = (uk ks : Int) := by rw [wr_id (by omega) (by omega)]; omega
  have b1 : c * 6 ^ uk ks ≤ 9 * 7776 := Int.mul_le_mul tq.1.2 p.2 (by omega) (by omega)
  have b1' : 0 ≤ c * 6 ^ uk ks := Int.mul_nonneg (by omega) (by omega)
  have b2 : (6 - q) * no ≤ 5 * 400000 := Int.mul_le_mul (by omega) h0.2 h0.1 (by omega)
  have b2' : 0 ≤ (6 - q) * no := Int.mul_nonneg (by omega) h0.1
  have b3 : q * yes ≤ 5 * 400000 := Int.mul_le_mul (by omega) h1.2 h1.1 (by omega)
  have b3' : 0 ≤ q * yes := Int.mul_nonneg (by omega) h1.1
  have w2 : wr (c * 6 ^ uk ks) = c * 6 ^ uk ks := wr_id (by omega) (by omega)
  have w3 : wr (6 - q) = 6 - q := wr_id (by omega) (by omega)
  have w4 : wr ((6 - q) * no) = (6 - q) * no := wr_id (by omega) (by omega)
  have w5 : wr (c * 6 ^ uk ks + (6 - q) * no) = c * 6 ^ uk ks + (6 - q) * no := wr_id (by omega) (by omega)
  have w6 : wr (q * yes) = q * yes := wr_id (by omega) (by omega)
  have w7 : wr (c * 6 ^ uk ks + (6 - q) * no + q * yes) = c * 6 ^ uk ks + (6 - q) * no + q * yes := wr_id (by omega) (by omega)
  unfold avQ
  rw [c3, ← c2]
  simp only
  have ul : (us.map e2).length = us.length := by simp
  have kl : (k : Int) < us.length := by omega
  unfold pD pv at *
  rw [call_k lf n_impl_averagesOf_1 _ (F := F_impl_averagesOf_1) rfl rfl]
  generalize us.map e2 = U at *
  generalize (6 : Int) ^ uk ks = z at *
  generalize uk ks = u at *
  generalize kn ks = v at *
  generalize aN ks = a at *
  simp [F_impl_averagesOf_1, c1, ul, kl, H, W, w1, w2, w3, w4, w5, w6, w7]
theorem c_averagesOf (us : List T) : call lf n_impl_averagesOf [.sl 0 (us.map e2)] = some (.fn n_impl_averagesOf_1 [.adr (.sl 0 (us.map e2))], []) := by
  rw [call_k lf n_impl_averagesOf _ (F := F_impl_averagesOf) rfl rfl]
  simp [F_impl_averagesOf]
theorem c_LeastDepth_1 {m : Nat} {t : List T} {ks : List Int} {k : Nat} {no yes : Int} (h0 : 0 ≤ no ∧ no ≤ 400000) (h1 : 0 ≤ yes ∧ yes ≤ 400000) : call lf n_impl_LeastDepth_1 [pD m t ks, .i k, .i no, .i yes] = some (.i (dpP ks k no yes), []) := by
  have w1 : wr (1 + max no yes) = 1 + max no yes := wr_id (by omega) (by omega)
  unfold dpP pD pv
  rw [call_k lf n_impl_LeastDepth_1 _ (F := F_impl_LeastDepth_1) rfl rfl]
  simp [F_impl_LeastDepth_1, w1]
def stLsA (us t : List T) (ks : List Int) (b : Int × Int) (i : Nat) : LS :=
  ⟨[(1, .fn n_impl_averagesOf_1 [.adr (.sl 0 (us.map e2))]), (2, .oad 1056 1 0 0), (6, .i b.1), (7, .i b.2), (19, .i us.length), (20, .i i)], [(1056, [pD us.length t ks])]⟩
set_option maxHeartbeats 8000000 in
theorem c_leastFromA {us t : List T} (hu : us.all tOk = true) (hm : 1 ≤ us.length ∧ us.length ≤ 5) (ht : tmOk us.length t = true) : ∀ (f : Nat) (ks : List Int), f ≤ 5 → ks.length = us.length → ks.all kOk = true → uk ks ≤ f →
    call lf n_impl_leastFrom [pD us.length t ks, .fn n_impl_averagesOf_1 [.adr (.sl 0 (us.map e2))]] = some (.tup [.i (lsF us.length t (avQ us) f ks).1, .i (lsF us.length t (avQ us) f ks).2], [])
  | f, ks, hf5, hl, hk, hf => by
    have F := c_isForced ht hl hk
    cases hc : fcd us.length t ks with
    | true =>
      have e : lsF us.length t (avQ us) f ks = (-1, 0) := by
        cases f with
        | zero => rfl
        | succ f => simp only [lsF]; rw [if_pos hc]
      rw [e]
      rw [hc] at F
      unfold pD pv at *
      rw [call_k lf n_impl_leastFrom _ (F := F_impl_leastFrom) rfl rfl]
      simp [F_impl_leastFrom, F]
    | false =>
      cases f with
      | zero =>
        rw [fcd_all hl hk (by omega)] at hc
        cases hc
      | succ f =>
        rw [hc] at F
        have e : lsF us.length t (avQ us) (f + 1) ks = lsB (fun k => (avQ us) ks k (lsF us.length t (avQ us) f (ks.set k 0)).2 (lsF us.length t (avQ us) f (ks.set k 1)).2) ks us.length := by
          simp only [lsF]
          rw [if_neg (by rw [hc]; simp)]
        rw [e]
        have us' := fun (k : Nat) (hkk : ks[k]? = some (-1)) (b : Bool) => uk_set (b := bI b) (by cases b <;> simp [bI]) hkk
        have BD : ∀ (k : Nat) (b : Bool), ks[k]? = some (-1) → 0 ≤ (lsF us.length t (avQ us) f (ks.set k (bI b))).2 ∧ (lsF us.length t (avQ us) f (ks.set k (bI b))).2 ≤ 400000 := fun k b hkk => by
          have := us' k hkk b
          exact ⟨(lsF_bPl hu f (ks.set k (bI b)) (by simpa using hl) (kOk_set hk k b) (by omega)).1, by have := lsF_up (t := t) hu hm.2 (f := f) (ks := ks.set k (bI b)) (by simpa using hl) (kOk_set hk k b) (by omega) (by omega); omega⟩
        generalize hS : (fun k => (avQ us) ks k (lsF us.length t (avQ us) f (ks.set k 0)).2 (lsF us.length t (avQ us) f (ks.set k 1)).2) = S
        have LP := loop_count (lf := lf) (L := F_impl_leastFrom_L0) us.length (fun i => stLsA us t ks (lsB S ks i) i) (x := .exit 0) (R := stLsA us t ks (lsB S ks us.length) us.length) (fun i hi => by
          have C := c_canAsk (m := us.length) (t := t) (ks := ks) (by omega) hl (i : Int)
          have w1 : wr ((i : Int) + 1) = ((i + 1 : Nat) : Int) := by rw [wr_id (by omega) (by omega)]; omega
          have hi' : (i : Int) < (us.length : Int) := by omega
          have eb : lsB S ks (i + 1) = if ks[i]? = some (-1) then (if (lsB S ks i).1 = -1 ∨ S i < (lsB S ks i).2 then ((i : Int), S i) else lsB S ks i) else lsB S ks i := rfl
          have ca : caK us.length ks (i : Int) = decide (ks[i]? = some (-1)) := by
            unfold caK
            rw [decide_eq_true (show 0 ≤ (i : Int) ∧ (i : Int) < (us.length : Int) by omega), Int.toNat_natCast, Bool.true_and]
          rw [ca] at C
          rw [eb]
          by_cases hkk : ks[i]? = some (-1)
          · rw [if_pos hkk]
            rw [decide_eq_true hkk] at C
            have B0 := c_answered (m := us.length) (t := t) false (by omega) hk hkk
            have B1 := c_answered (m := us.length) (t := t) true (by omega) hk hkk
            have u0 := us' i hkk false
            have u1 := us' i hkk true
            have G0 := c_leastFromA hu hm ht f (ks.set i (bI false)) (by omega) (by simpa using hl) (kOk_set hk i false) (by omega)
            have G1 := c_leastFromA hu hm ht f (ks.set i (bI true)) (by omega) (by simpa using hl) (kOk_set hk i true) (by omega)
            have D0 := BD i false hkk
            have D1 := BD i true hkk
            rw [bI_0] at B0 G0 D0
            rw [bI_1] at B1 G1 D1
            have Pr := c_averagesOf_1 (us := us) (t := t) (ks := ks) hu hm.2 hl (k := i) hi (no := (lsF us.length t (avQ us) f (ks.set i 0)).2) (yes := (lsF us.length t (avQ us) f (ks.set i 1)).2) D0 D1
            have eS : S i = (avQ us) ks i (lsF us.length t (avQ us) f (ks.set i 0)).2 (lsF us.length t (avQ us) f (ks.set i 1)).2 := by rw [← hS]
            rw [← eS] at Pr
            clear BD hS eb
            generalize lsF us.length t (avQ us) f (ks.set i 0) = x at *
            generalize lsF us.length t (avQ us) f (ks.set i 1) = y at *
            obtain ⟨x1, x2⟩ := x
            obtain ⟨y1, y2⟩ := y
            generalize lsB S ks i = b at *
            obtain ⟨b1, b2⟩ := b
            generalize S i = s at *
            simp only at *
            unfold stLsA
            unfold pD pv at *
            by_cases hb : b1 = -1
            · rw [if_pos (.inl hb)]
              have hb' : (b1 == -1) = true := by simpa using hb
              subst hb
              simp [F_impl_leastFrom_L0, hi, hi', C, B0, B1, G0, G1, Pr, w1, -Int.natCast_add]
            · have hb' : (b1 == -1) = false := beq_eq_false_iff_ne.2 hb
              by_cases hlt : s < b2
              · rw [if_pos (.inr hlt)]
                simp [F_impl_leastFrom_L0, hi, hi', C, B0, B1, G0, G1, Pr, w1, hb', hlt, -Int.natCast_add]
              · rw [if_neg (by rintro (h | h); exact hb h; exact hlt h)]
                simp [F_impl_leastFrom_L0, hi, hi', C, B0, B1, G0, G1, Pr, w1, hb', hlt, -Int.natCast_add]
          · rw [if_neg hkk]
            rw [decide_eq_false hkk] at C
            clear BD hS eb
            generalize lsB S ks i = b at *
            unfold stLsA
            unfold pD pv at *
            simp [F_impl_leastFrom_L0, hi, hi', C, w1, -Int.natCast_add]) (by
          unfold stLsA
          unfold pD pv at *
          simp [F_impl_leastFrom_L0]) (by simp)
        have z : lsB S ks 0 = (-1, 0) := rfl
        rw [z] at LP
        unfold stLsA at LP
        simp only [Int.natCast_zero] at LP
        change ex lf F_impl_leastFrom_W0 _ = _ at LP
        clear BD hS
        unfold pD pv at *
        rw [call_k lf n_impl_leastFrom _ (F := F_impl_leastFrom) rfl rfl]
        generalize lsB S ks us.length = b at *
        simp [F_impl_leastFrom, F, LP]
def stLsD (m : Nat) (t : List T) (ks : List Int) (b : Int × Int) (i : Nat) : LS :=
  ⟨[(1, .fn n_impl_LeastDepth_1 []), (2, .oad 1056 1 0 0), (6, .i b.1), (7, .i b.2), (19, .i m), (20, .i i)], [(1056, [pD m t ks])]⟩
set_option maxHeartbeats 8000000 in
theorem c_leastFromD {m : Nat} {t : List T} (hm : 1 ≤ m ∧ m ≤ 5) (ht : tmOk m t = true) : ∀ (f : Nat) (ks : List Int), f ≤ 5 → ks.length = m → ks.all kOk = true → uk ks ≤ f →
    call lf n_impl_leastFrom [pD m t ks, .fn n_impl_LeastDepth_1 []] = some (.tup [.i (lsF m t dpP f ks).1, .i (lsF m t dpP f ks).2], [])
  | f, ks, hf5, hl, hk, hf => by
    have F := c_isForced ht hl hk
    cases hc : fcd m t ks with
    | true =>
      have e : lsF m t dpP f ks = (-1, 0) := by
        cases f with
        | zero => rfl
        | succ f => simp only [lsF]; rw [if_pos hc]
      rw [e]
      rw [hc] at F
      unfold pD pv at *
      rw [call_k lf n_impl_leastFrom _ (F := F_impl_leastFrom) rfl rfl]
      simp [F_impl_leastFrom, F]
    | false =>
      cases f with
      | zero =>
        rw [fcd_all hl hk (by omega)] at hc
        cases hc
      | succ f =>
        rw [hc] at F
        have e : lsF m t dpP (f + 1) ks = lsB (fun k => dpP ks k (lsF m t dpP f (ks.set k 0)).2 (lsF m t dpP f (ks.set k 1)).2) ks m := by
          simp only [lsF]
          rw [if_neg (by rw [hc]; simp)]
        rw [e]
        have us' := fun (k : Nat) (hkk : ks[k]? = some (-1)) (b : Bool) => uk_set (b := bI b) (by cases b <;> simp [bI]) hkk
        have BD : ∀ (k : Nat) (b : Bool), ks[k]? = some (-1) → 0 ≤ (lsF m t dpP f (ks.set k (bI b))).2 ∧ (lsF m t dpP f (ks.set k (bI b))).2 ≤ 400000 := fun k b hkk => by
          have := us' k hkk b
          rw [lsF_ldP f (ks.set k (bI b)) (by simpa using hl) (kOk_set hk k b) (by omega)]; have := ldP_nn (m := m) (t := t) f (ks.set k (bI b)); omega
        generalize hS : (fun k => dpP ks k (lsF m t dpP f (ks.set k 0)).2 (lsF m t dpP f (ks.set k 1)).2) = S
        have LP := loop_count (lf := lf) (L := F_impl_leastFrom_L0) m (fun i => stLsD m t ks (lsB S ks i) i) (x := .exit 0) (R := stLsD m t ks (lsB S ks m) m) (fun i hi => by
          have C := c_canAsk (m := m) (t := t) (ks := ks) (by omega) hl (i : Int)
          have w1 : wr ((i : Int) + 1) = ((i + 1 : Nat) : Int) := by rw [wr_id (by omega) (by omega)]; omega
          have hi' : (i : Int) < (m : Int) := by omega
          have eb : lsB S ks (i + 1) = if ks[i]? = some (-1) then (if (lsB S ks i).1 = -1 ∨ S i < (lsB S ks i).2 then ((i : Int), S i) else lsB S ks i) else lsB S ks i := rfl
          have ca : caK m ks (i : Int) = decide (ks[i]? = some (-1)) := by
            unfold caK
            rw [decide_eq_true (show 0 ≤ (i : Int) ∧ (i : Int) < (m : Int) by omega), Int.toNat_natCast, Bool.true_and]
          rw [ca] at C
          rw [eb]
          by_cases hkk : ks[i]? = some (-1)
          · rw [if_pos hkk]
            rw [decide_eq_true hkk] at C
            have B0 := c_answered (m := m) (t := t) false (by omega) hk hkk
            have B1 := c_answered (m := m) (t := t) true (by omega) hk hkk
            have u0 := us' i hkk false
            have u1 := us' i hkk true
            have G0 := c_leastFromD hm ht f (ks.set i (bI false)) (by omega) (by simpa using hl) (kOk_set hk i false) (by omega)
            have G1 := c_leastFromD hm ht f (ks.set i (bI true)) (by omega) (by simpa using hl) (kOk_set hk i true) (by omega)
            have D0 := BD i false hkk
            have D1 := BD i true hkk
            rw [bI_0] at B0 G0 D0
            rw [bI_1] at B1 G1 D1
            have Pr := c_LeastDepth_1 (m := m) (t := t) (ks := ks) (k := i) (no := (lsF m t dpP f (ks.set i 0)).2) (yes := (lsF m t dpP f (ks.set i 1)).2) D0 D1
            have eS : S i = dpP ks i (lsF m t dpP f (ks.set i 0)).2 (lsF m t dpP f (ks.set i 1)).2 := by rw [← hS]
            rw [← eS] at Pr
            clear BD hS eb
            generalize lsF m t dpP f (ks.set i 0) = x at *
            generalize lsF m t dpP f (ks.set i 1) = y at *
            obtain ⟨x1, x2⟩ := x
            obtain ⟨y1, y2⟩ := y
            generalize lsB S ks i = b at *
            obtain ⟨b1, b2⟩ := b
            generalize S i = s at *
            simp only at *
            unfold stLsD
            unfold pD pv at *
            by_cases hb : b1 = -1
            · rw [if_pos (.inl hb)]
              have hb' : (b1 == -1) = true := by simpa using hb
              subst hb
              simp [F_impl_leastFrom_L0, hi, hi', C, B0, B1, G0, G1, Pr, w1, -Int.natCast_add]
            · have hb' : (b1 == -1) = false := beq_eq_false_iff_ne.2 hb
              by_cases hlt : s < b2
              · rw [if_pos (.inr hlt)]
                simp [F_impl_leastFrom_L0, hi, hi', C, B0, B1, G0, G1, Pr, w1, hb', hlt, -Int.natCast_add]
              · rw [if_neg (by rintro (h | h); exact hb h; exact hlt h)]
                simp [F_impl_leastFrom_L0, hi, hi', C, B0, B1, G0, G1, Pr, w1, hb', hlt, -Int.natCast_add]
          · rw [if_neg hkk]
            rw [decide_eq_false hkk] at C
            clear BD hS eb
            generalize lsB S ks i = b at *
            unfold stLsD
            unfold pD pv at *
            simp [F_impl_leastFrom_L0, hi, hi', C, w1, -Int.natCast_add]) (by
          unfold stLsD
          unfold pD pv at *
          simp [F_impl_leastFrom_L0]) (by simp)
        have z : lsB S ks 0 = (-1, 0) := rfl
        rw [z] at LP
        unfold stLsD at LP
        simp only [Int.natCast_zero] at LP
        change ex lf F_impl_leastFrom_W0 _ = _ at LP
        clear BD hS
        unfold pD pv at *
        rw [call_k lf n_impl_leastFrom _ (F := F_impl_leastFrom) rfl rfl]
        generalize lsB S ks m = b at *
        simp [F_impl_leastFrom, F, LP]
end
section
attribute [-simp] DV.cells
attribute [local simp] sliceD cells_st cells_sl cells_i cells_y cells_b cells_s cells_w
attribute [local simp] lend_e3 adopt_e3 new_e3 al_e3 lt_e3
def rw3 (A B C : List DV) : List DV := [.sl 0 A, .sl 0 B, .sl 0 C]
def stC0 (X : List DV) (s : Int) (i : Nat) : LS := ⟨[(0, .sl 0 X), (3, .i s), (9, .sl 0 X), (10, .i 3), (11, .i i)], []⟩
def stC1 (X acc : List DV) (i : Nat) : LS := ⟨[(6, .own 12312 acc.length 0 acc.length), (25, .sl 0 X), (26, .i 3), (27, .i i)], [(12312, acc)]⟩
theorem cc_step0 {X es : List DV} {i : Nat} {s : Int} (h : atI X (i : Int) = some (.sl 0 es)) (hi : i < 3) (h0 : 0 ≤ s) (hb : s + es.length ≤ 1000000) :
    ex lf F_slices_Concat_impl_Choice_impl_Choice_L0 (stC0 X s i) = some (.normal, stC0 X (s + es.length) (i + 1)) := by
  have w1 : wr ((i : Int) + 1) = ((i + 1 : Nat) : Int) := by rw [wr_id (by omega) (by omega)]; omega
  have w2 : wr (s + (es.length : Int)) = s + es.length := wr_id (by omega) (by omega)
  have hi' : (i : Int) < 3 := by omega
  have ng : ¬ s + (es.length : Int) < 0 := by omega
  unfold stC0
  simp [F_slices_Concat_impl_Choice_impl_Choice_L0, hi', h, w1, w2, ng, -Int.natCast_add]
theorem cc_step1 {X es acc : List DV} {i : Nat} (h : atI X (i : Int) = some (.sl 0 es)) (hi : i < 3) (hb : acc.length + es.length ≤ 1000000) (hc : ∀ e ∈ es, e.cells.length = 3) :
    ex lf F_slices_Concat_impl_Choice_impl_Choice_L1 (stC1 X acc i) = some (.normal, stC1 X (acc ++ es) (i + 1)) := by
  have w1 : wr ((i : Int) + 1) = ((i + 1 : Nat) : Int) := by rw [wr_id (by omega) (by omega)]; omega
  have hi' : (i : Int) < 3 := by omega
  have lb : acc.length + es.length ≤ bound := by unfold bound; omega
  unfold stC1
  rw [List.length_append]
  simp [F_slices_Concat_impl_Choice_impl_Choice_L1, hi', h, w1, lb, if_pos hc, -Int.natCast_add]
set_option maxHeartbeats 4000000 in
theorem c_Concat {A B C : List DV} (hA : 0 < A.length) (hl : A.length + B.length + C.length ≤ 1000000) (cA : ∀ e ∈ A, e.cells.length = 3) (cB : ∀ e ∈ B, e.cells.length = 3) (cC : ∀ e ∈ C, e.cells.length = 3) :
    call lf n_slices_Concat_impl_Choice_impl_Choice [.sl 0 [.sl 0 A, .sl 0 B, .sl 0 C]] = some (.fr 3 (A ++ B ++ C), []) := by
  have a0 : atI (rw3 A B C) ((0 : Nat) : Int) = some (.sl 0 A) := rfl
  have a1 : atI (rw3 A B C) ((1 : Nat) : Int) = some (.sl 0 B) := rfl
  have a2 : atI (rw3 A B C) ((2 : Nat) : Int) = some (.sl 0 C) := rfl
  have L0 : ex lf F_slices_Concat_impl_Choice_impl_Choice_W0 (stC0 (rw3 A B C) 0 0) = some (.exit 0, stC0 (rw3 A B C) ((A.length : Int) + B.length + C.length) 3) := by
    rw [w_slices_Concat_impl_Choice_impl_Choice_0, cc_step0 a0 (by omega) (by omega) (by omega)]
    simp only
    rw [w_slices_Concat_impl_Choice_impl_Choice_0, cc_step0 a1 (by omega) (by omega) (by omega)]
    simp only
    rw [w_slices_Concat_impl_Choice_impl_Choice_0, cc_step0 a2 (by omega) (by omega) (by omega)]
    simp only
    rw [w_slices_Concat_impl_Choice_impl_Choice_0, Int.zero_add]
    unfold stC0
    generalize rw3 A B C = X
    simp [F_slices_Concat_impl_Choice_impl_Choice_L0]
  have L1 : ex lf F_slices_Concat_impl_Choice_impl_Choice_W1 (stC1 (rw3 A B C) [] 0) = some (.exit 2, stC1 (rw3 A B C) (A ++ B ++ C) 3) := by
    rw [w_slices_Concat_impl_Choice_impl_Choice_1, cc_step1 a0 (by omega) (by simp; omega) cA]
    simp only
    rw [w_slices_Concat_impl_Choice_impl_Choice_1, cc_step1 a1 (by omega) (by simp; omega) cB]
    simp only
    rw [w_slices_Concat_impl_Choice_impl_Choice_1, cc_step1 a2 (by omega) (by simp; omega) cC]
    simp only
    rw [w_slices_Concat_impl_Choice_impl_Choice_1, List.nil_append]
    unfold stC1
    generalize rw3 A B C = X
    simp [F_slices_Concat_impl_Choice_impl_Choice_L1]
  have G : call lf n_slices_Grow_impl_Choice_impl_Choice [.nil, .i ((A.length : Int) + B.length + C.length)] = some (.fr 3 [], []) := by
    rw [call_prim lf n_slices_Grow_impl_Choice_impl_Choice _ (F := F_slices_Grow_impl_Choice_impl_Choice) rfl rfl, grow_k, if_pos]
    unfold bound
    omega
  have rl : (rw3 A B C).length = 3 := rfl
  show call lf n_slices_Concat_impl_Choice_impl_Choice [.sl 0 (rw3 A B C)] = _
  rw [call_k lf n_slices_Concat_impl_Choice_impl_Choice _ (F := F_slices_Concat_impl_Choice_impl_Choice) rfl rfl]
  unfold stC0 at L0
  unfold stC1 at L1
  simp only [Int.natCast_zero, List.length_nil] at L0 L1
  generalize rw3 A B C = X at *
  generalize (A.length : Int) + B.length + C.length = n at *
  generalize A ++ B ++ C = Y at *
  simp [F_slices_Concat_impl_Choice_impl_Choice, L0, L1, G, rl]
/-- a choice, and what lies behind its answers -/
def lay3 (k place : Nat) (N Y : List C3) : List C3 := ((k : Int), (if N = [] then -1 else (place : Int) + 1), (if Y = [] then -1 else (place : Int) + 1 + N.length)) :: (N ++ Y)
theorem lay_ser (k place : Nat) (n y : PT) : lay3 k place (ser n (place + 1)) (ser y (place + 1 + n.size)) = ser (.ask k n y) place := by
  unfold lay3
  simp only [ser]
  congr 2
  · congr 1
    · cases n with
      | stop => simp [ser, rt]
      | ask a b c => simp [ser, rt]
    · cases y with
      | stop => simp [ser, rt]
      | ask a b c => simp [ser, rt, ser_len]
theorem cells_e3 (P : List C3) : ∀ e ∈ P.map e3, e.cells.length = 3 := fun e he => by
  obtain ⟨x, _, rfl⟩ := List.mem_map.1 he
  rfl
set_option maxHeartbeats 8000000 in
theorem pf_stepB {m : Nat} {t : List T} {us : List T} {ks : List Int} {k place : Nat} (ht : tmOk m t = true) (hm : m ≤ 5) (hl : ks.length = m) (hk : ks.all kOk = true) (hc : fcd m t ks = false) (hkk : ks[k]? = some (-1)) {N Y : List C3} (hb : place + 1 + N.length + Y.length ≤ 100)
    (CA : call lf n_impl_BestPlan_1 ([pD m t ks] ++ [.adr (.fn n_impl_averagesOf_1 [.adr (.sl 0 (us.map e2))])]) = some (.i k, []))
    (R0 : call lf n_impl_planFrom [pD m t (ks.set k 0), .i ((place + 1 : Nat) : Int), .fn n_impl_BestPlan_1 [.adr (.fn n_impl_averagesOf_1 [.adr (.sl 0 (us.map e2))])]] = some (.fr 3 (N.map e3), []))
    (R1 : call lf n_impl_planFrom [pD m t (ks.set k 1), .i ((place + 1 + N.length : Nat) : Int), .fn n_impl_BestPlan_1 [.adr (.fn n_impl_averagesOf_1 [.adr (.sl 0 (us.map e2))])]] = some (.fr 3 (Y.map e3), [])) :
    call lf n_impl_planFrom [pD m t ks, .i place, .fn n_impl_BestPlan_1 [.adr (.fn n_impl_averagesOf_1 [.adr (.sl 0 (us.map e2))])]] = some (.fr 3 ((lay3 k place N Y).map e3), []) := by
  have F := c_isForced ht hl hk
  rw [hc] at F
  have B0 := c_answered (m := m) (t := t) false (by omega) hk hkk
  have B1 := c_answered (m := m) (t := t) true (by omega) hk hkk
  rw [bI_0] at B0
  rw [bI_1] at B1
  have w1 : wr ((place : Int) + 1) = ((place + 1 : Nat) : Int) := by rw [wr_id (by omega) (by omega)]; omega
  have w2 : wr (((place + 1 : Nat) : Int) + (N.length : Int)) = ((place + 1 + N.length : Nat) : Int) := by rw [wr_id (by omega) (by omega)]; omega
  have cN := cells_e3 N
  have cY := cells_e3 Y
  have lN : (N.map e3).length = N.length := by simp
  have lY : (Y.map e3).length = Y.length := by simp
  have eN := lend_e3 N
  have eY := lend_e3 Y
  have aN' := fun x => adopt_e3 x N
  have aY' := fun x => adopt_e3 x Y
  have nN := new_e3 N
  have nY := new_e3 Y
  have CC := fun (a b : Int) => c_Concat (A := [.st [.i k, .i a, .i b]]) (B := N.map e3) (C := Y.map e3) (by simp) (by simp; omega) (fun e he => by
    have : e = .st [.i k, .i a, .i b] := by simpa using he
    rw [this]; rfl) cN cY
  have fin : (lay3 k place N Y).map e3 = [.st [.i k, .i (if N = [] then -1 else ((place + 1 : Nat) : Int)), .i (if Y = [] then -1 else ((place + 1 + N.length : Nat) : Int))]] ++ N.map e3 ++ Y.map e3 := by
    unfold lay3
    simp [e3]
  rw [fin]
  have tN : List.take N.length (N.map e3) = N.map e3 := List.take_of_length_le (by simp)
  have tY : List.take Y.length (Y.map e3) = Y.map e3 := List.take_of_length_le (by simp)
  rw [call_k lf n_impl_planFrom _ (F := F_impl_planFrom) rfl rfl]
  unfold pD pv at *
  simp only [List.cons_append, List.nil_append] at CA
  have gN : 0 < N.length ↔ N ≠ [] := List.length_pos_iff
  have gY : 0 < Y.length ↔ Y ≠ [] := List.length_pos_iff
  by_cases hN : N = []
  · have pN : ¬ 0 < N.length := fun h => gN.1 h hN
    rw [if_pos hN]
    by_cases hY : Y = []
    · have pY : ¬ 0 < Y.length := fun h => gY.1 h hY
      rw [if_pos hY]
      clear hN hY gN gY fin
      generalize N.map e3 = M at *
      generalize Y.map e3 = Q at *
      generalize N.length = n at *
      generalize Y.length = y at *
      simp [F_impl_planFrom, F, CA, B0, B1, R0, R1, w1, w2, pN, pY, CC, lN, lY, eN, eY, aN', aY', nN, nY, tN, tY, if_pos cN, if_pos cY, -Int.natCast_add]
    · have pY : 0 < Y.length := gY.2 hY
      rw [if_neg hY]
      clear hN hY gN gY fin
      generalize N.map e3 = M at *
      generalize Y.map e3 = Q at *
      generalize N.length = n at *
      generalize Y.length = y at *
      simp [F_impl_planFrom, F, CA, B0, B1, R0, R1, w1, w2, pN, pY, CC, lN, lY, eN, eY, aN', aY', nN, nY, tN, tY, if_pos cN, if_pos cY, -Int.natCast_add]
  · have pN : 0 < N.length := gN.2 hN
    rw [if_neg hN]
    by_cases hY : Y = []
    · have pY : ¬ 0 < Y.length := fun h => gY.1 h hY
      rw [if_pos hY]
      clear hN hY gN gY fin
      generalize N.map e3 = M at *
      generalize Y.map e3 = Q at *
      generalize N.length = n at *
      generalize Y.length = y at *
      simp [F_impl_planFrom, F, CA, B0, B1, R0, R1, w1, w2, pN, pY, CC, lN, lY, eN, eY, aN', aY', nN, nY, tN, tY, if_pos cN, if_pos cY, -Int.natCast_add]
    · have pY : 0 < Y.length := gY.2 hY
      rw [if_neg hY]
      clear hN hY gN gY fin
      generalize N.map e3 = M at *
      generalize Y.map e3 = Q at *
      generalize N.length = n at *
      generalize Y.length = y at *
      simp [F_impl_planFrom, F, CA, B0, B1, R0, R1, w1, w2, pN, pY, CC, lN, lY, eN, eY, aN', aY', nN, nY, tN, tY, if_pos cN, if_pos cY, -Int.natCast_add]
theorem pf_stopB {m : Nat} {t : List T} {us : List T} {ks : List Int} {place : Nat} (ht : tmOk m t = true) (hl : ks.length = m) (hk : ks.all kOk = true) (hc : fcd m t ks = true) :
    call lf n_impl_planFrom [pD m t ks, .i place, .fn n_impl_BestPlan_1 [.adr (.fn n_impl_averagesOf_1 [.adr (.sl 0 (us.map e2))])]] = some (.fr 3 [], []) := by
  have F := c_isForced ht hl hk
  rw [hc] at F
  rw [call_k lf n_impl_planFrom _ (F := F_impl_planFrom) rfl rfl]
  unfold pD pv at *
  simp [F_impl_planFrom, F]
set_option maxHeartbeats 8000000 in
theorem pf_stepO {m : Nat} {t : List T} {os : List Int} {ks : List Int} {k place : Nat} (ht : tmOk m t = true) (hm : m ≤ 5) (hl : ks.length = m) (hk : ks.all kOk = true) (hc : fcd m t ks = false) (hkk : ks[k]? = some (-1)) {N Y : List C3} (hb : place + 1 + N.length + Y.length ≤ 100)
    (CA : call lf n_impl_OrderPlan_1 ([pD m t ks] ++ [.adr (.sl 0 (os.map .i))]) = some (.i k, []))
    (R0 : call lf n_impl_planFrom [pD m t (ks.set k 0), .i ((place + 1 : Nat) : Int), .fn n_impl_OrderPlan_1 [.adr (.sl 0 (os.map .i))]] = some (.fr 3 (N.map e3), []))
    (R1 : call lf n_impl_planFrom [pD m t (ks.set k 1), .i ((place + 1 + N.length : Nat) : Int), .fn n_impl_OrderPlan_1 [.adr (.sl 0 (os.map .i))]] = some (.fr 3 (Y.map e3), [])) :
    call lf n_impl_planFrom [pD m t ks, .i place, .fn n_impl_OrderPlan_1 [.adr (.sl 0 (os.map .i))]] = some (.fr 3 ((lay3 k place N Y).map e3), []) := by
  have F := c_isForced ht hl hk
  rw [hc] at F
  have B0 := c_answered (m := m) (t := t) false (by omega) hk hkk
  have B1 := c_answered (m := m) (t := t) true (by omega) hk hkk
  rw [bI_0] at B0
  rw [bI_1] at B1
  have w1 : wr ((place : Int) + 1) = ((place + 1 : Nat) : Int) := by rw [wr_id (by omega) (by omega)]; omega
  have w2 : wr (((place + 1 : Nat) : Int) + (N.length : Int)) = ((place + 1 + N.length : Nat) : Int) := by rw [wr_id (by omega) (by omega)]; omega
  have cN := cells_e3 N
  have cY := cells_e3 Y
  have lN : (N.map e3).length = N.length := by simp
  have lY : (Y.map e3).length = Y.length := by simp
  have eN := lend_e3 N
  have eY := lend_e3 Y
  have aN' := fun x => adopt_e3 x N
  have aY' := fun x => adopt_e3 x Y
  have nN := new_e3 N
  have nY := new_e3 Y
  have CC := fun (a b : Int) => c_Concat (A := [.st [.i k, .i a, .i b]]) (B := N.map e3) (C := Y.map e3) (by simp) (by simp; omega) (fun e he => by
    have : e = .st [.i k, .i a, .i b] := by simpa using he
    rw [this]; rfl) cN cY
  have fin : (lay3 k place N Y).map e3 = [.st [.i k, .i (if N = [] then -1 else ((place + 1 : Nat) : Int)), .i (if Y = [] then -1 else ((place + 1 + N.length : Nat) : Int))]] ++ N.map e3 ++ Y.map e3 := by
    unfold lay3
    simp [e3]
  rw [fin]
  have tN : List.take N.length (N.map e3) = N.map e3 := List.take_of_length_le (by simp)
  have tY : List.take Y.length (Y.map e3) = Y.map e3 := List.take_of_length_le (by simp)
  rw [call_k lf n_impl_planFrom _ (F := F_impl_planFrom) rfl rfl]
  unfold pD pv at *
  simp only [List.cons_append, List.nil_append] at CA
  have gN : 0 < N.length ↔ N ≠ [] := List.length_pos_iff
  have gY : 0 < Y.length ↔ Y ≠ [] := List.length_pos_iff
  by_cases hN : N = []
  · have pN : ¬ 0 < N.length := fun h => gN.1 h hN
    rw [if_pos hN]
    by_cases hY : Y = []
    · have pY : ¬ 0 < Y.length := fun h => gY.1 h hY
      rw [if_pos hY]
      clear hN hY gN gY fin
      generalize N.map e3 = M at *
      generalize Y.map e3 = Q at *
      generalize N.length = n at *
      generalize Y.length = y at *
      simp [F_impl_planFrom, F, CA, B0, B1, R0, R1, w1, w2, pN, pY, CC, lN, lY, eN, eY, aN', aY', nN, nY, tN, tY, if_pos cN, if_pos cY, -Int.natCast_add]
    · have pY : 0 < Y.length := gY.2 hY
      rw [if_neg hY]
      clear hN hY gN gY fin
      generalize N.map e3 = M at *
      generalize Y.map e3 = Q at *
      generalize N.length = n at *
      generalize Y.length = y at *
      simp [F_impl_planFrom, F, CA, B0, B1, R0, R1, w1, w2, pN, pY, CC, lN, lY, eN, eY, aN', aY', nN, nY, tN, tY, if_pos cN, if_pos cY, -Int.natCast_add]
  · have pN : 0 < N.length := gN.2 hN
    rw [if_neg hN]
    by_cases hY : Y = []
    · have pY : ¬ 0 < Y.length := fun h => gY.1 h hY
      rw [if_pos hY]
      clear hN hY gN gY fin
      generalize N.map e3 = M at *
      generalize Y.map e3 = Q at *
      generalize N.length = n at *
      generalize Y.length = y at *
      simp [F_impl_planFrom, F, CA, B0, B1, R0, R1, w1, w2, pN, pY, CC, lN, lY, eN, eY, aN', aY', nN, nY, tN, tY, if_pos cN, if_pos cY, -Int.natCast_add]
    · have pY : 0 < Y.length := gY.2 hY
      rw [if_neg hY]
      clear hN hY gN gY fin
      generalize N.map e3 = M at *
      generalize Y.map e3 = Q at *
      generalize N.length = n at *
      generalize Y.length = y at *
      simp [F_impl_planFrom, F, CA, B0, B1, R0, R1, w1, w2, pN, pY, CC, lN, lY, eN, eY, aN', aY', nN, nY, tN, tY, if_pos cN, if_pos cY, -Int.natCast_add]
theorem pf_stopO {m : Nat} {t : List T} {os : List Int} {ks : List Int} {place : Nat} (ht : tmOk m t = true) (hl : ks.length = m) (hk : ks.all kOk = true) (hc : fcd m t ks = true) :
    call lf n_impl_planFrom [pD m t ks, .i place, .fn n_impl_OrderPlan_1 [.adr (.sl 0 (os.map .i))]] = some (.fr 3 [], []) := by
  have F := c_isForced ht hl hk
  rw [hc] at F
  rw [call_k lf n_impl_planFrom _ (F := F_impl_planFrom) rfl rfl]
  unfold pD pv at *
  simp [F_impl_planFrom, F]
end
section
attribute [-simp] DV.cells
attribute [local simp] sliceD cells_st cells_sl cells_i cells_y cells_b cells_s cells_w
attribute [local simp] lend_e3 adopt_e3 new_e3 al_e3 lt_e3
theorem lsF_root {us t : List T} (h : us.all tOk = true) : (lsF us.length t (avQ us) us.length (non us.length)).2 = bA us t := by
  obtain ⟨_, a2, _⟩ := lsF_bPl h (t := t) us.length (non us.length) (non_len _) (non_all _) (by rw [uk_non]; exact Nat.le_refl _)
  rw [kp_non, Int.one_mul] at a2
  exact a2
set_option maxHeartbeats 4000000 in
theorem c_impl_BestAverage (us t : List T) (ha : (us.length : Int) < 1099511627776) (hb : (t.length : Int) < 1099511627776) : call lf n_impl_BestAverage [.sl 0 (us.map e2), .sl 0 (t.map e2)] = some (.i (baOf us t), []) := by
  have C1 := c_impl_TestsOk us ha
  have C2 := c_impl_TermOk us.length t hb
  have ul : (us.map e2).length = us.length := by simp
  rw [call_k lf n_impl_BestAverage _ (F := F_impl_BestAverage) rfl rfl]
  unfold baOf
  cases h1 : tsOk us with
  | false => rw [h1] at C1; simp [F_impl_BestAverage, C1]
  | true =>
    rw [h1] at C1
    have h' := tsOk_iff.1 h1
    cases h2 : tmOk us.length t with
    | false => rw [h2] at C2; simp [F_impl_BestAverage, C1, C2]
    | true =>
      rw [h2] at C2
      have C3 := c_startOf (t := t) (by omega) h2
      have C4 := c_averagesOf us
      have C5 := c_leastFromA h'.2 (by omega) h2 us.length (non us.length) (by omega) (non_len _) (non_all _) (by rw [uk_non]; exact Nat.le_refl _)
      rw [lsF_root h'.2] at C5
      generalize (lsF us.length t (avQ us) us.length (non us.length)).1 = x at *
      unfold pD pv at *
      simp [F_impl_BestAverage, C1, C2, C3, C4, C5]
theorem c_impl_LeastDepth (m : Int) (t : List T) (hb : (t.length : Int) < 1099511627776) : call lf n_impl_LeastDepth [.i m, .sl 0 (t.map e2)] = some (.i (ldOf m t), []) := by
  have C1 := c_impl_TermOk m t hb
  rw [call_k lf n_impl_LeastDepth _ (F := F_impl_LeastDepth) rfl rfl]
  unfold ldOf
  cases h1 : tmOk m t with
  | false => rw [h1] at C1; simp [F_impl_LeastDepth, C1]
  | true =>
    rw [h1] at C1
    obtain ⟨⟨m1, m5⟩, _, _⟩ := tmOk_iff.1 h1
    obtain ⟨n, rfl⟩ := Int.eq_ofNat_of_zero_le (a := m) (by omega)
    rw [Int.toNat_natCast]
    have C3 := c_startOf (t := t) (by omega) h1
    have C5 := c_leastFromD (m := n) (by omega) h1 n (non n) (by omega) (non_len _) (non_all _) (by rw [uk_non]; exact Nat.le_refl _)
    rw [lsF_ldP n (non n) (non_len _) (non_all _) (by rw [uk_non]; exact Nat.le_refl _)] at C5
    have e : ldP n t n (non n) = lD n t := rfl
    rw [e] at C5
    generalize (lsF n t dpP n (non n)).1 = x at *
    unfold pD pv at *
    simp [F_impl_LeastDepth, C1, C3, C5]
set_option maxHeartbeats 4000000 in
theorem c_BestPlan_1 {us t : List T} (hu : us.all tOk = true) (hm : 1 ≤ us.length ∧ us.length ≤ 5) (ht : tmOk us.length t = true) {f : Nat} {ks : List Int} (hf5 : f ≤ 5) (hl : ks.length = us.length) (hk : ks.all kOk = true) (hf : uk ks ≤ f) :
    call lf n_impl_BestPlan_1 [pD us.length t ks, .adr (.fn n_impl_averagesOf_1 [.adr (.sl 0 (us.map e2))])] = some (.i (bPl us t f ks).2, []) := by
  have C := c_leastFromA hu hm ht f ks hf5 hl hk hf
  rw [(lsF_bPl hu f ks hl hk hf).2.2] at C
  rw [call_k lf n_impl_BestPlan_1 _ (F := F_impl_BestPlan_1) rfl rfl]
  generalize (lsF us.length t (avQ us) f ks).2 = x at *
  unfold pD pv at *
  simp [F_impl_BestPlan_1, C]
theorem bT_pf {us t : List T} (hu : us.all tOk = true) (hm : 1 ≤ us.length ∧ us.length ≤ 5) (ht : tmOk us.length t = true) : ∀ (f : Nat) (ks : List Int) (place : Nat), f ≤ 5 → ks.length = us.length → ks.all kOk = true → uk ks ≤ f → place + (bT us t f ks).size ≤ 40 →
    call lf n_impl_planFrom [pD us.length t ks, .i place, .fn n_impl_BestPlan_1 [.adr (.fn n_impl_averagesOf_1 [.adr (.sl 0 (us.map e2))])]] = some (.fr 3 ((ser (bT us t f ks) place).map e3), [])
  | f, ks, place, hf5, hl, hk, hf, hp => by
    have B := bPl_ok (t := t) hu f ks hl hk hf
    cases hc : fcd us.length t ks with
    | true =>
      have e : bT us t f ks = .stop := by
        cases f with
        | zero => rfl
        | succ f => simp only [bT]; rw [B.stop hc, if_pos rfl]
      rw [e]
      exact pf_stopB ht hl hk hc
    | false =>
      cases f with
      | zero =>
        rw [fcd_all hl hk (by omega)] at hc
        cases hc
      | succ f =>
        obtain ⟨k, k1, k2, _, _⟩ := B.go hc
        have hn : (bPl us t (f + 1) ks).2 ≠ -1 := by omega
        have e : bT us t (f + 1) ks = .ask k (bT us t f (ks.set k 0)) (bT us t f (ks.set k 1)) := by
          simp only [bT]
          rw [if_neg hn, k2, Int.toNat_natCast]
        have CA := c_BestPlan_1 hu hm ht hf5 hl hk hf
        rw [k2] at CA
        rw [e] at hp ⊢
        simp only [PT.size] at hp
        have us' := fun (b : Bool) => uk_set (b := bI b) (by cases b <;> simp [bI]) k1
        have u0 := us' false
        have u1 := us' true
        rw [bI_0] at u0
        rw [bI_1] at u1
        have G0 := bT_pf hu hm ht f (ks.set k 0) (place + 1) (by omega) (by simpa using hl) (kOk_set hk k false) (by omega) (by omega)
        have G1 := bT_pf hu hm ht f (ks.set k 1) (place + 1 + (bT us t f (ks.set k 0)).size) (by omega) (by simpa using hl) (kOk_set hk k true) (by omega) (by omega)
        have l0 := ser_len (bT us t f (ks.set k 0)) (place + 1)
        have l1 := ser_len (bT us t f (ks.set k 1)) (place + 1 + (bT us t f (ks.set k 0)).size)
        rw [← lay_ser]
        exact pf_stepB ht hm.2 hl hk hc k1 (by omega) CA G0 (by rw [l0]; exact G1)
set_option maxHeartbeats 4000000 in
theorem c_impl_BestPlan (us t : List T) (ha : (us.length : Int) < 1099511627776) (hb : (t.length : Int) < 1099511627776) : call lf n_impl_BestPlan [.sl 0 (us.map e2), .sl 0 (t.map e2)] = some (.tup [.fr 3 ((bpL us t).map e3), .b (bpOk us t)], []) := by
  have C1 := c_impl_TestsOk us ha
  have C2 := c_impl_TermOk us.length t hb
  have ul : (us.map e2).length = us.length := by simp
  rw [call_k lf n_impl_BestPlan _ (F := F_impl_BestPlan) rfl rfl]
  unfold bpL bpOk
  cases h1 : tsOk us with
  | false => rw [h1] at C1; simp [F_impl_BestPlan, C1]
  | true =>
    rw [h1] at C1
    have h' := tsOk_iff.1 h1
    cases h2 : tmOk us.length t with
    | false => rw [h2] at C2; simp [F_impl_BestPlan, C1, C2]
    | true =>
      rw [h2] at C2
      have hm : 1 ≤ us.length ∧ us.length ≤ 5 := by omega
      have C3 := c_startOf (t := t) hm.2 h2
      have C4 := c_averagesOf us
      have z := okT_size hm.2 (bX_ok (t := t) h'.2).1
      have C5 := bT_pf h'.2 hm h2 us.length (non us.length) 0 hm.2 (non_len _) (non_all _) (by rw [uk_non]; exact Nat.le_refl _) (by have : bT us t us.length (non us.length) = bX us t := rfl; rw [this]; omega)
      have e : bT us t us.length (non us.length) = bX us t := rfl
      rw [e] at C5
      have n3 := adopt_e3
      have nw := new_e3 (ser (bX us t) 0)
      have ad := fun x => adopt_e3 x (ser (bX us t) 0)
      simp only [Int.natCast_zero] at C5
      rw [Bool.and_self, if_pos rfl]
      generalize ser (bX us t) 0 = Q at *
      have lQ : (Q.map e3).length = Q.length := by simp
      have tk := tk_e3 Q
      generalize Q.map e3 = M at *
      unfold pD pv at *
      have cf : ∀ (f : Nat) (cs : List DV), (DV.fn f cs).cells = [.fn f cs] := fun _ _ => rfl
      have cd : DV.dead.cells = [.dead] := rfl
      simp [F_impl_BestPlan, C1, C2, C3, C4, C5, nw, ad, tk, lQ, cf, cd]
theorem c_OrderPlan_1 {m : Nat} {t : List T} {os : List Int} {ks : List Int} {a : Int} (hl : ks.length ≤ 5) (ho : os[kn ks]? = some a) :
    call lf n_impl_OrderPlan_1 [pD m t ks, .adr (.sl 0 (os.map .i))] = some (.i a, []) := by
  have H := c_howMany (m := m) (t := t) (ks := ks) hl
  have A : atI (os.map DV.i) (kn ks : Int) = some (.i a) := by
    simp only [atI, if_pos (Int.natCast_nonneg (kn ks))]
    show (os.map DV.i)[((kn ks : Nat) : Int).toNat]? = _
    rw [Int.toNat_natCast, List.getElem?_map, ho]; rfl
  rw [call_k lf n_impl_OrderPlan_1 _ (F := F_impl_OrderPlan_1) rfl rfl]
  unfold pD pv at *
  generalize os.map DV.i = M at *
  generalize kn ks = n at *
  simp [F_impl_OrderPlan_1, H, A]
theorem lnT_pf {m : Nat} {t : List T} {os : List Int} (hm : 1 ≤ m ∧ m ≤ 5) (ht : tmOk m t = true) : ∀ (r : List Int) (ks : List Int) (so place : Nat), os.drop (kn ks) = r → ks.length = m → ks.all kOk = true → hkn m ks so → orS m so r = true → uk ks = r.length → place + (lnT m t r ks).size ≤ 40 →
    call lf n_impl_planFrom [pD m t ks, .i place, .fn n_impl_OrderPlan_1 [.adr (.sl 0 (os.map .i))]] = some (.fr 3 ((ser (lnT m t r ks) place).map e3), [])
  | [], ks, so, place, hd, hl, hk, hh, ho, hu, hp => by
    have hc := fcd_all (t := t) hl hk (by simpa using hu)
    exact pf_stopO ht hl hk hc
  | a :: r, ks, so, place, hd, hl, hk, hh, ho, hu, hp => by
    cases hc : fcd m t ks with
    | true =>
      have e : lnT m t (a :: r) ks = .stop := by simp only [lnT]; rw [if_pos hc]
      rw [e]
      exact pf_stopO ht hl hk hc
    | false =>
      have e : lnT m t (a :: r) ks = .ask a.toNat (lnT m t r (ks.set a.toNat 0)) (lnT m t r (ks.set a.toNat 1)) := by simp only [lnT]; rw [if_neg (by rw [hc]; simp)]
      obtain ⟨⟨a0, a1⟩, a2, a3⟩ := orS_cons.1 ho
      obtain ⟨k, rfl⟩ := Int.eq_ofNat_of_zero_le a0
      rw [Int.toNat_natCast] at *
      have hkk : ks[k]? = some (-1) := (hh k (by omega)).2 a2
      have us' := fun (b : Bool) => uk_set (b := bI b) (by cases b <;> simp [bI]) hkk
      have u0 := us' false
      have u1 := us' true
      rw [bI_0] at u0
      rw [bI_1] at u1
      have n0 := kn_set (b := 0) (by decide) hkk
      have n1 := kn_set (b := 1) (by decide) hkk
      have at0 : os[kn ks]? = some (k : Int) := by
        have : (os.drop (kn ks))[0]? = some (k : Int) := by rw [hd]; rfl
        rw [List.getElem?_drop, Nat.add_zero] at this
        exact this
      have dr : os.drop (kn ks + 1) = r := by
        rw [← List.drop_drop, hd]
        rfl
      have CA := c_OrderPlan_1 (m := m) (t := t) (by omega) at0
      rw [e] at hp ⊢
      simp only [PT.size] at hp
      have h0 : hkn m (ks.set k 0) (so ||| 2 ^ k) := hkn_set hl (by omega) hh false
      have h1 : hkn m (ks.set k 1) (so ||| 2 ^ k) := hkn_set hl (by omega) hh true
      simp only [List.length_cons] at hu
      have G0 := lnT_pf hm ht r (ks.set k 0) (so ||| 2 ^ k) (place + 1) (by rw [n0]; exact dr) (by simpa using hl) (kOk_set hk k false) h0 a3 (by omega) (by omega)
      have G1 := lnT_pf hm ht r (ks.set k 1) (so ||| 2 ^ k) (place + 1 + (lnT m t r (ks.set k 0)).size) (by rw [n1]; exact dr) (by simpa using hl) (kOk_set hk k true) h1 a3 (by omega) (by omega)
      have l0 := ser_len (lnT m t r (ks.set k 0)) (place + 1)
      have l1 := ser_len (lnT m t r (ks.set k 1)) (place + 1 + (lnT m t r (ks.set k 0)).size)
      rw [← lay_ser]
      exact pf_stepO ht hm.2 hl hk hc hkk (by omega) CA G0 (by rw [l0]; exact G1)
set_option maxHeartbeats 4000000 in
theorem c_impl_OrderPlan (m : Int) (t : List T) (os : List Int) (ha : (os.length : Int) < 1099511627776) (hb : (t.length : Int) < 1099511627776) : call lf n_impl_OrderPlan [.i m, .sl 0 (t.map e2), .sl 0 (os.map .i)] = some (.tup [.fr 3 ((opL m t os).map e3), .b (opOk m t os)], []) := by
  have C1 := c_impl_TermOk m t hb
  have C2 := c_impl_OrderOk m os ha
  rw [call_k lf n_impl_OrderPlan _ (F := F_impl_OrderPlan) rfl rfl]
  cases h1 : tmOk m t with
  | false =>
    rw [h1] at C1
    have e : opOk m t os = false := by unfold opOk; rw [h1]; rfl
    unfold opL
    rw [e]
    simp [F_impl_OrderPlan, C1]
  | true =>
    rw [h1] at C1
    cases h2 : orOk m os with
    | false =>
      rw [h2] at C2
      have e : opOk m t os = false := by unfold opOk; rw [h1, h2]; rfl
      unfold opL
      rw [e]
      simp [F_impl_OrderPlan, C1, C2]
    | true =>
      rw [h2] at C2
      have e : opOk m t os = true := by unfold opOk; rw [h1, h2]; rfl
      have ok := opX_ok e
      obtain ⟨g1, g2, g3⟩ := orOk_iff.1 h2
      obtain ⟨n, rfl⟩ := Int.eq_ofNat_of_zero_le (a := m) (by omega)
      rw [Int.toNat_natCast] at ok
      have C3 := c_startOf (t := t) (m := n) (by omega) h1
      have sz := okT_size (m := n) (by omega) ok
      have ex : lnT n t os (non n) = opX n t os := rfl
      have C5 := lnT_pf (m := n) (t := t) (os := os) (by omega) h1 os (non n) 0 0 (by rw [kn_non]; rfl) (non_len _) (non_all _) (non_kn _) g3 (by rw [uk_non]; omega) (by rw [ex]; omega)
      rw [ex] at C5
      unfold opL
      rw [e, if_pos rfl]
      have nw := new_e3 (ser (opX n t os) 0)
      have ad := fun x => adopt_e3 x (ser (opX n t os) 0)
      simp only [Int.natCast_zero] at C5
      generalize ser (opX n t os) 0 = Q at *
      have lQ : (Q.map e3).length = Q.length := by simp
      have tk := tk_e3 Q
      generalize Q.map e3 = M at *
      unfold pD pv at *
      simp [F_impl_OrderPlan, C1, C2, C3, C5, nw, ad, tk, lQ]
end
section
attribute [local simp] lend_e3 adopt_e3 new_e3 al_e3 lt_e3
set_option maxHeartbeats 4000000 in
theorem law_FnExactLeastDepth (m : Int) (_ : -9223372036854775808 ≤ m ∧ m ≤ 9223372036854775807) (x : List (Int × Int)) (hx : x.length ≤ Go.maxLen) : call lf n_laws_FnExactLeastDepth [.i m, rs2 x] = some (.b true, []) := by
  show call lf n_laws_FnExactLeastDepth [.i m, .sl 0 (x.map e2)] = _
  rw [call_k lf n_laws_FnExactLeastDepth _ (F := F_laws_FnExactLeastDepth) rfl rfl]
  have zx : (x.length : Int) ≤ 9223372036854775807 := by unfold Go.maxLen at hx; omega
  have Sx := c_szMarkS x 1048576 (by omega) (by omega) zx
  by_cases hx1 : (1048576 : Int) < x.length
  · simp [F_laws_FnExactLeastDepth, Sx, hx1]
  have nx : ¬ ((1048576 : Int) - x.length < 0) := by omega
  have Ax := c_toMarkS x (by omega)
  have Qx := c_eqMarkS_self x (by omega)
  have C1 := c_impl_LeastDepth m x (by omega)
  have C2 := c_spec_LeastDepth m x (by omega)
  simp (config := { maxSteps := 2000000 }) [F_laws_FnExactLeastDepth, C1, C2, Sx, hx1, nx, Ax, Qx]
set_option maxHeartbeats 4000000 in
theorem law_FnExactBestAverage (y : List (Int × Int)) (hy : y.length ≤ Go.maxLen) (x : List (Int × Int)) (hx : x.length ≤ Go.maxLen) : call lf n_laws_FnExactBestAverage [rs2 y, rs2 x] = some (.b true, []) := by
  show call lf n_laws_FnExactBestAverage [.sl 0 (y.map e2), .sl 0 (x.map e2)] = _
  rw [call_k lf n_laws_FnExactBestAverage _ (F := F_laws_FnExactBestAverage) rfl rfl]
  have zy : (y.length : Int) ≤ 9223372036854775807 := by unfold Go.maxLen at hy; omega
  have Sy := c_szTestS y 1048576 (by omega) (by omega) zy
  by_cases hy1 : (1048576 : Int) < y.length
  · simp [F_laws_FnExactBestAverage, Sy, hy1]
  have ny : ¬ ((1048576 : Int) - y.length < 0) := by omega
  have zx : (x.length : Int) ≤ 9223372036854775807 := by unfold Go.maxLen at hx; omega
  have Sx := c_szMarkS x (1048576 - y.length) (by omega) (by omega) zx
  by_cases hx1 : (1048576 : Int) - y.length < x.length
  · simp [F_laws_FnExactBestAverage, Sy, hy1, ny, Sx, hx1]
  have nx : ¬ ((1048576 : Int) - y.length - x.length < 0) := by omega
  have Ay := c_toTestS y (by omega)
  have Qy := c_eqTestS_self y (by omega)
  have Ax := c_toMarkS x (by omega)
  have Qx := c_eqMarkS_self x (by omega)
  have C1 := c_impl_BestAverage y x (by omega) (by omega)
  have C2 := c_spec_BestAverage y x (by omega) (by omega)
  simp (config := { maxSteps := 2000000 }) [F_laws_FnExactBestAverage, C1, C2, Sy, hy1, ny, Sx, hx1, nx, Ay, Qy, Ax, Qx]
end
section
attribute [local simp] lend_e3 adopt_e3 new_e3 al_e3 lt_e3
theorem bpL_le31 (us t : List T) : (bpL us t).length ≤ 31 := by
  unfold bpL
  split
  · rename_i h
    unfold bpOk at h
    rw [Bool.and_eq_true] at h
    have h' := tsOk_iff.1 h.1
    rw [ser_len]
    exact okT_size (m := us.length) (by omega) (bX_ok (t := t) h'.2).1
  · simp
theorem opL_le31 (m : Int) (t : List T) (os : List Int) : (opL m t os).length ≤ 31 := by
  unfold opL
  split
  · rename_i h
    have ok := opX_ok h
    unfold opOk at h
    rw [Bool.and_eq_true] at h
    obtain ⟨h1, _, _⟩ := tmOk_iff.1 h.1
    rw [ser_len]
    exact okT_size (m := m.toNat) (by omega) ok
  · simp
set_option maxHeartbeats 8000000 in
theorem law_FnExactBestPlan (y : List (Int × Int)) (hy : y.length ≤ Go.maxLen) (x : List (Int × Int)) (hx : x.length ≤ Go.maxLen) : call lf n_laws_FnExactBestPlan [rs2 y, rs2 x] = some (.b true, []) := by
  show call lf n_laws_FnExactBestPlan [.sl 0 (y.map e2), .sl 0 (x.map e2)] = _
  rw [call_k lf n_laws_FnExactBestPlan _ (F := F_laws_FnExactBestPlan) rfl rfl]
  have hz : (x.length : Int) ≤ 9223372036854775807 := by unfold Go.maxLen at hx; omega
  have hw : (y.length : Int) ≤ 9223372036854775807 := by unfold Go.maxLen at hy; omega
  have S := c_szTestS y 1048576 (by omega) (by omega) hw
  by_cases h : (1048576 : Int) < y.length
  · simp [F_laws_FnExactBestPlan, S, h]
  · have n1 : ¬ ((1048576 : Int) - y.length < 0) := by omega
    have S2 := c_szMarkS x (1048576 - y.length) (by omega) (by omega) hz
    by_cases h2 : (1048576 : Int) - y.length < x.length
    · simp [F_laws_FnExactBestPlan, S, h, n1, S2, h2]
    · have n2 : ¬ ((1048576 : Int) - y.length - x.length < 0) := by omega
      have A := c_toMarkS x (by omega)
      have Q := c_eqMarkS_self x (by omega)
      have A1 := c_toTestS y (by omega)
      have Q1 := c_eqTestS_self y (by omega)
      have C1 := c_impl_BestPlan y x (by omega) (by omega)
      have C2 := c_spec_BestPlan y x (by omega) (by omega)
      have M0 := c_markTestS y 1 (by omega) (by omega) (by omega)
      have M1 := c_markMarkS x (1 + 2 * y.length) (by omega) (by omega) (by omega)
      have lb0 : y.length ≤ bound := by unfold bound; omega
      have lb1 : x.length ≤ bound := by unfold bound; omega
      obtain ⟨v0, hv0, lv0⟩ := mk2_map 1 y.length
      obtain ⟨v, hv, lv⟩ := mk2_map (1 + 2 * y.length) x.length
      rw [hv0] at M0
      rw [hv] at M1
      have l0 : List.take y.length (v0.map e2) = v0.map e2 := tk_n (by simp [lv0])
      have l2 : List.take x.length (v.map e2) = v.map e2 := tk_n (by simp [lv])
      have n3 : ¬ ((1 : Int) + 2 * y.length + 2 * x.length < 0) := by omega
      have ll : (bpL y x).length ≤ 31 := bpL_le31 y x
      generalize bpL y x = w at *
      generalize bpOk y x = b at *
      have Q2 := c_eqChoiceS_self w (by omega)
      have M2 := c_markChoiceS w 1 (by omega) (by omega) (by omega)
      have H := c_heldChoiceS w.length 1 (by omega) (by omega) (by omega)
      have lb2 : w.length ≤ bound := by unfold bound; omega
      obtain ⟨u, hu, lu⟩ := mk3_map 1 w.length
      rw [hu] at M2 H
      have l1 : List.take w.length (u.map e3) = u.map e3 := tk_n (by simp [lu])
      have l3 : List.take w.length (w.map e3) = w.map e3 := tk_n (by simp)
      have n4 : ¬ ((1 : Int) + 3 * w.length < 0) := by omega
      simp (config := { maxSteps := 2000000 }) [F_laws_FnExactBestPlan, h, h2, S, S2, n1, n2, n3, n4, A, Q, A1, Q1, Q2, C1, C2, M0, M1, M2, H, l0, l1, l2, l3, lu, lv, lv0, lb0, lb1, lb2]
set_option maxHeartbeats 8000000 in
theorem law_FnExactOrderPlan (m : Int) (_ : -9223372036854775808 ≤ m ∧ m ≤ 9223372036854775807) (x : List (Int × Int)) (hx : x.length ≤ Go.maxLen) (o : List Int) (ho : o.length ≤ Go.maxLen) : call lf n_laws_FnExactOrderPlan [.i m, rs2 x, ins o] = some (.b true, []) := by
  show call lf n_laws_FnExactOrderPlan [.i m, .sl 0 (x.map e2), .sl 0 (o.map .i)] = _
  rw [call_k lf n_laws_FnExactOrderPlan _ (F := F_laws_FnExactOrderPlan) rfl rfl]
  by_cases h0 : (1048576 : Int) < o.length
  · simp [F_laws_FnExactOrderPlan, h0]
  have hz : (x.length : Int) ≤ 9223372036854775807 := by unfold Go.maxLen at hx; omega
  have S2 := c_szMarkS x 1048576 (by omega) (by omega) hz
  by_cases h2 : (1048576 : Int) < x.length
  · simp [F_laws_FnExactOrderPlan, h0, S2, h2]
  have n2 : ¬ ((1048576 : Int) - x.length < 0) := by omega
  have A := c_toMarkS x (by omega)
  have Q := c_eqMarkS_self x (by omega)
  have A1 := c_toIntS o (by omega)
  have Q1 := c_eqIntS_self o (by omega)
  have C1 := c_impl_OrderPlan m x o (by omega) (by omega)
  have C2 := c_spec_OrderPlan m x o (by omega) (by omega)
  have M0 := c_markMarkS x 1 (by omega) (by omega) (by omega)
  have M1 := c_markIntS o (1 + 2 * x.length) (by omega) (by omega) (by omega)
  have lb0 : o.length ≤ bound := by unfold bound; omega
  have lb1 : x.length ≤ bound := by unfold bound; omega
  obtain ⟨v0, hv0, lv0⟩ := mk1_map (1 + 2 * x.length) o.length
  obtain ⟨v, hv, lv⟩ := mk2_map 1 x.length
  rw [hv0] at M1
  rw [hv] at M0
  have l0 : List.take o.length (v0.map DV.i) = v0.map .i := tk_n (by simp [lv0])
  have l2 : List.take x.length (v.map e2) = v.map e2 := tk_n (by simp [lv])
  have n3 : ¬ ((1 : Int) + 2 * x.length + o.length < 0) := by omega
  have ll : (opL m x o).length ≤ 31 := opL_le31 m x o
  generalize opL m x o = w at *
  generalize opOk m x o = b at *
  have Q2 := c_eqChoiceS_self w (by omega)
  have M2 := c_markChoiceS w 1 (by omega) (by omega) (by omega)
  have H := c_heldChoiceS w.length 1 (by omega) (by omega) (by omega)
  have lb2 : w.length ≤ bound := by unfold bound; omega
  obtain ⟨u, hu, lu⟩ := mk3_map 1 w.length
  rw [hu] at M2 H
  have l1 : List.take w.length (u.map e3) = u.map e3 := tk_n (by simp [lu])
  have l3 : List.take w.length (w.map e3) = w.map e3 := tk_n (by simp)
  have n4 : ¬ ((1 : Int) + 3 * w.length < 0) := by omega
  simp (config := { maxSteps := 2000000 }) [F_laws_FnExactOrderPlan, h0, h2, S2, n2, n3, n4, A, Q, A1, Q1, Q2, C1, C2, M0, M1, M2, H, l0, l1, l2, l3, lu, lv, lv0, lb0, lb1, lb2]
end
end Zz
