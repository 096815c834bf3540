/- What the functions answer, as equations: L4e. No conditions. -/
import Derived.Test.YtaolcmhkmkgmpaaDoorL4f
import Derived.Test.YtaolcmhkmkgmpaaDoorL4a
set_option linter.unusedSectionVars false
set_option linter.unusedVariables false
set_option linter.unusedSimpArgs false
namespace Zz
open Go.Lg Md
set_option linter.unusedSimpArgs false
set_option linter.unusedVariables false
attribute [local simp] ia_mv ia_newnil ia_pick ia_bin ia_eqb ia_eqs ia_un ia_len ia_lens ia_chk ia_fld ia_fldv ia_idxa ia_idx ia_load ia_store ia_slice ia_slices ia_make ia_alloc ia_box ia_build ia_bslice ia_app ia_b2i ia_i2b ia_i2i ia_same ia_b2s ia_s2b ia_ext ia_mm ia_idxp ia_calld ia_mkfn ia_i2r ia_r2s ia_call pt_nil pt_cons gt_nil gt_t gt_c di_some di_none an_nil an_cons nxG_some nxG_none rg_nil rg_gen rg_gate oldO_some oa_nil oa_i oa_y oa_b oa_s oa_st oa_sl oa_own oa_oad oa_nl al_nil al_cons al_i al_y al_b al_s al_st al_sl nxF_some nxF_none rf_nil rf_gen rf_gate hk_newnil hk_make hk_alloc hk_box hk_build hk_bslice hk_call hk_store hk_app cl_nil cl_cons ai_nil ai_cons il_i il_y il_b il_s il_st il_sl il_own il_adr il_oad il_ref il_fr il_tup il_nil il_np il_und il_dead ol_adr ol_b ol_dead ol_e ol_fn ol_fr ol_i ol_nil ol_np ol_oad ol_own ol_q ol_r ol_ref ol_s ol_sl ol_st ol_tup ol_und ol_w ol_y oj_e oj_i oj_y oj_b oj_s oj_st oj_sl oj_own oj_adr oj_oad oj_ref oj_fr oj_tup oj_nil oj_np oj_und oj_dead oj_w oj_q oj_r oj_fn oi_e oi_i oi_y oi_b oi_s oi_st oi_sl oi_own oi_adr oi_oad oi_ref oi_fr oi_tup oi_nil oi_np oi_und oi_dead as_nil as_cons ao_nil ao_cons av_i av_y av_b av_s av_st av_sl av_own av_adr av_oad av_ref av_fr av_tup av_nil av_np av_und av_dead pro_cons ghK_some ks_promote ks_freeze frz_own ks_rename ren_own dropO adoptP newP wholeP cutP allOldL ex_skip ex_ret ex_exit ks_region ks_seq ks_cond ks_block seqK_n seqK_e seqK_r regK_some condK_t condK_f blkK_n blkK_r blkK_e endK_n endK_r rr_false rr_true rd_free mo_nil mo_cons drK_some drK_none nxW_some nxW_none rw_nil rw_gen rw_gate ak_newnil ak_make ak_alloc ak_box ak_build ak_bslice ak_call ak_store ak_app iw_mm iw_eqn iw_idxp ef_callg cgK_some gv_e gv_own gv_i gv_sl gv_st gv_b gv_nil gvK_some gvO_some iw_callg ia_callg ak_callg hk_callg is_mv is_newnil is_pick is_bin is_eqb is_eqs is_un is_len is_lens is_chk is_fld is_fldv is_idxa is_idx is_load is_slice is_slices is_make is_alloc is_box is_build is_bslice is_app is_conv is_ext is_call is_calld is_callg is_mkfn is_mm is_idxp is_eqn is_store rt_nil rt_gen rt_gate nxT_some nxT_none ef_eqn_nil ef_eqn_sl ef_eqn_own ia_eqn ef_mmx ef_mmn ef_idxp nxD_some nxD_none ov_i ov_y ov_b ov_s ov_st ov_sl ov_own ov_oad ov_adr ov_nil ov_np ov_und ov_dead ov_tup oldN_some oldN_nil oldN_none so_none so_i so_y so_b so_s so_st so_sl so_adr so_nil so_np so_und so_dead anyM_nil anyM_t anyM_c so_own so_oad rd_nil rd_gen rd_mv rd_gate iw_mv iw_newnil iw_pick iw_bin iw_eqb iw_eqs iw_un iw_len iw_lens iw_chk iw_fld iw_fldv iw_idxa iw_idx iw_load iw_store iw_slice iw_slices iw_make iw_alloc iw_box iw_build iw_bslice iw_app iw_b2i iw_i2b iw_i2i iw_same iw_b2s iw_s2b iw_ext iw_call nm_i nm_y nm_b nm_s nm_st nm_sl nm_own nm_oad nm_adr nm_nil nm_np nm_und nm_dead nm_tup rl_nil rl_gate rl_mv rl_gen opv_t opv_c nx_some nx_none gate_tt gate_tf gate_ft gate_ff gate_u fr_ap em_nil em_i em_y em_b em_s em_st em_sl em_own em_adr em_oad em_ref em_nl em_np em_und em_dead em_tup0 em_tup_i em_tup_b em_tup_s em_tup_sl em_tup_st em_tup_np em_tup_own em_tup_oad mm_i mm_y mm_b mm_s mm_st mm_sl mm_own mm_oad mm_adr mm_nil mm_np mm_und mm_dead ef_mv ef_newnil ef_pickt ef_pickf ef_bin ef_eqb ef_eqs ef_un ef_lens ef_len_sl ef_len_own ef_len_nil ef_chk_adr ef_chk_oad ef_fld_adr ef_fld_oad ef_fldv idxR_some ef_idxa_sl ef_idxa_own ef_idx ef_load_adr_st ef_load_adr_i ef_load_adr_y ef_load_adr_b ef_load_adr_s ef_load_adr_sl atN_nil atN_zero atN_succ ef_load_oad ef_store ef_slice ef_slices ef_make ef_alloc ef_box ef_build ef_bslice ef_app_own ef_app_nil ef_b2i ef_i2b ef_i2i ef_same ef_ext ret1 ret2_some calL_some ef_call retC_i retC_y retC_b retC_s retC_st retC_sl retC_np retC_fr retC_ref retC_tup rk_nil rk_i rk_y rk_b rk_s rk_st rk_sl rk_own rk_oad rk_nl ok_nil ok_i ok_y ok_b ok_s ok_st ok_sl ok_own ok_oad ok_nl lo_nil lo_i lo_y lo_b lo_s lo_st lo_sl lo_own lo_oad lo_nl pr_nil pr_i pr_y pr_b pr_s pr_st pr_sl pr_own pr_nl pr_oad nr_i nr_y nr_b nr_s nr_st nr_sl nr_fr nr_np nr_tup ng_i ng_b ng_s ng_fr ng_nil resV effP_eff binD bi_add bi_sub bi_mul bi_quo bi_rem bi_eql bi_neq bi_lss bi_leq bi_gtr bi_geq bi_shl bi_shr bi_and bi_or bi_xor bi_andNot binY binS unD look put putD LS.get LS.drop killE sweep lookO putO dropO enter leave giveBackL giveBack outs lendArgs lendArg newOuts takeIn takeInL lendL DV.lend adoptL DV.adopt elems apartKs part DV.cells unpart settle settleL over mkId szId fillP fillE tk_e2 tk_i tk_y lt_e2 lt_i lt_y lend_rep al_e2 al_is al_ys al_rep al_app lend_app adopt_app new_app lend_e2 lend_i lend_y adopt_e2 adopt_i adopt_y new_e2 new_i allNewL DV.allNew bounds sliceD sliceS em_w em_q em_r em_fn em_tup_w em_tup_q em_tup_r mm_w mm_q mm_r mm_fn ef_load_adr_w ef_load_adr_q ef_load_adr_r retC_w retC_q retC_r rk_w rk_q rk_r rk_fn ok_w ok_q ok_r ok_fn lo_w lo_q lo_r lo_fn pr_w pr_q pr_r pr_fn nr_w nr_q nr_r ng_w ng_q ng_r oa_w oa_q oa_r oa_fn al_w al_q al_r al_fn ov_w ov_q ov_r ov_fn so_w so_q so_r so_fn il_w il_q il_r il_fn oi_w oi_q oi_r oi_fn av_w av_q av_r av_fn nm_w nm_q nm_r nm_fn ef_i2r ef_r2s ef_mkfn ef_idxp_adr ef_calld capsOk DV.cell List.all_cons List.all_nil rk_own_t lo_own_t lk_f lk_t pr_own_t mutB ak_calld hk_calld iw_calld iw_mkfn iw_i2r iw_r2s bw_and bw_or bw_xor bw_andNot bw_eql bw_neq sw_shl sw_shr sq_shl gEnv_nil rk_adr ok_adr lo_adr pr_adr oa_adr capL capArg DV.cap ak_mkfn hk_mkfn
attribute [local congr] nxT_congr nxG_congr nxF_congr ghK_congr gate_congr nx_congr nxD_congr runL_congr runD_congr eff_congr calL_congr ret2_congr seqK_congr regK_congr condK_congr endK_congr drK_congr nxW_congr
attribute [local simp ↓] nxT_some rt_nil rt_gen rt_gate nxG_some rg_nil rg_gen rg_gate nxF_some rf_nil rf_gen rf_gate ks_promote ks_freeze frz_own ks_rename ghK_some gate_tt gate_tf gate_ft gate_ff gate_u nx_some nxD_some rl_nil rl_mv rl_gen rl_gate rd_nil rd_mv rd_gen rd_gate rd_free rr_false rr_true drK_some drK_none nxW_some rw_nil rw_gen rw_gate ks_region ks_seq ks_cond ks_block seqK_n seqK_e seqK_r regK_some condK_t condK_f blkK_n blkK_r endK_n endK_r calL_some ret2_some opv_t opv_c
attribute [-simp] DV.cells
attribute [local simp] cells_st cells_sl cells_i cells_y cells_b cells_s
/-! ### no order costs less -/
def stO1 (us t : List T) (ys : List Nat) (w : List Int) (n : Int) (K : Nat) (os : List Int) (k : Nat) : LS :=
  ⟨[(1, .sl 0 (ys.map .y)), (5, .sl 1 (us.map e2)), (6, .sl 1 (t.map e2)), (7, .own 17417 w.length 0 w.length), (8, .i n), (11, .own K k 0 k), (12, .i k)], [(17417, w.map .i), (K, os.map .i)]⟩
/-- where the next test is put -/
theorem place {ys : List Nat} (hy : ∀ y ∈ ys, y < 256) {i : Nat} (hi : i < 1000) (hn : 0 < ys.length) :
    ∃ (v : Nat) (a : Nat), a ≤ i ∧ atI (ys.map .y) ((i : Int).tmod ys.length) = some (.y v) ∧ (v : Int).tmod ((i : Int) + 1) = a ∧ 0 ≤ (i : Int).tmod ys.length ∧ (i : Int).tmod ys.length < ys.length := by
  have b := tmod_bound (p := (i : Int)) (l := ys.length) (by omega) (by omega)
  refine ⟨ys.getD ((i : Int).tmod ys.length).toNat 0, ((ys.getD ((i : Int).tmod ys.length).toNat 0 : Nat) : Int).tmod ((i : Int) + 1) |>.toNat, ?_, atI_y b.1 b.2, ?_, b⟩
  · have := tmod_bound (p := ((ys.getD ((i : Int).tmod ys.length).toNat 0 : Nat) : Int)) (l := (i : Int) + 1) (by omega) (by omega)
    omega
  · have := tmod_bound (p := ((ys.getD ((i : Int).tmod ys.length).toNat 0 : Nat) : Int)) (l := (i : Int) + 1) (by omega) (by omega)
    omega
set_option maxHeartbeats 4000000 in
theorem other_loop (us t : List T) (ys : List Nat) (hy : ∀ y ∈ ys, y < 256) (hyl : (ys.length : Int) ≤ 1048576) (w : List Int) (n : Int) (hu : us.length ≤ 5) (j : Nat) : ∀ (i K : Nat) (os : List Int), (K = 32776 ∨ K = 44040) → i + j = us.length → os.Perm (rng i) →
    ∃ ot : List Int, ot.Perm (rng us.length) ∧ ex lf F_laws_FnBestOrder_W0 (stO1 us t ys w n K os i) = some (.exit 0, stO1 us t ys w n 32776 ot us.length) := by
  induction j with
  | zero =>
    intro i K os hK h2 h3
    have : i = us.length := by omega
    subst this
    have lo := perm_len h3
    refine ⟨os, h3, ?_⟩
    rw [w_laws_FnBestOrder_0]
    unfold stO1
    rcases hK with rfl | rfl <;> simp [F_laws_FnBestOrder_L0, lo]
  | succ j ih =>
    intro i K os hK h2 h3
    have lo := perm_len h3
    have go : ∀ a : Nat, a ≤ i → (∃ ot : List Int, ot.Perm (rng us.length) ∧ ∃ x y, os = x ++ y ∧ x.length = a ∧ ex lf F_laws_FnBestOrder_W0 (stO1 us t ys w n 44040 (x ++ (i : Int) :: y) (i + 1)) = some (.exit 0, stO1 us t ys w n 32776 ot us.length)) := by
      intro a ha
      obtain ⟨x, y, rfl, rfl⟩ : ∃ x y, os = x ++ y ∧ x.length = a := ⟨os.take a, os.drop a, (List.take_append_drop a os).symm, by simp; omega⟩
      obtain ⟨ot, o1, o2⟩ := ih (i + 1) 44040 (x ++ (i : Int) :: y) (.inr rfl) (by omega) (ins_perm h3)
      exact ⟨ot, o1, x, y, rfl, rfl, o2⟩
    have hlt : (i : Int) < us.length := by omega
    have w1 : wr ((i : Int) + 1) = ((i + 1 : Nat) : Int) := by rw [wr_id (by omega) (by omega)]; omega
    have main : ∀ (a : Nat) (v : Nat), a ≤ i → (ys = [] ∧ a = 0 ∨ 0 < ys.length ∧ atI (ys.map .y) ((i : Int).tmod ys.length) = some (.y v) ∧ (v : Int).tmod ((i : Int) + 1) = a ∧ 0 ≤ (i : Int).tmod ys.length ∧ (i : Int).tmod ys.length < ys.length) →
        ∃ ot : List Int, ot.Perm (rng us.length) ∧ ex lf F_laws_FnBestOrder_W0 (stO1 us t ys w n K os i) = some (.exit 0, stO1 us t ys w n 32776 ot us.length) := by
      intro a v ha hc
      obtain ⟨ot, o1, x, y, rfl, rfl, o2⟩ := go a ha
      refine ⟨ot, o1, ?_⟩
      have lxy : x.length + y.length = i := by simpa using lo
      have c1 : x.length ≤ bound := by unfold bound; omega
      have c2 : x.length + 1 ≤ bound := by unfold bound; omega
      have c3 : i + 1 ≤ bound := by unfold bound; omega
      have xi : x.length ≤ i := by omega
      have xi' : (x.length : Int) ≤ i := by omega
      have t1 : ((x ++ y).map DV.i).take x.length = x.map .i := by simp
      have t2 : ((x ++ y).map DV.i).drop x.length = y.map .i := by simp
      have t4 : List.take i ((x ++ y).map DV.i) = (x ++ y).map DV.i := List.take_of_length_le (by simp; omega)
      have hL : ((x ++ y).map DV.i).length = i := by simp; omega
      have e1 : x.length + 1 + y.length = i + 1 := by omega
      have w2 : wr ((i : Int) + 1) = (i : Int) + 1 := wr_id (by omega) (by omega)
      unfold stO1 at o2
      simp only [Int.natCast_add, Int.natCast_one, List.map_append, List.map_cons] at o2
      rw [w_laws_FnBestOrder_0]
      unfold stO1
      generalize (x ++ y).map DV.i = L at *
      rcases hc with ⟨rfl, ha0⟩ | ⟨y0, q1, q2, q3, q4⟩
      · have hx : x = [] := List.eq_nil_of_length_eq_zero ha0
        subst hx
        simp at lxy t1 t2 o2
        subst t2
        have b1 : 1 ≤ bound := by unfold bound; omega
        have ac : 1 + i = i + 1 := by omega
        have ac2 : 1 + y.length = i + 1 := by omega
        rcases hK with rfl | rfl <;> simp [F_laws_FnBestOrder_L0, hlt, lo, w2, hL, t4, c3, b1, ac, ac2, o2]
      · have y0' : 0 < (ys.length : Int) := by omega
        have nz : ¬ ys = [] := fun h => by rw [h] at y0; simp at y0
        have nz2 : ¬ ((i : Int) + 1 = 0) := by omega
        rcases hK with rfl | rfl <;> simp [F_laws_FnBestOrder_L0, hlt, lo, w2, hL, y0, y0', nz, nz2, q1, q2, q3, q4, t1, t2, t4, c1, c2, c3, xi, xi', e1, o2]
    by_cases hy0 : ys = []
    · exact main 0 0 (by omega) (.inl ⟨hy0, rfl⟩)
    · have hp : 0 < ys.length := List.length_pos_iff.2 hy0
      obtain ⟨v, a, p1, p2, p3, p4, p5⟩ := place hy (i := i) (by omega) hp
      exact main a v p1 (.inr ⟨hp, p2, p3, p4, p5⟩)
def stO2 (us t : List T) (w : List Int) (n : Int) (ot : List Int) (k : Nat) : LS :=
  ⟨[(5, .sl 1 (us.map e2)), (6, .sl 1 (t.map e2)), (7, .own 17417 w.length 0 w.length), (8, .i n), (11, .own 32776 us.length 0 us.length), (15, .i k)], [(17417, w.map .i), (32776, ot.map .i)]⟩
set_option maxHeartbeats 4000000 in
theorem swaps_loop {us t : List T} (h1 : tsOk us = true) (h2 : tmOk us.length t = true) (tl : t.length ≤ 12) {w : List Int} (hw : orOk us.length w = true) {n : Int} (hn : ∀ os, orOk us.length os = true → n ≤ avO us t os) (ot : List Int) :
    ex lf F_laws_FnBestOrder_W1 (stO2 us t w n ot 0) = some (.exit 2, stO2 us t w n ot (us.length - 1)) := by
  have h1' := tsOk_iff.1 h1
  obtain ⟨g1, g2, g3⟩ := orOk_iff.1 hw
  have lb : w.length ≤ bound := by unfold bound; omega
  refine loop_count (us.length - 1) (fun i => stO2 us t w n ot i) (fun i hi => ?_) ?_ (by simp)
  · have w1 : wr ((i : Int) + 1) = ((i + 1 : Nat) : Int) := by rw [wr_id (by omega) (by omega)]; omega
    have hi' : ((i + 1 : Nat) : Int) < us.length := by omega
    have ok : swOk us.length w i = true := swOk_iff.2 ⟨hw, by omega, by omega⟩
    obtain ⟨q1, q2, q3⟩ := swL_ok ok
    have S := c_impl_SwappedOrder us.length w i (by omega)
    rw [ok] at S
    have ll := swL_len us.length w i
    have A := c_impl_AverageIn us t (swL us.length w i) (by omega) (by omega) (by omega)
    have ea : avOf us t (swL us.length w i) = avO us t (swL us.length w i) := by unfold avOf avOk; rw [h1, h2, q1]; rfl
    rw [ea] at A
    have le := hn _ q1
    have nl : ¬ avO us t (swL us.length w i) < n := by omega
    have lb2 : (swL us.length w i).length ≤ bound := by unfold bound; omega
    generalize avO us t (swL us.length w i) = c at *
    generalize swL us.length w i = z at *
    unfold stO2
    simp [F_laws_FnBestOrder_L1, w1, hi', S, A, nl, lb, lb2, -Int.natCast_add]
  · have w1 : wr (((us.length - 1 : Nat) : Int) + 1) = us.length := by rw [wr_id (by omega) (by omega)]; omega
    unfold stO2
    simp [F_laws_FnBestOrder_L1, w1]
set_option maxHeartbeats 4000000 in
theorem law_FnBestOrder (x : List Nat) (_ : x.length ≤ Go.maxLen) (hb : ∀ y ∈ x, y < 256) (ys : List Nat) (_ : ys.length ≤ Go.maxLen) (hy : ∀ y ∈ ys, y < 256) : call lf n_laws_FnBestOrder [bys x, bys ys] = some (.b true, []) := by
  show call lf n_laws_FnBestOrder [.sl 0 (x.map .y), .sl 0 (ys.map .y)] = _
  rw [call_k lf n_laws_FnBestOrder _ (F := F_laws_FnBestOrder) rfl rfl]
  by_cases hl : 1048576 < (x.length : Int)
  · simp (config := { maxSteps := 2000000 }) [F_laws_FnBestOrder, hl]
  · by_cases hl2 : 1048576 < (ys.length : Int)
    · simp (config := { maxSteps := 2000000 }) [F_laws_FnBestOrder, hl, hl2]
    · obtain ⟨us, t, u1, t1, d⟩ := c_DrawBestOrder hb (by omega)
      have V1 := c_impl_BestOrder us t (by omega) (by omega)
      have V2 := c_spec_BestOrder us t (by omega) (by omega)
      have lb0 : us.length ≤ bound := by unfold bound; omega
      have lb1 : t.length ≤ bound := by unfold bound; omega
      cases hk : boOk us t with
      | false =>
        have e1 : boL us t = [] := by unfold boL; rw [hk]; rfl
        have e2 : boN us t = -1 := by unfold boN; rw [hk]; rfl
        have S := c_sameInts_i [] (by simp)
        rw [e1, e2] at V1
        rw [hk, e2] at V2
        simp at V1 V2 S
        simp (config := { maxSteps := 2000000 }) [F_laws_FnBestOrder, hl, hl2, d, V1, V2, S, lb0, lb1, c_alive]
      | true =>
        have e1 : boL us t = (boF us t).1 := by unfold boL; rw [hk]; rfl
        have e2 : boN us t = (boF us t).2 := by unfold boN; rw [hk]; rfl
        have hk' := hk
        unfold boOk at hk'
        rw [Bool.and_eq_true] at hk'
        obtain ⟨h1, h2⟩ := hk'
        have h1' := tsOk_iff.1 h1
        rw [e1, e2] at V1
        rw [hk, e1, e2] at V2
        have hw := boF_or h1 t
        have ha := boF_av us t
        have hle : ∀ os, orOk us.length os = true → (boF us t).2 ≤ avO us t os := fun os h => boF_least h
        have av := avO_le (t := t) h1 hw
        rw [← ha] at av
        obtain ⟨g1, g2, g3⟩ := orOk_iff.1 hw
        generalize hbw : (boF us t).1 = w at *
        generalize hbn : (boF us t).2 = n at *
        obtain ⟨ot, o1, L0⟩ := other_loop us t ys hy (by omega) w n u1 us.length 0 32776 [] (.inl rfl) (by omega) (by rfl)
        have L1 := swaps_loop h1 h2 t1 hw hle ot
        have oo : orOk us.length ot = true := perm_ok (m := us.length) (by omega) (by rw [Int.toNat_natCast]; exact o1)
        have lo := perm_len o1
        have A1 := c_impl_AverageIn us t w (by omega) (by omega) (by omega)
        have ea1 : avOf us t w = n := by unfold avOf avOk; rw [h1, h2, hw, ha]; rfl
        rw [ea1] at A1
        have A2 := c_impl_AverageIn us t ot (by omega) (by omega) (by omega)
        have ea2 : avOf us t ot = avO us t ot := by unfold avOf avOk; rw [h1, h2, oo]; rfl
        rw [ea2] at A2
        have le2 := hle ot oo
        have pw := c_power us.length (by omega) (by omega)
        rw [Int.toNat_natCast] at pw
        have C := c_impl_CostOf us (by omega)
        have ec : costOf us = cost us := by unfold costOf; rw [h1]; rfl
        rw [ec] at C
        have S := c_sameInts_i w (by omega)
        have n1 : ¬ n < 0 := by omega
        have p6' := p6 (n := us.length) (by omega)
        have cb := cO_le h1 g3
        have cb2 := cO_bd h1'.2 w
        have c9 : cost us ≤ 45 := by
          have := cost_bound h1'.2
          omega
        have pm : (6 : Int) ^ us.length * cost us ≤ 7776 * 45 := Int.mul_le_mul p6'.2 c9 (by omega) (by omega)
        have pm0 : 0 ≤ (6 : Int) ^ us.length * cost us := Int.mul_nonneg (by omega) (by omega)
        have wm : wr ((6 : Int) ^ us.length * cost us) = 6 ^ us.length * cost us := wr_id (by omega) (by omega)
        have lb2 : w.length ≤ bound := by unfold bound; omega
        have tt : List.take us.length (ot.map DV.i) = ot.map .i := List.take_of_length_le (by simp; omega)
        have lo' : (ot.map DV.i).length = us.length := by simp [lo]
        have av2 := av.2
        unfold stO1 at L0
        unfold stO2 at L1
        simp only [Int.natCast_zero, List.map_nil, if_true] at L0 L1 V2
        generalize avO us t ot = c' at *
        generalize (6 : Int) ^ us.length = p at *
        have lt := lend_i ot
        generalize ot.map DV.i = O at *
        simp (config := { maxSteps := 2000000 }) [F_laws_FnBestOrder, hl, hl2, d, V1, V2, S, L0, L1, A1, A2, C, pw, wm, n1, le2, av2, tt, lo, lo', lt, lb0, lb1, lb2]
end Zz
