/- What the functions answer, as equations: EB. No conditions. -/
import Derived.Test.YthadcdlggmahfaaEAzv
set_option linter.unusedSectionVars false
set_option linter.unusedVariables false
set_option linter.unusedSimpArgs false
namespace Zz
open Go.Lg Md
set_option linter.unusedSimpArgs false
set_option linter.unusedVariables false
attribute [local simp] ia_mv ia_newnil ia_pick ia_bin ia_eqb ia_eqs ia_un ia_len ia_lens ia_chk ia_fld ia_fldv ia_idxa ia_idx ia_load ia_store ia_slice ia_slices ia_make ia_alloc ia_box ia_build ia_bslice ia_app ia_b2i ia_i2b ia_i2i ia_same ia_b2s ia_s2b ia_ext ia_mm ia_idxp ia_calld ia_mkfn ia_i2r ia_r2s ia_call pt_nil pt_cons mi_nil mi_cons md_bslice md_mv md_newnil md_pick md_bin md_eqb md_un md_len md_lens md_fld md_fldv md_idxa md_idx md_load md_store md_slice md_slices md_make md_alloc md_box md_build md_app md_conv md_ext md_call md_calld md_callg md_mkfn md_mm md_idxp md_eqn md_eqs md_chk tg_bslice tg_mv tg_newnil tg_pick tg_bin tg_eqb tg_un tg_len tg_lens tg_fld tg_fldv tg_idxa tg_idx tg_load tg_store tg_slice tg_slices tg_make tg_alloc tg_box tg_build tg_app tg_conv tg_ext tg_call tg_calld tg_callg tg_mkfn tg_mm tg_idxp tg_eqn tg_eqs tg_chk rp_eq ro_eq ifP_t ifP_f np_def ng1_nil ng2_nil ng_gate ng_gen tgA_t tgA_0 tgA_1 tgA_2 aC_nil aC_c aC_t nxP_some nxP_none rq_nil rq_gen rq_gate nxR_some nxR_none ru_nil ru_gen ru_gate pl_none pl_some gt_nil gt_t gt_c di_some di_none an_nil an_cons nxG_some nxG_none rg_nil rg_gen rg_gate oldO_some oa_nil oa_i oa_y oa_b oa_s oa_st oa_sl oa_own oa_oad oa_nl al_nil al_cons al_i al_y al_b al_s al_st al_sl nxF_some nxF_none rf_nil rf_gen rf_gate hk_newnil hk_make hk_alloc hk_box hk_build hk_bslice hk_call hk_store hk_app hk_appn em_cel mm_cel ok_cel ov_cel so_cel il_cel oi_cel oj_cel ol_cel nm_cel hk_appc ef_bslice5 ef_app_cel ks_shut shu_own shc_none shc_cel cl_nil cl_cons ai_nil ai_cons il_i il_y il_b il_s il_st il_sl il_own il_adr il_oad il_ref il_fr il_tup il_nil il_np il_und il_dead ol_adr ol_b ol_dead ol_e ol_fn ol_fr ol_i ol_nil ol_np ol_oad ol_own ol_q ol_r ol_ref ol_s ol_sl ol_st ol_tup ol_und ol_w ol_y oj_e oj_i oj_y oj_b oj_s oj_st oj_sl oj_own oj_adr oj_oad oj_ref oj_fr oj_tup oj_nil oj_np oj_und oj_dead oj_w oj_q oj_r oj_fn oi_e oi_i oi_y oi_b oi_s oi_st oi_sl oi_own oi_adr oi_oad oi_ref oi_fr oi_tup oi_nil oi_np oi_und oi_dead as_nil as_cons ao_nil ao_cons av_i av_y av_b av_s av_st av_sl av_own av_adr av_oad av_ref av_fr av_tup av_nil av_np av_und av_dead pro_cons ghK_some ks_promote ks_freeze frz_own ks_rename ren_own dropO adoptP newP wholeP cutP allOldL ex_skip ex_ret ex_exit ks_region ks_seq ks_cond ks_block seqK_n seqK_e seqK_r regK_some condK_t condK_f blkK_n blkK_r blkK_e endK_n endK_r rr_false rr_true rd_free mo_nil mo_cons drK_some drK_none nxW_some nxW_none rw_nil rw_gen rw_gate ak_newnil ak_make ak_alloc ak_box ak_build ak_bslice ak_call ak_store ak_app iw_mm iw_eqn iw_idxp ef_callg cgK_some gv_e gv_own gv_i gv_sl gv_st gv_b gv_nil gvK_some gvO_some iw_callg ia_callg ak_callg hk_callg is_mv is_newnil is_pick is_bin is_eqb is_eqs is_un is_len is_lens is_chk is_fld is_fldv is_idxa is_idx is_load is_slice is_slices is_make is_alloc is_box is_build is_bslice is_app is_conv is_ext is_call is_calld is_callg is_mkfn is_mm is_idxp is_eqn is_store rt_nil rt_gen rt_gate nxT_some nxT_none ef_eqn_nil ef_eqn_sl ef_eqn_own ia_eqn ef_mmx ef_mmn ef_idxp nxD_some nxD_none ov_i ov_y ov_b ov_s ov_st ov_sl ov_own ov_oad ov_adr ov_nil ov_np ov_und ov_dead ov_tup oldN_some oldN_nil oldN_none so_none so_i so_y so_b so_s so_st so_sl so_adr so_nil so_np so_und so_dead anyM_nil anyM_t anyM_c so_own so_oad rd_nil rd_gen rd_mv rd_gate iw_mv iw_newnil iw_pick iw_bin iw_eqb iw_eqs iw_un iw_len iw_lens iw_chk iw_fld iw_fldv iw_idxa iw_idx iw_load iw_store iw_slice iw_slices iw_make iw_alloc iw_box iw_build iw_bslice iw_app iw_b2i iw_i2b iw_i2i iw_same iw_b2s iw_s2b iw_ext iw_call nm_i nm_y nm_b nm_s nm_st nm_sl nm_own nm_oad nm_adr nm_nil nm_np nm_und nm_dead nm_tup rl_nil rl_gate rl_mv rl_gen opv_t opv_c nx_some nx_none gate_tt gate_tf gate_ft gate_ff gate_u fr_ap em_nil em_i em_y em_b em_s em_st em_sl em_own em_adr em_oad em_ref em_nl em_np em_und em_dead em_tup0 em_tup_i em_tup_b em_tup_s em_tup_sl em_tup_st em_tup_np em_tup_own em_tup_oad mm_i mm_y mm_b mm_s mm_st mm_sl mm_own mm_oad mm_adr mm_nil mm_np mm_und mm_dead ef_mv ef_newnil ef_pickt ef_pickf ef_bin ef_eqb ef_eqs ef_un ef_lens ef_len_sl ef_len_own ef_len_nil ef_chk_adr ef_chk_oad ef_fld_adr ef_fld_oad ef_fldv idxR_some ef_idxa_sl ef_idxa_own ef_idx ef_load_adr_st ef_load_adr_i ef_load_adr_y ef_load_adr_b ef_load_adr_s ef_load_adr_sl atN_nil atN_zero atN_succ ef_load_oad ef_store ef_slice ef_slices ef_make ef_alloc ef_box ef_build ef_bslice ef_app_own ef_app_nil ef_b2i ef_i2b ef_i2i ef_same ef_ext ret1 ret2_some calL_some ef_call retC_i retC_y retC_b retC_s retC_st retC_sl retC_np retC_fr retC_ref retC_tup rk_nil rk_i rk_y rk_b rk_s rk_st rk_sl rk_own rk_oad rk_nl ok_nil ok_i ok_y ok_b ok_s ok_st ok_sl ok_own ok_oad ok_nl lo_nil lo_i lo_y lo_b lo_s lo_st lo_sl lo_own lo_oad lo_nl pr_nil pr_i pr_y pr_b pr_s pr_st pr_sl pr_own pr_nl pr_oad nr_i nr_y nr_b nr_s nr_st nr_sl nr_fr nr_np nr_tup ng_i ng_b ng_s ng_fr ng_nil resV effP_eff binD bi_add bi_sub bi_mul bi_quo bi_rem bi_eql bi_neq bi_lss bi_leq bi_gtr bi_geq bi_shl bi_shr bi_and bi_or bi_xor bi_andNot binY binS unD look put putD LS.get LS.drop killE sweep lookO putO dropO enter leave giveBackL giveBack outs lendArgs lendArg newOuts takeIn takeInL lendL DV.lend adoptL DV.adopt elems apartKs part DV.cells unpart settle settleL over mkId szId fillP fillE tk_e2 tk_i tk_y lt_e2 lt_i lt_y lend_rep al_e2 al_is al_ys al_rep al_app lend_app adopt_app new_app lend_e2 lend_i lend_y adopt_e2 adopt_i adopt_y new_e2 new_i allNewL DV.allNew bounds sliceD sliceS em_w em_q em_r em_fn em_tup_w em_tup_q em_tup_r mm_w mm_q mm_r mm_fn ef_load_adr_w ef_load_adr_q ef_load_adr_r retC_w retC_q retC_r rk_w rk_q rk_r rk_fn ok_w ok_q ok_r ok_fn lo_w lo_q lo_r lo_fn pr_w pr_q pr_r pr_fn nr_w nr_q nr_r ng_w ng_q ng_r oa_w oa_q oa_r oa_fn al_w al_q al_r al_fn ov_w ov_q ov_r ov_fn so_w so_q so_r so_fn il_w il_q il_r il_fn oi_w oi_q oi_r oi_fn av_w av_q av_r av_fn nm_w nm_q nm_r nm_fn ef_i2r ef_r2s ef_mkfn ef_idxp_adr ef_calld capsOk DV.cell List.all_cons List.all_nil rk_own_t lo_own_t lk_f lk_t pr_own_t mutB ak_calld hk_calld iw_calld iw_mkfn iw_i2r iw_r2s bw_and bw_or bw_xor bw_andNot bw_eql bw_neq sw_shl sw_shr sq_shl gEnv_nil rk_adr ok_adr lo_adr pr_adr oa_adr capL capArg DV.cap ak_mkfn hk_mkfn ef_callm gf_ap ga_nil ga_cons tgv_own gk_e gk_giv gk_i gk_y gk_b gk_s gk_w gk_q gk_r gk_fn gk_st gk_sl gk_own gk_oad gk_adr gk_nl gk_np rk_giv ok_giv lo_giv pr_giv oa_giv iw_callm hk_callm ak_callm is_callm ia_callm tg_callm md_callm ef_i2q ef_q2i ef_q2q iw_i2q iw_q2i iw_q2q ia_i2q ia_q2i ia_q2q bq_and bq_add bq_shr sq_shr tgv_nil gk_ref rk_ref ok_ref lo_ref pr_ref oa_ref retC_fn nr_fn ef_load_adr_fn ks_close cls_oad
attribute [local congr] ifP_congr nxP_congr nxR_congr nxT_congr nxG_congr nxF_congr ghK_congr gate_congr nx_congr nxD_congr runL_congr runD_congr eff_congr calL_congr ret2_congr seqK_congr regK_congr condK_congr endK_congr drK_congr nxW_congr
attribute [local simp ↓] nxT_some rt_nil rt_gen rt_gate nxP_some rq_nil rq_gen rq_gate nxR_some ru_nil ru_gen ru_gate nxG_some rg_nil rg_gen rg_gate nxF_some rf_nil rf_gen rf_gate ks_promote ks_freeze frz_own ks_rename ghK_some gate_tt gate_tf gate_ft gate_ff gate_u nx_some nxD_some rl_nil rl_mv rl_gen rl_gate rd_nil rd_mv rd_gen rd_gate rd_free rr_false rr_true drK_some drK_none nxW_some rw_nil rw_gen rw_gate ks_region ks_seq ks_cond ks_block seqK_n seqK_e seqK_r regK_some condK_t condK_f blkK_n blkK_r endK_n endK_r calL_some ret2_some opv_t opv_c
section
attribute [-simp] DV.cells
attribute [local simp] sliceD cells_st cells_sl cells_i cells_y cells_b cells_s cells_w
attribute [local simp] lend_eR al_eR lend_eN adopt_eN new_eN
theorem lend_gc2 (us : List T) (L : List (List Nat)) : lendL (L.map (gcP 2 us)) = L.map (gcP 0 us) := lend_gc 2 us L
theorem gIo_ok {us : List T} (h : us.all tOk = true) {g : List Nat} (hl : ∀ k ∈ g, k < us.length) : iOk (gIo us g) := by
  have b := gDt_bd h hl
  have n := grN_bd h hl
  exact ⟨b.1, n.1, n.2⟩
theorem sGi_sorted {us : List T} (h : us.all tOk = true) {m : Nat} {N : List (List Nat)} (hm : m = us.length) (G : Gok m N) (i : Nat) : (sGi us N i).Pairwise (fun a b => gLe (gIo us a) (gIo us b) = true) :=
  sG_sortedA h (N.take i) [] (fun g hg => by subst hm; exact G.lt g (List.mem_of_mem_take hg)) (fun k hk => by cases hk) List.Pairwise.nil
def stGr (us : List T) (A : List DV) (n K : Nat) (S : List (List Nat)) (i : Nat) : LS :=
  ⟨[(0, .sl 0 (us.map e2)), (6, .fn n_impl_groupsByRatios_1 []), (7, .own K S.length 0 S.length), (20, .sl 0 A), (21, .i n), (22, .i i)], [(K, S.map (gcP 2 us))]⟩
set_option maxHeartbeats 8000000 in
theorem gr_loop {us : List T} (h : tsOk us = true) {N : List (List Nat)} (G : Gok us.length N) (j : Nat) : ∀ (i K : Nat), (K = 3616 ∨ K = 15904) → i + j = N.length →
    ex lf F_impl_groupsByRatios_W0 (stGr us ((N.map ni).map eR) N.length K (sGi us N i) i) = some (.exit 0, stGr us ((N.map ni).map eR) N.length 3616 (sG us N) N.length) := by
  have h' := tsOk_iff.1 h
  have lN := rows_le G
  have lendA : lendL ((N.map ni).map eR) = (N.map ni).map eR := lend_eR _
  induction j with
  | zero =>
    intro i K hK hi
    have e : i = N.length := by omega
    subst e
    rw [w_impl_groupsByRatios_0, sGi_all]
    rcases hK with rfl | rfl <;> simp [stGr, F_impl_groupsByRatios_L0]
  | succ j ih =>
    intro i K hK hi
    have k2 := ih (i + 1) 15904 (.inr rfl) (by omega)
    have hlt : i < N.length := by omega
    have hlt' : (i : Int) < N.length := by omega
    obtain ⟨g, hg⟩ : ∃ g, N[i]? = some g := ⟨_, List.getElem?_eq_getElem hlt⟩
    have gm := List.mem_of_getElem? hg
    have gl := G.lt g gm
    have g5 : g.length ≤ 5 := by have := row_le G gm; omega
    have g1 : 1 ≤ g.length := by have := List.length_pos_iff.2 (G.ne g gm); omega
    have gnd : g.Nodup := by
      obtain ⟨A, B, hAB⟩ := List.append_of_mem gm
      have nd := G.nd
      rw [hAB, List.flatten_append, List.flatten_cons] at nd
      exact (List.nodup_append.1 (List.nodup_append.1 nd).2.1).1
    have C1 := c_impl_groupOf h g1 g5 gnd gl
    have ip := inT_perm us g
    have il : (inT us g).length = g.length := ip.length_eq
    have im : ∀ x ∈ inT us g, x < us.length := fun x hx => gl x (ip.mem_iff.1 hx)
    have ll := sGi_len us (N := N) (i := i) (by omega)
    have hm : ∀ o ∈ sGi us N i, gOk us o := fun o ho => by
      obtain ⟨q, hq, rfl⟩ := List.mem_map.1 ((sGi_perm us N i).mem_iff.1 ho)
      have qm := List.mem_of_mem_take hq
      have qp := inT_perm us q
      exact ⟨by have := row_le G qm; rw [qp.length_eq]; omega, fun x hx => G.lt q qm x (qp.mem_iff.1 hx)⟩
    have I := c_impl_insertedG h'.2 (g := inT us g) ⟨by omega, im⟩ (L := sGi us N i) (by omega) hm (sGi_sorted h'.2 rfl G i) (fun o ho => by
      rcases List.mem_cons.1 ho with rfl | ho
      · exact gIo_ok h'.2 im
      · exact gIo_ok h'.2 (hm o ho).2)
    have lI : (insG us (inT us g) (sGi us N i)).length = i + 1 := by rw [insG_pos]; simp; have := posG_le us (inT us g) (sGi us N i); omega
    rw [sGi_succ us hg] at k2
    have e1 : gcP 0 us (inT us g) = .st [.i (grC us g), .i (grN us g), .sl 0 ((ni (inT us g)).map .i), .i (6 ^ g.length)] := by
      have := inT_cost h'.2 gl
      unfold gI at this
      unfold gcP
      rw [this, il]
    rw [e1] at I
    have a1 : atI ((N.map ni).map eR) (i : Int) = some (.sl 0 ((ni g).map .i)) := at_eR (by rw [List.getElem?_map, hg]; rfl)
    have w1 := wr_succ (k := i) (by omega)
    have lM := lend_gc2 us (sGi us N i)
    have nM : ((sGi us N i).map (gcP 2 us)).length = i := by simp [ll]
    have nI : ((insG us (inT us g) (sGi us N i)).map (gcP 2 us)).length = i + 1 := by simp [lI]
    have aI := adopt_gc2 false us (insG us (inT us g) (sGi us N i))
    have lI2 := lend_gc2 us (insG us (inT us g) (sGi us N i))
    have cM : ∀ e ∈ (sGi us N i).map (gcP 0 us), e.cells.length = 4 := fun e he => by
      obtain ⟨o, _, rfl⟩ := List.mem_map.1 he; rfl
    have cM2 : ∀ e ∈ (sGi us N i).map (gcP 2 us), e.cells.length = 4 := fun e he => by
      obtain ⟨o, _, rfl⟩ := List.mem_map.1 he; rfl
    have cI : ∀ e ∈ (insG us (inT us g) (sGi us N i)).map (gcP 2 us), e.cells.length = 4 := fun e he => by
      obtain ⟨o, _, rfl⟩ := List.mem_map.1 he; rfl
    have tk : List.take i ((sGi us N i).map (gcP 2 us)) = (sGi us N i).map (gcP 2 us) := List.take_of_length_le (by simp [ll])
    have adJ : ∀ b, adoptL b ((ni (inT us g)).map DV.i) = (ni (inT us g)).map .i := fun b => by simp
    have leJ : lendL ((ni (inT us g)).map DV.i) = (ni (inT us g)).map .i := by simp
    unfold stGr at *
    rw [lI] at k2
    rw [ll] at ⊢
    rw [w_impl_groupsByRatios_0]
    generalize (insG us (inT us g) (sGi us N i)).map (gcP 2 us) = N2 at *
    generalize (sGi us N i).map (gcP 2 us) = M2 at *
    generalize (sGi us N i).map (gcP 0 us) = M at *
    generalize (sG us N).map (gcP 2 us) = R at *
    generalize (N.map ni).map eR = A at *
    generalize (ni (inT us g)).map DV.i = J at *
    generalize grC us g = D at *
    generalize grN us g = Q at *
    generalize (6 : Int) ^ g.length = pw at *
    rcases hK with rfl | rfl <;> simp [F_impl_groupsByRatios_L0, hlt, hlt', lendA, C1, a1, I, w1, lM, nM, nI, aI, lI2, if_pos cM, if_pos cM2, if_pos cI, tk, adJ, leJ, k2, -Int.natCast_add]
end
section
attribute [-simp] DV.cells
attribute [local simp] sliceD cells_st cells_sl cells_i cells_y cells_b cells_s cells_w
attribute [local simp] lend_eR al_eR lend_eN adopt_eN new_eN
theorem c_impl_groupsByRatios (us : List T) (L : List (List Int)) (ha : (us.length : Int) < 1099511627776) (hb : (L.length : Int) < 1099511627776) :
    call lf n_impl_groupsByRatios [.sl 0 (us.map e2), .sl 0 (L.map eR)] = some (.tup [.fr 4 ((sgL us L).map (gcP 2 us)), .b (tsOk us && gokB us.length L)], []) := by
  rw [call_k lf n_impl_groupsByRatios _ (F := F_impl_groupsByRatios) rfl rfl]
  have C1 := c_impl_TestsOk us ha
  have C2 := c_impl_GroupsOk us.length L hb
  have lA : lendL (L.map eR) = L.map eR := lend_eR _
  cases h1 : tsOk us with
  | false =>
    rw [h1] at C1
    have e : sgL us L = [] := by unfold sgL; rw [h1]; rfl
    rw [e]
    simp [F_impl_groupsByRatios, C1]
  | true =>
    rw [h1] at C1
    cases h2 : gokB us.length L with
    | false =>
      rw [h2] at C2
      have e : sgL us L = [] := by unfold sgL; rw [h1, h2]; rfl
      rw [e]
      simp [F_impl_groupsByRatios, C1, C2, lA]
    | true =>
      rw [h2] at C2
      obtain ⟨N, rfl, G, _, _, e1, _⟩ := sgL_of (us := us) (L := L) (by rw [h1, h2]; rfl)
      have I := gr_loop h1 G N.length 0 3616 (.inl rfl) (by omega)
      have z : sGi us N 0 = [] := rfl
      rw [z] at I
      unfold stGr at I
      rw [e1]
      simp only [Int.natCast_zero, List.length_nil, List.map_nil] at I
      have nl : ((N.map ni).map eR).length = N.length := by simp
      have nR' : ((sG us N).map (gcP 2 us)).length = (sG us N).length := by simp
      have cR : ∀ e ∈ (sG us N).map (gcP 2 us), e.cells.length = 4 := fun e he => by
        obtain ⟨o, _, rfl⟩ := List.mem_map.1 he; rfl
      generalize (N.map ni).map eR = A at *
      generalize (sG us N).map (gcP 2 us) = R at *
      simp [F_impl_groupsByRatios, C1, C2, lA, I, nl, nR', if_pos cR]
theorem at_gc {us : List T} {L : List (List Nat)} {k : Nat} {g : List Nat} (h : L[k]? = some g) : atI (L.map (gcP 2 us)) (k : Int) = some (gcP 2 us g) ∧ atN (L.map (gcP 2 us)) k = some (gcP 2 us g) := by
  have e : (L.map (gcP 2 us))[k]? = some (gcP 2 us g) := by rw [List.getElem?_map, h]; rfl
  refine ⟨?_, e⟩
  simp only [atI, if_pos (Int.natCast_nonneg k)]
  show (L.map (gcP 2 us))[(k : Int).toNat]? = _
  rw [Int.toNat_natCast]; exact e
end
section
attribute [-simp] DV.cells
attribute [local simp] sliceD cells_st cells_sl cells_i cells_y cells_b cells_s cells_w
attribute [local simp] lend_eR al_eR lend_eN adopt_eN new_eN
def e2R (g : List Nat) : DV := .sl 2 ((ni g).map .i)
def nR2 (L : List (List Nat)) : List DV := L.map e2R
theorem nR2_len (L : List (List Nat)) : (nR2 L).length = L.length := by simp [nR2]
theorem nR2_app (p q : List (List Nat)) : nR2 (p ++ q) = nR2 p ++ nR2 q := by simp [nR2]
theorem lend_nR2 (L : List (List Nat)) : lendL (nR2 L) = (L.map ni).map eR := by
  unfold nR2
  rw [lendL_map, List.map_map, List.map_map]
  apply List.map_congr_left
  intro r _
  simp [e2R, eR, DV.lend]
theorem adopt_nR2 (b : Bool) (L : List (List Nat)) : adoptL b (nR2 L) = nR2 L := by
  unfold nR2
  rw [adoptL_map, List.map_map]
  apply List.map_congr_left
  intro r _
  simp [e2R, DV.adopt, adoptP]
theorem nR2_cells (L : List (List Nat)) : ∀ e ∈ nR2 L, e.cells.length = 1 := fun e he => by
  obtain ⟨r, _, rfl⟩ := List.mem_map.1 he; rfl
def stIr (us : List T) (S : List (List Nat)) (k : Nat) : LS :=
  ⟨[(7, .own 3592 k 0 k), (18, .own 6689 S.length 0 S.length), (19, .i S.length), (20, .i k)], [(3592, nR2 (S.take k)), (6689, S.map (gcP 2 us))]⟩
set_option maxHeartbeats 8000000 in
theorem ir_loop (us : List T) {S : List (List Nat)} (hS : S.length ≤ 5) : ex lf F_impl_SortedGroups_W0 (stIr us S 0) = some (.exit 0, stIr us S S.length) := by
  refine loop_count S.length (fun k => stIr us S k) (fun i hlt => ?_) ?_ (by simp)
  · have hlt' : (i : Int) < S.length := by omega
    obtain ⟨g, hg⟩ : ∃ g, S[i]? = some g := ⟨_, List.getElem?_eq_getElem hlt⟩
    obtain ⟨a1, a2⟩ := at_gc (us := us) hg
    have w1 := wr_succ (k := i) (by omega)
    have cb : i + 1 ≤ bound := by unfold bound; omega
    have nS : (S.map (gcP 2 us)).length = S.length := by simp
    have adJ : ∀ b, adoptL b ((ni g).map DV.i) = (ni g).map .i := fun b => by simp
    have lA : (nR2 (S.take i)).length = i := by rw [nR2_len]; simp; omega
    have tk : List.take i (nR2 (S.take i)) = nR2 (S.take i) := List.take_of_length_le (by omega)
    have e1 : nR2 (S.take (i + 1)) = nR2 (S.take i) ++ [.sl 2 ((ni g).map .i)] := by
      rw [List.take_add_one, hg, Option.toList_some, nR2_app]; rfl
    have cw := nR2_cells (S.take i)
    unfold stIr
    rw [e1]
    generalize S.map (gcP 2 us) = M at *
    generalize nR2 (S.take i) = B at *
    unfold gcP at a1 a2
    generalize (gIo us g).1 = x1 at *
    generalize (gIo us g).2.1 = x2 at *
    generalize (ni g).map DV.i = J at *
    generalize (6 : Int) ^ g.length = pw at *
    simp [F_impl_SortedGroups_L0, hlt, hlt', a1, a2, w1, cb, nS, adJ, lA, tk, if_pos cw, -Int.natCast_add]
  · simp [stIr, F_impl_SortedGroups_L0]
theorem c_impl_SortedGroups (us : List T) (L : List (List Int)) (ha : (us.length : Int) < 1099511627776) (hb : (L.length : Int) < 1099511627776) :
    call lf n_impl_SortedGroups [.sl 0 (us.map e2), .sl 0 (L.map eR)] = some (.fr 1 (nR2 (sgL us L)), []) := by
  rw [call_k lf n_impl_SortedGroups _ (F := F_impl_SortedGroups) rfl rfl]
  have S := c_impl_groupsByRatios us L ha hb
  have lA : lendL (L.map eR) = L.map eR := lend_eR _
  cases h : (tsOk us && gokB us.length L) with
  | true =>
    obtain ⟨N, rfl, G, h1, h2, e1, _⟩ := sgL_of h
    have h1' := tsOk_iff.1 h1
    have GS := sG_gok (us := us) G
    have lS := rows_le GS
    rw [e1] at S ⊢
    rw [h] at S
    have I := ir_loop us (S := sG us N) (by omega)
    unfold stIr at I
    have z' : nR2 [] = [] := rfl
    rw [List.take_zero, List.take_length, z'] at I
    simp only [Int.natCast_zero] at I
    have nl : ((sG us N).map (gcP 2 us)).length = (sG us N).length := by simp
    have ad := fun b => adopt_gc2 b us (sG us N)
    have cR : ∀ e ∈ (sG us N).map (gcP 2 us), e.cells.length = 4 := fun e he => by
      obtain ⟨o, _, rfl⟩ := List.mem_map.1 he; rfl
    have nn := nR2_len (sG us N)
    generalize (N.map ni).map eR = A at *
    generalize (sG us N).map (gcP 2 us) = M at *
    generalize nR2 (sG us N) = R at *
    simp [F_impl_SortedGroups, S, lA, nl, ad, if_pos cR, I, nn]
  | false =>
    have e : sgL us L = [] := by unfold sgL; rw [h]; rfl
    rw [e, h] at S
    rw [e]
    simp only [List.map_nil] at S
    have z' : nR2 [] = [] := rfl
    rw [z']
    simp [F_impl_SortedGroups, S, lA]
theorem c_sameInts_e (N : List Int) (ha : (N.length : Int) ≤ 1048576) : call lf n_laws_sameInts [.sl 0 (N.map .i), .sl 0 (N.map .i)] = some (.b true, []) := by
  rw [call_k lf n_laws_sameInts _ (F := F_laws_sameInts) rfl rfl]
  have lm : (N.map DV.i).length = N.length := by simp
  have A : ∀ i, (hi : i < N.length) → atI (N.map DV.i) i = some (.i N[i]) := fun i hi => by simp [atI, hi]
  generalize N.map DV.i = es at *
  have L : ex lf F_laws_sameInts_W0 ⟨[(0, .sl 0 es), (1, .sl 0 es), (5, .i 0)], []⟩ = some (.exit 0, ⟨[(0, .sl 0 es), (1, .sl 0 es), (5, .i N.length)], []⟩) := by
    refine loop_count N.length (fun i => ⟨[(0, .sl 0 es), (1, .sl 0 es), (5, .i i)], []⟩) (fun i hi => ?_) ?_ (by simp)
    · have w1 : wr ((i : Int) + 1) = (i : Int) + 1 := wr_id (by omega) (by omega)
      have q := A i hi
      generalize N[i] = y at *
      simp [F_laws_sameInts_L0, hi, q, w1, lm]
    · simp [F_laws_sameInts_L0, lm]
  simp [F_laws_sameInts, L, lm]
theorem c_sameRows_self (L : List (List Int)) (ha : (L.length : Int) ≤ 1048576) (hr : ∀ r ∈ L, (r.length : Int) ≤ 1048576) : call lf n_laws_sameRows [.sl 0 (L.map eR), .sl 0 (L.map eR)] = some (.b true, []) := by
  rw [call_k lf n_laws_sameRows _ (F := F_laws_sameRows) rfl rfl]
  have lm : (L.map eR).length = L.length := by simp
  have A : ∀ (i : Nat) (hi : i < L.length), atI (L.map eR) (i : Int) = some (.sl 0 (L[i].map .i)) := fun i hi => at_eR (List.getElem?_eq_getElem hi)
  have C : ∀ (i : Nat) (hi : i < L.length), call lf n_laws_sameInts [.sl 0 (L[i].map .i), .sl 0 (L[i].map .i)] = some (.b true, []) := fun i hi => c_sameInts_e L[i] (hr _ (List.getElem_mem hi))
  have W : ex lf F_laws_sameRows_W0 ⟨[(0, .sl 0 (L.map eR)), (1, .sl 0 (L.map eR)), (5, .i (0 : Nat))], []⟩ = some (.exit 0, ⟨[(0, .sl 0 (L.map eR)), (1, .sl 0 (L.map eR)), (5, .i L.length)], []⟩) := by
    refine loop_count L.length (fun k => ⟨[(0, .sl 0 (L.map eR)), (1, .sl 0 (L.map eR)), (5, .i (k : Nat))], []⟩) (fun i hlt => ?_) ?_ (by simp)
    · have hlt' : (i : Int) < L.length := by omega
      have w1 := wr_succ (k := i) (by omega)
      have a := A i hlt
      have c := C i hlt
      have lJ : lendL (L[i].map DV.i) = L[i].map .i := by simp
      generalize L[i].map DV.i = J at *
      generalize L.map eR = es at *
      simp [F_laws_sameRows_L0, lm, hlt, hlt', a, c, lJ, w1, -Int.natCast_add]
    · generalize L.map eR = es at *
      simp [F_laws_sameRows_L0, lm]
  simp only [Int.natCast_zero] at W
  generalize L.map eR = es at *
  simp [F_laws_sameRows, W, lm]
end
section
attribute [-simp] DV.cells
attribute [local simp] sliceD cells_st cells_sl cells_i cells_y cells_b cells_s cells_w
attribute [local simp] lend_eR al_eR lend_eN adopt_eN new_eN
theorem ownL_gok (m : Nat) : Gok m (ownL m) := by
  have f : (ownL m).flatten = List.range m := by
    unfold ownL
    induction m with
    | zero => rfl
    | succ m ih => rw [List.range_succ, List.map_append, List.flatten_append, ih]; rfl
  refine ⟨fun g hg k hk => ?_, ?_, fun k hk => ?_, fun g hg => ?_⟩
  · obtain ⟨j, hj, rfl⟩ := List.mem_map.1 hg
    have := List.mem_range.1 hj
    have := List.mem_singleton.1 hk
    omega
  · rw [f]; exact List.nodup_range
  · rw [f]; exact List.mem_range.2 hk
  · obtain ⟨j, hj, rfl⟩ := List.mem_map.1 hg
    exact List.cons_ne_nil _ _
def stFs (us : List T) (S : List DV) (k : Nat) : LS :=
  ⟨[(3, .sl 1 (us.map e2)), (5, .sl 1 S), (6, .own 16392 k 0 k), (7, .i k)], [(16392, ((ownL k).map ni).map eN)]⟩
set_option maxHeartbeats 8000000 in
theorem fs_loop (us : List T) (hu : us.length ≤ 5) (S : List DV) : ex lf F_laws_FnSortedGroups_W0 (stFs us S 0) = some (.exit 0, stFs us S us.length) := by
  refine loop_count us.length (fun k => stFs us S k) (fun k hk => ?_) ?_ (by simp)
  · have hk' : (k : Int) < us.length := by omega
    have w1 := wr_succ (k := k) (by omega)
    have cb : k + 1 ≤ bound := by unfold bound; omega
    have l2 : (((ownL k).map ni).map eN).length = k := by simp [ownL]
    have e2' : ((ownL (k + 1)).map ni).map eN = ((ownL k).map ni).map eN ++ [.sl 1 [.i (k : Int)]] := by simp [ownL, List.range_succ, ni, eN]
    have lU : (us.map e2).length = us.length := by simp
    have tkU := tk_e2 us
    unfold stFs
    rw [e2']
    generalize us.map e2 = U at *
    generalize ((ownL k).map ni).map eN = B at *
    simp [F_laws_FnSortedGroups_L0, hk, hk', w1, cb, l2, lU, tkU, -Int.natCast_add]
  · simp [stFs, F_laws_FnSortedGroups_L0]
def eQ (o : Int) : DV := .sl 2 [.i o]
theorem nR2_own : ∀ {Q : List Int}, (∀ o ∈ Q, 0 ≤ o) → nR2 (Q.map fun o => [o.toNat]) = Q.map eQ
  | [], _ => rfl
  | o :: r, h => by
    have ih := nR2_own (Q := r) fun x hx => h x (List.mem_cons_of_mem _ hx)
    have o0 := h o List.mem_cons_self
    have e : ((o.toNat : Nat) : Int) = o := by omega
    unfold nR2 at *
    rw [List.map_cons, List.map_cons, List.map_cons, ih]
    simp [e2R, ni, eQ, e]
def stF1 (us : List T) (S : List DV) (Q : List Int) (k : Nat) : LS :=
  ⟨[(3, .sl 1 (us.map e2)), (5, .sl 1 S), (8, .own 23560 Q.length 0 Q.length), (9, .own 24072 k 0 k), (10, .i k)], [(23560, Q.map eQ), (24072, (Q.take k).map .i)]⟩
set_option maxHeartbeats 8000000 in
theorem f1_loop (us : List T) (S : List DV) {Q : List Int} (hQ : Q.length ≤ 5) : ex lf F_laws_FnSortedGroups_W1 (stF1 us S Q 0) = some (.exit 2, stF1 us S Q Q.length) := by
  refine loop_count Q.length (fun k => stF1 us S Q k) (fun k hk => ?_) ?_ (by simp)
  · have hk' : (k : Int) < Q.length := by omega
    obtain ⟨o, ho⟩ : ∃ o, Q[k]? = some o := ⟨_, List.getElem?_eq_getElem hk⟩
    have w1 := wr_succ (k := k) (by omega)
    have cb : k + 1 ≤ bound := by unfold bound; omega
    have lQ : (Q.map eQ).length = Q.length := by simp
    have a2 : atN (Q.map eQ) k = some (.sl 2 [.i o]) := by
      show (Q.map eQ)[k]? = _
      rw [List.getElem?_map, ho]; rfl
    have l2 : ((Q.take k).map DV.i).length = k := by simp; omega
    have e2' : (Q.take (k + 1)).map DV.i = (Q.take k).map .i ++ [.i o] := by
      rw [List.take_add_one, ho, Option.toList_some, List.map_append]; rfl
    have tk : List.take k ((Q.take k).map DV.i) = (Q.take k).map .i := List.take_of_length_le (by omega)
    have q0 : atI [DV.i o] 0 = some (.i o) := rfl
    unfold stF1
    rw [e2']
    generalize us.map e2 = U at *
    generalize Q.map eQ = M at *
    generalize (Q.take k).map DV.i = B at *
    simp [F_laws_FnSortedGroups_L1, hk, hk', w1, cb, l2, lQ, a2, q0, tk, -Int.natCast_add]
  · have lQ : (Q.map eQ).length = Q.length := by simp
    simp [stF1, F_laws_FnSortedGroups_L1]
set_option maxHeartbeats 16000000 in
theorem law_FnSortedGroups (x : List Nat) (_ : x.length ≤ Go.maxLen) (hb : ∀ y ∈ x, y < 256) : call lf n_laws_FnSortedGroups [bys x] = some (.b true, []) := by
  show call lf n_laws_FnSortedGroups [.sl 0 (x.map .y)] = _
  rw [call_k lf n_laws_FnSortedGroups _ (F := F_laws_FnSortedGroups) rfl rfl]
  by_cases hl : 1048576 < (x.length : Int)
  · simp (config := { maxSteps := 2000000 }) [F_laws_FnSortedGroups, hl]
  · obtain ⟨us, R, u1, r1, r2, d⟩ := c_DrawSortedGroups hb (by omega)
    have C1 := c_impl_SortedGroups us R (by omega) (by omega)
    have C2 := c_spec_SortedGroups us R (by omega) (by omega) (by omega)
    have lb1 : us.length ≤ bound := by unfold bound; omega
    have lb2 : R.length ≤ bound := by unfold bound; omega
    have tk1 := tk_e2 us
    have tk2 : List.take R.length (R.map eN) = R.map eN := List.take_of_length_le (by simp)
    cases h : (tsOk us && gokB us.length R) with
    | false =>
      have e : sgL us R = [] := by unfold sgL; rw [h]; rfl
      rw [e] at C1 C2
      have SR := c_sameRows_self [] (by simp) (fun r hr => by cases hr)
      have z1 : nR2 [] = [] := rfl
      have z2 : nR [] = [] := rfl
      rw [z1] at C1
      rw [z2] at C2
      simp only [List.map_nil] at SR
      simp (config := { maxSteps := 2000000 }) [F_laws_FnSortedGroups, hl, d, C1, C2, SR, lb1, lb2, tk1, tk2, c_alive]
    | true =>
      obtain ⟨N, rfl, G, h1, h2, e, _⟩ := sgL_of h
      have h' := tsOk_iff.1 h1
      rw [e] at C1 C2
      have GS := sG_gok (us := us) G
      have lS := rows_le GS
      have SR := c_sameRows_self ((sG us N).map ni) (by simp; omega) (fun r hr => by
        obtain ⟨g, hg, rfl⟩ := List.mem_map.1 hr
        have := row_le GS hg
        rw [ni_len]; omega)
      have ne := gok_ne (by omega) GS
      have nz : ¬ (((sG us N).length : Int) = 0) := by have := List.length_pos_iff.2 ne; omega
      have nz' : ¬ ((sG us N).length = 0) := by have := List.length_pos_iff.2 ne; omega
      have z0 : (((sG us N).length : Int) == 0) = false := beq_false_of_ne nz
      have L0 := fs_loop us u1 (nR2 (sG us N))
      have lQ : (rO us 0 us.length).length = us.length := rO_len us 0 us.length
      have Qnn : ∀ o ∈ rO us 0 us.length, 0 ≤ o := fun o ho => by have := rO_mem ho; omega
      have L1 := f1_loop us (nR2 (sG us N)) (Q := rO us 0 us.length) (by omega)
      rw [lQ] at L1
      have GO := ownL_gok us.length
      have go := gok_to (by omega) GO
      have C3 := c_impl_SortedGroups us ((ownL us.length).map ni) (by omega) (by simp [ownL]; omega)
      have e3 : sgL us ((ownL us.length).map ni) = (rO us 0 us.length).map fun o => [o.toNat] := by
        unfold sgL
        rw [h1, go, toNat_ni]
        exact sG_own us us.length
      rw [e3, nR2_own Qnn] at C3
      have C4 := c_impl_GroupsOk us.length ((sG us N).map ni) (by simp; omega)
      have gs := gok_to (by omega) GS
      rw [gs] at C4
      have C5 := c_impl_SortedGroups us ((sG us N).map ni) (by omega) (by simp; omega)
      have e5 : sgL us ((sG us N).map ni) = sG us N := by
        unfold sgL
        rw [h1, gs, toNat_ni]
        exact sG_sG h'.2 G.lt
      rw [e5] at C5
      have C6 := c_impl_RatioOrder us 0 (by omega)
      have e6 : roL us 0 = rO us 0 us.length := by unfold roL; rw [h1]; rfl
      rw [e6] at C6
      have SI := c_sameInts_e (rO us 0 us.length) (by omega)
      have lN2 := lend_nR2 (sG us N)
      have lN1 := lend_nR (sG us N)
      have nn2 := nR2_len (sG us N)
      have nn1 := nR_len (sG us N)
      have a2 := fun b => adopt_nR2 b (sG us N)
      have a1 : ∀ b, adoptL b (nR (sG us N)) = nR (sG us N) := fun b => adopt_eN b _
      have cw2 := nR2_cells (sG us N)
      have cw1 := nR_cells (sG us N)
      have tkS : List.take (sG us N).length (nR2 (sG us N)) = nR2 (sG us N) := List.take_of_length_le (by omega)
      have tkS1 : List.take (sG us N).length (nR (sG us N)) = nR (sG us N) := List.take_of_length_le (by omega)
      have lO : (((ownL us.length).map ni).map eN).length = us.length := by simp [ownL]
      have lO2 : lendL (((ownL us.length).map ni).map eN) = ((ownL us.length).map ni).map eR := lend_eN _
      have tkO : List.take us.length (((ownL us.length).map ni).map eN) = ((ownL us.length).map ni).map eN := List.take_of_length_le (by omega)
      have lK : ((rO us 0 us.length).map eQ).length = us.length := by simp [lQ]
      have aK : ∀ b, adoptL b ((rO us 0 us.length).map eQ) = (rO us 0 us.length).map eQ := fun b => by
        rw [adoptL_map, List.map_map]
        apply List.map_congr_left
        intro r _
        simp [eQ, DV.adopt, adoptP]
      have cK : ∀ x ∈ (rO us 0 us.length).map eQ, x.cells.length = 1 := fun x hx => by
        obtain ⟨o, _, rfl⟩ := List.mem_map.1 hx; rfl
      have tkI : List.take us.length ((rO us 0 us.length).map DV.i) = (rO us 0 us.length).map .i := List.take_of_length_le (by simp [lQ])
      have lI : ((rO us 0 us.length).map DV.i).length = us.length := by simp [lQ]
      have aI : ∀ b, adoptL b ((rO us 0 us.length).map DV.i) = (rO us 0 us.length).map .i := fun b => by simp
      have eI : lendL ((rO us 0 us.length).map DV.i) = (rO us 0 us.length).map .i := by simp
      have zz : ((ownL 0).map ni).map eN = [] := rfl
      unfold stFs at L0
      unfold stF1 at L1
      rw [lQ] at L1
      have tQ : (rO us 0 us.length).take us.length = rO us 0 us.length := List.take_of_length_le (by omega)
      rw [zz] at L0
      rw [List.take_zero, List.map_nil, tQ] at L1
      simp only [Int.natCast_zero] at L0 L1
      have lA : (N.map ni).length = N.length := by simp
      rw [lA] at lb2 tk2
      generalize ((ownL us.length).map ni).map eN = O1 at *
      generalize ((ownL us.length).map ni).map eR = O2 at *
      generalize (rO us 0 us.length).map eQ = K1 at *
      generalize (rO us 0 us.length).map DV.i = K2 at *
      generalize ((sG us N).map ni).map eR = S0 at *
      generalize nR2 (sG us N) = S2 at *
      generalize nR (sG us N) = S1 at *
      generalize (sG us N).length = n at *
      generalize N.map ni = A at *
      simp (config := { maxSteps := 2000000 }) [F_laws_FnSortedGroups, hl, d, C1, C2, C3, C4, C5, C6, SR, SI, L0, L1, lb1, lb2, tk1, tk2, lA, z0, nz, nz', lN1, lN2, nn1, nn2, a1, a2, if_pos cw2, if_pos cw1, if_pos cK, tkS, tkS1, lO, lO2, tkO, lK, aK, tkI, lI, aI, eI, c_alive]
end
end Zz
