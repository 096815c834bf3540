/- What the functions answer, as equations: EB. No conditions. -/
import Derived.Test.YtldepejkagfdmaaEAzd
set_option linter.unusedSectionVars false
set_option linter.unusedVariables false
set_option linter.unusedSimpArgs false
namespace Zz
open Go.Lg Md
set_option linter.unusedSimpArgs false
set_option linter.unusedVariables false
attribute [local simp] tm_mv tm_newnil tm_pick tm_bin tm_eqb tm_eqs tm_un tm_len tm_lens tm_chk tm_fld tm_fldv tm_idxa tm_idx tm_load tm_store tm_slice tm_slices tm_make tm_alloc tm_box tm_build tm_app tm_conv tm_ext tm_call tm_calld tm_mkfn tm_mm tm_idxp tm_eqn tm_callg tm_callm tm_bslice0 tm_bslice1 tm_bslice2 tm_bslice cw_nil cw_cons cd_none cd_some ec_nil ec_cons es_nil es_one es_more nn_nil nn_cons ns_nil ns_cons si_nil si_cons sk_t stod_oad stod_own stod_adr stod_dead ml_nil ml_cons nt_nil nt_cons nc_nil' nc_cons sa_mkfn cv_adr cv_i cv_y cv_b cv_w sa_calld nm_def nh_nil nh_cons nxM_some nxM_none sc_st sd_i sd_y sd_b sd_s sd_w sd_q sc_i sc_y sc_b sc_s sc_w sc_q sa_bslice sa_app nc_own nc_nil sa_call sa_alloc sa_build sa_callm rm_nil rm_one rm_gen bq_mul bq_eql ia_mv ia_newnil ia_pick ia_bin ia_eqb ia_eqs ia_un ia_len ia_lens ia_chk ia_fld ia_fldv ia_idxa ia_idx ia_load ia_store ia_slice ia_slices ia_make ia_alloc ia_box ia_build ia_bslice ia_app ia_b2i ia_i2b ia_i2i ia_same ia_b2s ia_s2b ia_ext ia_mm ia_idxp ia_calld ia_mkfn ia_i2r ia_r2s ia_call pt_nil pt_cons mi_nil mi_cons md_bslice md_mv md_newnil md_pick md_bin md_eqb md_un md_len md_lens md_fld md_fldv md_idxa md_idx md_load md_store md_slice md_slices md_make md_alloc md_box md_build md_app md_conv md_ext md_call md_calld md_callg md_mkfn md_mm md_idxp md_eqn md_eqs md_chk tg_bslice tg_mv tg_newnil tg_pick tg_bin tg_eqb tg_un tg_len tg_lens tg_fld tg_fldv tg_idxa tg_idx tg_load tg_store tg_slice tg_slices tg_make tg_alloc tg_box tg_build tg_app tg_conv tg_ext tg_call tg_calld tg_callg tg_mkfn tg_mm tg_idxp tg_eqn tg_eqs tg_chk rp_eq ro_eq ifP_t ifP_f np_def ng1_nil ng2_nil ng_gate ng_gen tgA_t tgA_0 tgA_1 tgA_2 aC_nil aC_c aC_t nxP_some nxP_none rq_nil rq_gen rq_gate nxR_some nxR_none ru_nil ru_gen ru_gate pl_none pl_some gt_nil gt_t gt_c di_some di_none an_nil an_cons nxG_some nxG_none rg_nil rg_gen rg_gate oldO_some oa_nil oa_i oa_y oa_b oa_s oa_st oa_sl oa_own oa_oad oa_nl al_nil al_cons al_i al_y al_b al_s al_st al_sl nxF_some nxF_none rf_nil rf_gen rf_gate hk_newnil hk_make hk_alloc hk_box hk_build hk_bslice hk_call hk_store hk_app hk_appn em_cel mm_cel ok_cel ov_cel so_cel il_cel oi_cel oj_cel ol_cel nm_cel hk_appc ef_bslice5 ef_app_cel ks_shut shu_own shc_none shc_cel cl_nil cl_cons ai_nil ai_cons il_i il_y il_b il_s il_st il_sl il_own il_adr il_oad il_ref il_fr il_tup il_nil il_np il_und il_dead ol_adr ol_b ol_dead ol_e ol_fn ol_fr ol_i ol_nil ol_np ol_oad ol_own ol_q ol_r ol_ref ol_s ol_sl ol_st ol_tup ol_und ol_w ol_y oj_e oj_i oj_y oj_b oj_s oj_st oj_sl oj_own oj_adr oj_oad oj_ref oj_fr oj_tup oj_nil oj_np oj_und oj_dead oj_w oj_q oj_r oj_fn oi_e oi_i oi_y oi_b oi_s oi_st oi_sl oi_own oi_adr oi_oad oi_ref oi_fr oi_tup oi_nil oi_np oi_und oi_dead as_nil as_cons ao_nil ao_cons av_i av_y av_b av_s av_st av_sl av_own av_adr av_oad av_ref av_fr av_tup av_nil av_np av_und av_dead pro_cons ghK_some ks_promote ks_freeze frz_own ks_rename ren_own dropO adoptP newP wholeP cutP allOldL ex_skip ex_ret ex_exit ks_region ks_seq ks_cond ks_block seqK_n seqK_e seqK_r regK_some condK_t condK_f blkK_n blkK_r blkK_e endK_n endK_r rr_false rr_true rd_free mo_nil mo_cons drK_some drK_none nxW_some nxW_none rw_nil rw_gen rw_gate ak_newnil ak_make ak_alloc ak_box ak_build ak_bslice ak_call ak_store ak_app iw_mm iw_eqn iw_idxp ef_callg cgK_some gv_e gv_own gv_i gv_sl gv_st gv_b gv_nil gvK_some gvO_some iw_callg ia_callg ak_callg hk_callg is_mv is_newnil is_pick is_bin is_eqb is_eqs is_un is_len is_lens is_chk is_fld is_fldv is_idxa is_idx is_load is_slice is_slices is_make is_alloc is_box is_build is_bslice is_app is_conv is_ext is_call is_calld is_callg is_mkfn is_mm is_idxp is_eqn is_store rt_nil rt_gen rt_gate nxT_some nxT_none ef_eqn_nil ef_eqn_sl ef_eqn_own ia_eqn ef_mmx ef_mmn ef_idxp nxD_some nxD_none ov_i ov_y ov_b ov_s ov_st ov_sl ov_own ov_oad ov_adr ov_nil ov_np ov_und ov_dead ov_tup oldN_some oldN_nil oldN_none so_none so_tup DV.noM so_i so_y so_b so_s so_st so_sl so_adr so_nil so_np so_und so_dead anyM_nil anyM_t anyM_c so_own so_oad rd_nil rd_gen rd_mv rd_gate iw_mv iw_newnil iw_pick iw_bin iw_eqb iw_eqs iw_un iw_len iw_lens iw_chk iw_fld iw_fldv iw_idxa iw_idx iw_load iw_store iw_slice iw_slices iw_make iw_alloc iw_box iw_build iw_bslice iw_app iw_b2i iw_i2b iw_i2i iw_same iw_b2s iw_s2b iw_ext iw_call nm_i nm_y nm_b nm_s nm_st nm_sl nm_own nm_oad nm_adr nm_nil nm_np nm_und nm_dead nm_tup rl_nil rl_gate rl_mv rl_gen opv_t opv_c nx_some nx_none gate_tt gate_tf gate_ft gate_ff gate_u fr_ap em_nil em_i em_y em_b em_s em_st em_sl em_own em_adr em_oad em_ref em_nl em_np em_und em_dead em_tup0 em_tup_i em_tup_b em_tup_s em_tup_sl em_tup_st em_tup_np em_tup_own em_tup_oad mm_i mm_y mm_b mm_s mm_st mm_sl mm_own mm_oad mm_adr mm_nil mm_np mm_und mm_dead ef_mv ef_newnil ef_pickt ef_pickf ef_bin ef_eqb ef_eqs ef_un ef_lens ef_len_sl ef_len_own ef_len_nil ef_chk_adr ef_chk_oad ef_fld_adr ef_fld_oad ef_fldv idxR_some ef_idxa_sl ef_idxa_own ef_idx ef_load_adr_st ef_load_adr_i ef_load_adr_y ef_load_adr_b ef_load_adr_s ef_load_adr_sl atN_nil atN_zero atN_succ ef_load_oad ef_store ef_slice ef_slices ef_make ef_alloc ef_box ef_build ef_bslice ef_app_own ef_app_nil ef_b2i ef_i2b ef_i2i ef_same ef_ext ret1 ret2_some calL_some ef_call retC_i retC_y retC_b retC_s retC_st retC_sl retC_np retC_fr retC_ref retC_tup rk_nil rk_i rk_y rk_b rk_s rk_st rk_sl rk_own rk_oad rk_nl ok_nil ok_i ok_y ok_b ok_s ok_st ok_sl ok_own ok_oad ok_nl lo_nil lo_i lo_y lo_b lo_s lo_st lo_sl lo_own lo_oad lo_nl pr_nil pr_i pr_y pr_b pr_s pr_st pr_sl pr_own pr_nl pr_oad nr_i nr_y nr_b nr_s nr_st nr_sl nr_fr nr_np nr_tup ng_i ng_b ng_s ng_fr ng_nil resV effP_eff binD bi_add bi_sub bi_mul bi_quo bi_rem bi_eql bi_neq bi_lss bi_leq bi_gtr bi_geq bi_shl bi_shr bi_and bi_or bi_xor bi_andNot binY binS unD look put putD LS.get LS.drop killE sweep lookO putO dropO enter leave giveBackL giveBack outs lendArgs lendArg newOuts takeIn takeInL lendL DV.lend adoptL DV.adopt elems apartKs part DV.cells unpart settle settleL over mkId szId fillP fillE tk_e2 tk_i tk_y lt_e2 lt_i lt_y lend_rep al_e2 al_is al_ys al_rep al_app lend_app adopt_app new_app lend_e2 lend_i lend_y adopt_e2 adopt_i adopt_y new_e2 new_i allNewL DV.allNew bounds sliceD sliceS em_w em_q em_r em_fn em_tup_w em_tup_q em_tup_r mm_w mm_q mm_r mm_fn ef_load_adr_w ef_load_adr_q ef_load_adr_r retC_w retC_q retC_r rk_w rk_q rk_r rk_fn ok_w ok_q ok_r ok_fn lo_w lo_q lo_r lo_fn pr_w pr_q pr_r pr_fn nr_w nr_q nr_r ng_w ng_q ng_r oa_w oa_q oa_r oa_fn al_w al_q al_r al_fn ov_w ov_q ov_r ov_fn so_w so_q so_r so_fn il_w il_q il_r il_fn oi_w oi_q oi_r oi_fn av_w av_q av_r av_fn nm_w nm_q nm_r nm_fn ef_i2r ef_r2s ef_mkfn ef_mkbd ef_idxp_adr ef_idxp_q ef_calld_nil ef_calld_adr ef_calld_bd DV.capB capsOk DV.cell List.all_cons List.all_nil rk_own_t lo_own_t lk_f lk_t pr_own_t mutB ak_calld hk_calld iw_calld iw_mkfn iw_i2r iw_r2s bw_and bw_or bw_xor bw_andNot bw_eql bw_neq sw_shl sw_shr sq_shl gEnv_nil rk_adr ok_adr lo_adr pr_adr oa_adr capL capArg DV.cap ak_mkfn hk_mkfn hk_mkbd ef_callm gf_ap ga_nil ga_cons tgv_own gk_e gk_giv gk_i gk_y gk_b gk_s gk_w gk_q gk_r gk_fn gk_st gk_sl gk_own gk_oad gk_adr gk_nl gk_np rk_giv ok_giv lo_giv pr_giv oa_giv iw_callm hk_callm ak_callm is_callm ia_callm tg_callm md_callm ef_i2q ef_q2i ef_q2q iw_i2q iw_q2i iw_q2q ia_i2q ia_q2i ia_q2q bq_and bq_add bq_shr sq_shr tgv_nil gk_ref rk_ref ok_ref lo_ref pr_ref oa_ref retC_fn nr_fn ef_load_adr_fn ks_close cls_oad
attribute [local congr] nxM_congr ifP_congr nxP_congr nxR_congr nxT_congr nxG_congr nxF_congr ghK_congr gate_congr nx_congr nxD_congr runL_congr runD_congr eff_congr calL_congr ret2_congr seqK_congr regK_congr condK_congr endK_congr drK_congr nxW_congr
attribute [local simp ↓] nxM_some rm_nil rm_one rm_gen nxT_some rt_nil rt_gen rt_gate nxP_some rq_nil rq_gen rq_gate nxR_some ru_nil ru_gen ru_gate nxG_some rg_nil rg_gen rg_gate nxF_some rf_nil rf_gen rf_gate ks_promote ks_freeze frz_own ks_rename ghK_some gate_tt gate_tf gate_ft gate_ff gate_u nx_some nxD_some rl_nil rl_mv rl_gen rl_gate rd_nil rd_mv rd_gen rd_gate rd_free rr_false rr_true drK_some drK_none nxW_some rw_nil rw_gen rw_gate ks_region ks_seq ks_cond ks_block seqK_n seqK_e seqK_r regK_some condK_t condK_f blkK_n blkK_r endK_n endK_r calL_some ret2_some opv_t opv_c
section
attribute [-simp] DV.cells
attribute [local simp] sliceD cells_st cells_sl cells_i cells_y cells_b cells_s cells_w
attribute [local simp] lend_eR al_eR
theorem c9_snoc (us : List T) (p : List Nat) (a : Nat) : c9 us (p ++ [a]) = 6 * (c9 us p + cA us a * gS (p.map (itC us))) ∧ gS ((p ++ [a]).map (itC us)) = gS (p.map (itC us)) * pA us a := by
  unfold c9
  rw [List.map_append, gD_app, gS_app]
  have e1 : gM ([a].map (itC us)) = 6 := by simp [gM, itC]
  have e2 : gD ([a].map (itC us)) = 6 * cA us a := by simp [gD, gM, itC]
  have e3 : gS ([a].map (itC us)) = pA us a := by simp [gS, itC]; omega
  rw [e1, e2, e3]
  refine ⟨?_, rfl⟩
  grind
theorem gS_le {us : List T} (h : us.all tOk = true) {p : List Nat} (h5 : p.length ≤ 5) (hp : ∀ k ∈ p, k < us.length) : 0 ≤ gS (p.map (itC us)) ∧ gS (p.map (itC us)) ≤ 7776 := by
  have b := gS_bd (itC_ok h hp)
  have q := p6 (n := p.length) h5
  rw [itC_M] at b
  omega
def stRp (us : List T) (g : List Nat) (sum on : Int) (k : Nat) : LS := ⟨[(0, .sl 0 (us.map e2)), (1, .sl 0 ((ni g).map .i)), (4, .oad 2064 1 0 0), (5, .i sum), (6, .i on), (9, .sl 0 ((ni g).map .i)), (10, .i g.length), (11, .i k)], [(2064, [.st [.i 0, .i 0]])]⟩
set_option maxHeartbeats 4000000 in
theorem part_loop {us : List T} (h : us.all tOk = true) (g : List Nat) (h5 : g.length ≤ 5) (hg : ∀ k ∈ g, k < us.length) : ∀ (rest don : List Nat), g = don ++ rest →
    ex lf F_impl_ratioOfPart_W0 (stRp us g (c9 us don) (gS (don.map (itC us))) don.length) = some (.exit 0, stRp us g (c9 us g) (gS (g.map (itC us))) g.length) := by
  intro rest
  induction rest with
  | nil =>
    intro don e
    rw [List.append_nil] at e
    subst e
    rw [w_impl_ratioOfPart_0]
    simp [stRp, F_impl_ratioOfPart_L0]
  | cons a rest ih0 =>
    intro don e
    have I := ih0 (don ++ [a]) (by rw [e]; simp)
    have gl : g.length = don.length + (rest.length + 1) := by rw [e]; simp
    have k2 : g[don.length]? = some a := by rw [e]; simp
    have ha : a < us.length := hg a (List.mem_of_getElem? k2)
    obtain ⟨at1, _⟩ := at_ni k2
    have at2 := atT ha
    have cb := cA_bd h ha
    have pb := pA_bd h ha
    have dm : ∀ k ∈ don, k < us.length := fun k hk => hg k (by rw [e]; simp [hk])
    have d5 : don.length ≤ 5 := by omega
    have b1 := (c9_le h d5 dm).1
    have b2 := gS_le h d5 dm
    obtain ⟨s1, s2⟩ := c9_snoc us don a
    have b3 := (c9_le h (l := don ++ [a]) (by simp; omega) (fun k hk => by
      rcases List.mem_append.1 hk with q | q
      · exact dm k q
      · rw [List.mem_singleton.1 q]; exact ha)).1
    have b4 := gS_le h (p := don ++ [a]) (by simp; omega) (fun k hk => by
      rcases List.mem_append.1 hk with q | q
      · exact dm k q
      · rw [List.mem_singleton.1 q]; exact ha)
    rw [s1] at b3 I
    rw [s2] at b4 I
    rw [List.length_append, List.length_singleton] at I
    have hk : (don.length : Int) < g.length := by omega
    have hk' : don.length < g.length := by omega
    have nl := ni_len g
    have w7 := wr_succ (k := don.length) (by omega)
    rw [w_impl_ratioOfPart_0]
    unfold stRp at *
    generalize c9 us g = Z at *
    generalize gS (g.map (itC us)) = Y at *
    generalize c9 us don = S at *
    generalize gS (don.map (itC us)) = R at *
    generalize cA us a = c at *
    generalize pA us a = q at *
    generalize don.length = n at *
    have m1 : 0 ≤ c * R ∧ c * R ≤ 9 * 7776 := ⟨Int.mul_nonneg (by omega) b2.1, Int.mul_le_mul (by omega) (by omega) b2.1 (by omega)⟩
    have w2 : wr (c * R) = c * R := wr_id (by omega) (by omega)
    have w3 : wr (S + c * R) = S + c * R := wr_id (by omega) (by omega)
    have w4 : wr (6 * (S + c * R)) = 6 * (S + c * R) := wr_id (by omega) (by omega)
    have w5 : wr (R * q) = R * q := wr_id (by omega) (by omega)
    simp [F_impl_ratioOfPart_L0, hk, hk', nl, at1, at2, ha, w2, w3, w4, w5, w7, I, -Int.natCast_add]
set_option maxHeartbeats 1000000 in
theorem c_ratioOfPart {us : List T} (h : tsOk us = true) {g : List Nat} (h5 : g.length ≤ 5) (hg : ∀ k ∈ g, k < us.length) :
    call lf n_impl_ratioOfPart [.sl 0 (us.map e2), .sl 0 ((ni g).map .i)] = some (.st [.i (c9 us g), .i (e9 us g)], []) := by
  rw [call_k lf n_impl_ratioOfPart _ (F := F_impl_ratioOfPart) rfl rfl]
  have h' := tsOk_iff.1 h
  have I := part_loop h'.2 g h5 hg g [] rfl
  have W := c_impl_wholeOf (n := g.length) h5
  have b := gS_le h'.2 h5 hg
  have pk := p6 (n := g.length) h5
  have e0 : c9 us [] = 0 := rfl
  have e1 : gS (([] : List Nat).map (itC us)) = 1 := rfl
  rw [e0, e1] at I
  rw [e9_eq]
  have nl := ni_len g
  unfold stRp at I
  simp only [List.length_nil, Int.natCast_zero] at I
  generalize gS (g.map (itC us)) = S at *
  generalize c9 us g = D at *
  generalize (6 : Int) ^ g.length = P at *
  have w : wr (P - S) = P - S := wr_id (by omega) (by omega)
  simp [F_impl_ratioOfPart, I, W, nl, w]
end
section
attribute [-simp] DV.cells
attribute [local simp] sliceD cells_st cells_sl cells_i cells_y cells_b cells_s cells_w
attribute [local simp] lend_eR al_eR
def eP (p : Nat) (row : List Int) : DV := .sl p (row.map .i)
theorem eP_zero : eP 0 = eR := rfl
theorem lend_eP (p : Nat) (L : List (List Int)) : lendL (L.map (eP p)) = L.map eR := by
  rw [lendL_map, List.map_map]
  apply List.map_congr_left
  intro r _
  simp [eP, eR, DV.lend]
theorem adopt_eRP (o : Bool) (L : List (List Int)) : adoptL o (L.map eR) = L.map (eP (adoptP o 0)) := by
  rw [adoptL_map, List.map_map]
  apply List.map_congr_left
  intro r _
  simp [eP, eR, DV.adopt]
theorem at_eP {A : List (List Int)} {k : Nat} {r : List Int} (p : Nat) (h : A[k]? = some r) : atI (A.map (eP p)) (k : Int) = some (.sl p (r.map .i)) := by
  simp only [atI, if_pos (Int.natCast_nonneg k)]
  show (A.map (eP p))[(k : Int).toNat]? = _
  rw [Int.toNat_natCast, List.getElem?_map, h]; rfl
theorem cells_eR {L : List (List Int)} : ∀ e ∈ L.map eR, e.cells.length = 1 := fun e he => by
  obtain ⟨r, _, rfl⟩ := List.mem_map.1 he
  rfl
theorem c_cloneR {L : List (List Int)} (hb : L.length ≤ 1000) (hn : L ≠ []) : call lf n_slices_Clone_int_int [.sl 0 (L.map eR)] = some (.fr 1 (L.map eR), []) := by
  rw [call_k lf n_slices_Clone_int_int _ (F := F_slices_Clone_int_int) rfl rfl]
  have bd : L.length ≤ bound := by unfold bound; omega
  have w := cells_eR (L := L)
  have e : (L.map eR).length = L.length := by simp
  have hn' : L.map eR ≠ [] := by simpa using hn
  generalize L.map eR = M at *
  rw [← e] at bd
  simp [F_slices_Clone_int_int, bd, if_pos w, hn']

theorem set_eR (L : LN) (a b : Nat) (ha : a < L.length) : ((L.map ni).map eR).set a (.sl 0 (List.drop b ((ni L[a]).map .i))) = ((L.set a ((L.getD a []).drop b)).map ni).map eR := by
  have e : L.getD a [] = L[a] := by rw [List.getD_eq_getElem?_getD, List.getElem?_eq_getElem ha]; rfl
  rw [e, List.map_set, List.map_set]
  congr 1
  simp [eR, ni, List.map_drop]
set_option maxHeartbeats 1000000 in
theorem c_behindPart {L : LN} (hL : L.length ≤ 5) {a b : Nat} (ha : a < L.length) (hb : b ≤ (L.getD a []).length) (h5 : (L.getD a []).length ≤ 5) :
    call lf n_impl_behindPart [.sl 0 ((L.map ni).map eR), .st [.i a, .i b]] = some (.sl 1 (((L.set a ((L.getD a []).drop b)).map ni).map eR), []) := by
  rw [call_k lf n_impl_behindPart _ (F := F_impl_behindPart) rfl rfl]
  have e : L.getD a [] = L[a] := by rw [List.getD_eq_getElem?_getD, List.getElem?_eq_getElem ha]; rfl
  have C := c_cloneR (L := L.map ni) (by simp; omega) (fun q => by rw [List.map_eq_nil_iff] at q; subst q; simp at ha)
  have A := at_C ha
  have An : atN ((L.map ni).map eR) a = some (.sl 0 ((ni L[a]).map .i)) := by
    simp only [atI, if_pos (Int.natCast_nonneg a), Int.toNat_natCast] at A
    exact A
  have S := set_eR L a b ha
  have ll : ((L.map ni).map eR).length = L.length := by simp
  have ha' : (a : Int) < L.length := by omega
  have nl := ni_len L[a]
  rw [e] at hb h5 S ⊢
  have ao := adopt_eRP true (L.map ni)
  have ap : adoptP true 0 = 0 := rfl
  rw [ap, eP_zero] at ao
  have w := cells_eR (L := L.map ni)
  generalize L[a] = c at *
  have lM : (((L.set a (c.drop b)).map ni).map eR).length = L.length := by simp
  have tk : List.take c.length ((ni c).map DV.i) = (ni c).map .i := List.take_of_length_le (by simp [nl])
  generalize (((L.set a (c.drop b)).map ni).map eR) = M' at *
  have tM : List.take L.length M' = M' := List.take_of_length_le (by omega)
  have aL := al_eR (L.map ni)
  have le := lend_eR (L.map ni)
  generalize (L.map ni).map eR = M at *
  simp [F_impl_behindPart, C, A, An, S, tk, tM, lM, ll, ha, ha', nl, hb, ao, w, aL, le]
def s5 : Option (Nat × Nat) → DV
  | none => .st [.i 0, .i 0]
  | some (a, b) => .st [.i (a : Nat), .i (b : Nat)]
def s6 (us : List T) (L : LN) : Option (Nat × Nat) → DV
  | none => .st [.i 0, .i 0]
  | some (a, b) => .st [.i (c9 us (fp L a b)), .i (e9 us (fp L a b))]
def s1 (st : Option (Nat × Nat)) : Prop := ∀ a b, st = some (a, b) → 1 ≤ b
theorem s1_cnd {us : List T} {L : LN} {st : Option (Nat × Nat)} (h : s1 st) (k n : Nat) : s1 (cnd us L st k (n + 1)) := by
  cases st with
  | none => intro a b e; simp only [cnd, Option.some.injEq, Prod.mk.injEq] at e; omega
  | some p =>
    obtain ⟨x, y⟩ := p
    intro a b e
    simp only [cnd] at e
    split at e
    · simp only [Option.some.injEq, Prod.mk.injEq] at e; omega
    · exact h a b e
theorem s1_cndN {us : List T} {L : LN} {st : Option (Nat × Nat)} (h : s1 st) (k : Nat) : ∀ n, s1 (cndN us L k st n)
  | 0 => h
  | n + 1 => s1_cnd (s1_cndN h k n) k n
theorem s1_cndI (us : List T) (L : LN) : ∀ n, s1 (cndI us L n)
  | 0 => fun a b e => by cases e
  | n + 1 => s1_cndN (s1_cndI us L n) n _
def stW1 (us : List T) (L : LN) (st : Option (Nat × Nat)) (k : Nat) (c : List Nat) (n : Nat) : LS :=
  ⟨[(0, .sl 0 (us.map e2)), (4, .oad 2064 1 0 0), (5, .oad 2576 1 0 0), (6, .oad 3088 1 0 0), (7, .i k), (8, .sl 0 ((ni c).map .i)), (9, .i n), (11, .sl 0 ((L.map ni).map eR)), (12, .i L.length), (13, .i k)], [(2064, [.st [.i 0, .i 0]]), (2576, [s5 st]), (3088, [s6 us L st])]⟩
def stW0 (us : List T) (L : LN) (st : Option (Nat × Nat)) (k : Nat) : LS :=
  ⟨[(0, .sl 0 (us.map e2)), (4, .oad 2064 1 0 0), (5, .oad 2576 1 0 0), (6, .oad 3088 1 0 0), (11, .sl 0 ((L.map ni).map eR)), (12, .i L.length), (13, .i k)], [(2064, [.st [.i 0, .i 0]]), (2576, [s5 st]), (3088, [s6 us L st])]⟩
set_option maxHeartbeats 4000000 in
theorem lpt_inner {us : List T} (h : tsOk us = true) {L : LN} (hL : LOk us L) {k : Nat} (hk : k < L.length) (h5 : ∀ c ∈ L, c.length ≤ 5) (st : Option (Nat × Nat)) (hs : s1 st) :
    ex lf F_impl_leastPart_W1 (stW1 us L st k (L.getD k []) 1) = some (.exit 2, stW1 us L (cndN us L k st (L.getD k []).length) k (L.getD k []) ((L.getD k []).length + 1)) := by
  have h' := tsOk_iff.1 h
  have e : L.getD k [] = L[k] := by rw [List.getD_eq_getElem?_getD, List.getElem?_eq_getElem hk]; rfl
  have c5 : (L.getD k []).length ≤ 5 := by rw [e]; exact h5 _ (List.getElem_mem hk)
  have nl := ni_len (L.getD k [])
  refine loop_count (lf := lf) (L := F_impl_leastPart_L1) (L.getD k []).length (fun i => stW1 us L (cndN us L k st i) k (L.getD k []) (i + 1)) (fun i hi => ?_) ?_ (by simp)
  · show ex lf F_impl_leastPart_L1 (stW1 us L (cndN us L k st i) k (L.getD k []) (i + 1)) = some (.normal, stW1 us L (cnd us L (cndN us L k st i) k (i + 1)) k (L.getD k []) (i + 2))
    have hs' := s1_cndN (us := us) (L := L) hs k i
    generalize cndN us L k st i = s at *
    have gm : ∀ x ∈ fp L k (i + 1), x < us.length := fun x hx => by
      obtain ⟨c, hc, hxc⟩ := fp_mem hx
      exact hL c hc x hxc
    have g5 : (fp L k (i + 1)).length ≤ 5 := by rw [fp_len]; omega
    have R := c_ratioOfPart h g5 gm
    have B := c9_le h'.2 g5 gm
    have tk : List.take (i + 1) ((ni (L.getD k [])).map DV.i) = (ni (fp L k (i + 1))).map .i := by
      unfold fp ni
      simp
    have w2 := wr_succ (k := i + 1) (by omega)
    have q1 : i + 1 ≤ (L.getD k []).length := by omega
    have q1' : ((i + 1 : Nat) : Int) ≤ (L.getD k []).length := by omega
    cases s with
    | none =>
      have e1 : cnd us L none k (i + 1) = some (k, i + 1) := rfl
      rw [e1]
      unfold stW1
      simp only [s5, s6]
      generalize fp L k (i + 1) = g at *
      generalize L.getD k [] = c at *
      generalize L.map ni = L' at *
      generalize hi1 : i + 1 = i1 at *
      have hi2 : i + 2 = i1 + 1 := by omega
      rw [hi2]
      simp [F_impl_leastPart_L1, nl, w2, q1, q1', tk, R, -Int.natCast_add]
    | some p =>
      obtain ⟨a, b⟩ := p
      have b1 := hs' a b rfl
      have H := fp5 h5 a b
      have am : ∀ x ∈ fp L a b, x < us.length := fun x hx => by
        obtain ⟨c, hc, hxc⟩ := fp_mem hx
        exact hL c hc x hxc
      have B2 := c9_le h'.2 H am
      have e1 : cnd us L (some (a, b)) k (i + 1) = if c9 us (fp L k (i + 1)) * e9 us (fp L a b) < c9 us (fp L a b) * e9 us (fp L k (i + 1)) then some (k, i + 1) else some (a, b) := rfl
      rw [e1]
      have m1 : 0 ≤ c9 us (fp L k (i + 1)) * e9 us (fp L a b) ∧ c9 us (fp L k (i + 1)) * e9 us (fp L a b) ≤ 349920 * 7776 := ⟨Int.mul_nonneg B.1.1 B2.2.1, Int.mul_le_mul B.1.2 B2.2.2 B2.2.1 (by omega)⟩
      have m2 : 0 ≤ c9 us (fp L a b) * e9 us (fp L k (i + 1)) ∧ c9 us (fp L a b) * e9 us (fp L k (i + 1)) ≤ 349920 * 7776 := ⟨Int.mul_nonneg B2.1.1 B.2.1, Int.mul_le_mul B2.1.2 B.2.2 B.2.1 (by omega)⟩
      have I := c_impl_isLessG (c9 us (fp L k (i + 1))) (e9 us (fp L k (i + 1))) (c9 us (fp L a b)) (e9 us (fp L a b)) ⟨m1.1, by omega⟩ ⟨m2.1, by omega⟩
      have nb : ((b : Int) == 0) = false := by simp; omega
      have nb' : ¬ b = 0 := by omega
      by_cases q : c9 us (fp L k (i + 1)) * e9 us (fp L a b) < c9 us (fp L a b) * e9 us (fp L k (i + 1))
      · rw [if_pos q]
        rw [decide_eq_true q] at I
        unfold stW1
        simp only [s5, s6]
        generalize fp L k (i + 1) = g at *
        generalize fp L a b = g2 at *
        generalize L.getD k [] = c at *
        generalize L.map ni = L' at *
        generalize hi1 : i + 1 = i1 at *
        have hi2 : i + 2 = i1 + 1 := by omega
        rw [hi2]
        simp [F_impl_leastPart_L1, nl, w2, q1, q1', tk, R, I, nb, nb', -Int.natCast_add]
      · rw [if_neg q]
        rw [decide_eq_false q] at I
        unfold stW1
        simp only [s5, s6]
        generalize fp L k (i + 1) = g at *
        generalize fp L a b = g2 at *
        generalize L.getD k [] = c at *
        generalize L.map ni = L' at *
        generalize hi1 : i + 1 = i1 at *
        have hi2 : i + 2 = i1 + 1 := by omega
        rw [hi2]
        simp [F_impl_leastPart_L1, nl, w2, q1, q1', tk, R, I, nb, nb', -Int.natCast_add]
  · show ex lf F_impl_leastPart_L1 (stW1 us L (cndN us L k st (L.getD k []).length) k (L.getD k []) ((L.getD k []).length + 1)) = _
    generalize cndN us L k st (L.getD k []).length = s at *
    have q1 : ¬ ((((L.getD k []).length + 1 : Nat) : Int) ≤ (L.getD k []).length) := by omega
    unfold stW1
    generalize s5 s = v5 at *
    generalize s6 us L s = v6 at *
    generalize hn1 : (L.getD k []).length + 1 = n1 at *
    generalize L.getD k [] = c at *
    generalize L.map ni = L' at *
    simp [F_impl_leastPart_L1, nl, q1, -Int.natCast_add]
set_option maxHeartbeats 1000000 in
theorem lpt_outer {us : List T} (h : tsOk us = true) {L : LN} (hL : LOk us L) (h5 : ∀ c ∈ L, c.length ≤ 5) (ln : L.length ≤ 5) :
    ex lf F_impl_leastPart_W0 (stW0 us L none 0) = some (.exit 0, stW0 us L (cndI us L L.length) L.length) := by
  have ll : (L.map ni).length = L.length := by simp
  refine loop_count (lf := lf) (L := F_impl_leastPart_L0) L.length (fun k => stW0 us L (cndI us L k) k) (fun k hk => ?_) ?_ (by simp)
  · have I := lpt_inner h hL hk h5 (cndI us L k) (s1_cndI us L k)
    have e : cndN us L k (cndI us L k) (L.getD k []).length = cndI us L (k + 1) := rfl
    rw [e] at I
    show ex lf F_impl_leastPart_L0 (stW0 us L (cndI us L k) k) = some (.normal, stW0 us L (cndI us L (k + 1)) (k + 1))
    have hk' : (k : Int) < L.length := by omega
    have A := at_C hk
    have e' : L.getD k [] = L[k] := by rw [List.getD_eq_getElem?_getD, List.getElem?_eq_getElem hk]; rfl
    rw [← e'] at A
    have w1 := wr_succ (k := k) (by omega)
    unfold stW0
    unfold stW1 at I
    generalize s5 (cndI us L (k + 1)) = y5 at *
    generalize s6 us L (cndI us L (k + 1)) = y6 at *
    generalize s5 (cndI us L k) = v5 at *
    generalize s6 us L (cndI us L k) = v6 at *
    generalize (L.getD k []).length + 1 = nn at *
    have e1 : ((1 : Nat) : Int) = 1 := rfl
    rw [e1] at I
    generalize L.getD k [] = c at *
    generalize L.map ni = L' at *
    simp [F_impl_leastPart_L0, A, ll, hk, hk', w1, I, -Int.natCast_add]
  · show ex lf F_impl_leastPart_L0 (stW0 us L (cndI us L L.length) L.length) = _
    unfold stW0
    generalize s5 (cndI us L L.length) = v5 at *
    generalize s6 us L (cndI us L L.length) = v6 at *
    generalize L.map ni = L' at *
    simp [F_impl_leastPart_L0, ll]
set_option maxHeartbeats 1000000 in
theorem c_leastPart {us : List T} (h : tsOk us = true) {L : LN} (hL : LOk us L) (h5 : ∀ c ∈ L, c.length ≤ 5) (ln : L.length ≤ 5) {a b : Nat} (hc : cndI us L L.length = some (a, b)) :
    call lf n_impl_leastPart [.sl 0 (us.map e2), .sl 0 ((L.map ni).map eR)] = some (.st [.i a, .i b], []) := by
  rw [call_k lf n_impl_leastPart _ (F := F_impl_leastPart) rfl rfl]
  have O := lpt_outer h hL h5 ln
  rw [hc] at O
  have ll : (L.map ni).length = L.length := by simp
  unfold stW0 at O
  simp only [s5, s6, Int.natCast_zero] at O
  generalize c9 us (fp L a b) = z9 at *
  generalize e9 us (fp L a b) = z10 at *
  generalize L.map ni = L' at *
  simp [F_impl_leastPart, ll, O]
end
section
attribute [-simp] DV.cells
attribute [local simp] sliceD cells_st cells_sl cells_i cells_y cells_b cells_s cells_w
attribute [local simp] lend_eR al_eR
def stLA (us : List T) (L : LN) (f : Nat) (v : Int) (k : Nat) : LS :=
  ⟨[(0, .sl 0 (us.map e2)), (1, .sl 0 ((L.map ni).map eR)), (2, .i (f : Nat)), (7, .i v), (12, .sl 0 ((L.map ni).map eR)), (13, .i L.length), (14, .i k)], []⟩
def LaOk (us : List T) (f : Nat) : Prop := ∀ L : LN, LOk us L → L.flatten.length = f → (∀ c ∈ L, c.length ≤ 5) → L.length ≤ 5 →
    call lf n_impl_leastAlong [.sl 0 (us.map e2), .sl 0 ((L.map ni).map eR), .i (f : Nat)] = some (.i (lA us f L), [])
set_option maxHeartbeats 4000000 in
theorem la_step {us : List T} (h : tsOk us = true) {f : Nat} (hf5 : f + 1 ≤ 5) (ih : LaOk us f) {L : LN} (hL : LOk us L) (hf : L.flatten.length = f + 1) (h5 : ∀ c ∈ L, c.length ≤ 5) (ln : L.length ≤ 5) {i : Nat} (hi : i < L.length) :
    ex lf F_impl_leastAlong_L0 (stLA us L (f + 1) (m0 (gLA us L f (lA us f)) i) i) = some (.normal, stLA us L (f + 1) (m0 (gLA us L f (lA us f)) (i + 1)) (i + 1)) := by
  have h' := tsOk_iff.1 h
  have A := at_C hi
  have e : L.getD i [] = L[i] := by rw [List.getD_eq_getElem?_getD, List.getElem?_eq_getElem hi]; rfl
  rw [← e] at A
  have c5 : (L.getD i []).length ≤ 5 := by rw [e]; exact h5 _ (List.getElem_mem hi)
  have hi' : (i : Int) < L.length := by omega
  have ll : (L.map ni).length = L.length := by simp
  have w7 := wr_succ (k := i) (by omega)
  have pos : ∀ j n, gLA us L f (lA us f) j = some n → 0 < n := fun j n hn => (lA_bd h'.2 (f + 1) L hL hf).2 j n (by omega) hn
  have mb : 0 ≤ m0 (gLA us L f (lA us f)) i := by unfold m0; split <;> omega
  cases hc : L.getD i [] with
  | nil =>
    rw [hc] at A
    have e0 : gLA us L f (lA us f) i = none := by unfold gLA; rw [hc]
    rw [m0_none e0]
    generalize m0 (gLA us L f (lA us f)) i = z at *
    have n0 : (ni []).map DV.i = [] := rfl
    rw [n0] at A
    unfold stLA
    generalize L.map ni = L' at *
    simp [F_impl_leastAlong_L0, A, ll, hi, hi', w7, -Int.natCast_add]
  | cons k c =>
    rw [hc] at A c5
    obtain ⟨s1, s2, s3⟩ := lok_set hL hc
    have e0 : gLA us L f (lA us f) i = some (cA us k * 6 ^ (f + 1) + pA us k * lA us f (L.set i c)) := by unfold gLA; rw [hc]
    rw [m0_some pos e0]
    have B := c_behindPart ln (a := i) (b := 1) hi (by rw [hc]; simp) (by rw [hc]; exact c5)
    rw [hc, List.drop_one, List.tail_cons, Int.natCast_one] at B
    have I := ih (L.set i c) s2 (by omega) (fun d hd => by
      rcases List.mem_or_eq_of_mem_set hd with q | q
      · exact h5 d q
      · rw [q]; simp at c5; omega) (by simp; omega)
    have b := (lA_bd h'.2 f (L.set i c) s2 (by omega)).1
    have cb := cA_bd h'.2 s1
    have pb := pA_bd h'.2 s1
    have p := p6 (n := f) (by omega)
    have up : 9 * (f : Int) * 6 ^ f ≤ 36 * 7776 := Int.mul_le_mul (by omega) p.2 (by omega) (by omega)
    have V := c_averageAsking (n := f + 1) (no := 0) (yes := lA us f (L.set i c)) hf5 cb pb (by omega) (by omega)
    have at2 := atT s1
    have k0 : atI ((ni (k :: c)).map DV.i) 0 = some (.i k) := rfl
    have lc : ¬ ((ni (k :: c)).length = 0) := by simp [ni]
    have lc0 : ((((ni (k :: c)).length : Nat) : Int) == 0) = false := by simp [ni]; omega
    have w1 : wr (((f + 1 : Nat) : Int) - 1) = (f : Nat) := by rw [wr_id (by omega) (by omega)]; omega
    have z0 : (6 - pA us k) * 0 = 0 := by omega
    rw [z0, Int.add_zero] at V
    have lpos : 0 < (ni (k :: c)).length := by simp [ni]
    have lpos' : (0 : Int) < (ni (k :: c)).length := by omega
    have ks : (k : Int) < us.length := by omega
    have ml : ((L.set i c).map ni).length = L.length := by simp
    have ao := adopt_eRP true ((L.set i c).map ni)
    rw [show adoptP true 0 = 0 from rfl, eP_zero] at ao
    generalize (L.set i c).map ni = M at *
    generalize lA us f (L.set i c) = v at *
    generalize cA us k * 6 ^ (f + 1) + pA us k * v = n at *
    generalize cA us k = q at *
    generalize pA us k = r at *
    generalize m0 (gLA us L f (lA us f)) i = z at *
    generalize ni (k :: c) = row at *
    unfold stLA
    generalize hF : f + 1 = F at *
    generalize L.map ni = L' at *
    by_cases q1 : z = 0
    · subst q1
      rw [if_pos (Or.inl rfl)]
      simp [F_impl_leastAlong_L0, A, ll, hi, hi', w7, B, I, V, at2, k0, lc, lc0, w1, lpos, lpos', s1, ks, ml, ao, -Int.natCast_add]
    · have q1' : (z == 0) = false := by simp [q1]
      by_cases q2 : n < z
      · rw [if_pos (Or.inr q2)]
        simp [F_impl_leastAlong_L0, A, ll, hi, hi', w7, B, I, V, at2, k0, lc, lc0, w1, lpos, lpos', s1, ks, ml, ao, q1, q1', q2, -Int.natCast_add]
      · rw [if_neg (show ¬ (z = 0 ∨ n < z) by omega)]
        simp [F_impl_leastAlong_L0, A, ll, hi, hi', w7, B, I, V, at2, k0, lc, lc0, w1, lpos, lpos', s1, ks, ml, ao, q1, q1', q2, -Int.natCast_add]
set_option maxHeartbeats 1000000 in
theorem la_zero (us : List T) : LaOk us 0 := by
  intro L hL hf h5 ln
  rw [call_k lf n_impl_leastAlong _ (F := F_impl_leastAlong) rfl rfl]
  have ll : (L.map ni).length = L.length := by simp
  have em := List.flatten_eq_nil_iff.1 (List.length_eq_zero_iff.1 hf)
  have J : ex lf F_impl_leastAlong_W0 (stLA us L 0 0 0) = some (.exit 0, stLA us L 0 0 L.length) := by
    refine loop_count (lf := lf) (L := F_impl_leastAlong_L0) L.length (fun k => stLA us L 0 0 k) (fun k hk => ?_) ?_ (by simp)
    · have A := at_C hk
      rw [em _ (List.getElem_mem hk)] at A
      have hk' : (k : Int) < L.length := by omega
      have w1 := wr_succ (k := k) (by omega)
      have n0 : (ni []).map DV.i = [] := rfl
      rw [n0] at A
      show ex lf F_impl_leastAlong_L0 (stLA us L 0 0 k) = some (.normal, stLA us L 0 0 (k + 1))
      unfold stLA
      generalize L.map ni = L' at *
      simp [F_impl_leastAlong_L0, A, ll, hk, hk', w1, -Int.natCast_add]
    · show ex lf F_impl_leastAlong_L0 (stLA us L 0 0 L.length) = _
      unfold stLA
      generalize L.map ni = L' at *
      simp [F_impl_leastAlong_L0, ll]
  unfold stLA at J
  simp only [Int.natCast_zero] at J
  simp only [lA]
  generalize L.map ni = L' at *
  simp [F_impl_leastAlong, ll, J]
set_option maxHeartbeats 1000000 in
theorem c_leastAlong {us : List T} (h : tsOk us = true) : ∀ f, f ≤ 5 → LaOk us f
  | 0, _ => la_zero us
  | f + 1, hf5 => by
    have ih := c_leastAlong h f (by omega)
    intro L hL hf h5 ln
    rw [call_k lf n_impl_leastAlong _ (F := F_impl_leastAlong) rfl rfl]
    have ll : (L.map ni).length = L.length := by simp
    have J : ex lf F_impl_leastAlong_W0 (stLA us L (f + 1) (m0 (gLA us L f (lA us f)) 0) 0) = some (.exit 0, stLA us L (f + 1) (m0 (gLA us L f (lA us f)) L.length) L.length) := by
      refine loop_count (lf := lf) (L := F_impl_leastAlong_L0) L.length (fun k => stLA us L (f + 1) (m0 (gLA us L f (lA us f)) k) k) (fun k hk => la_step h hf5 ih hL hf h5 ln hk) ?_ (by simp)
      show ex lf F_impl_leastAlong_L0 (stLA us L (f + 1) (m0 (gLA us L f (lA us f)) L.length) L.length) = _
      generalize m0 (gLA us L f (lA us f)) L.length = z at *
      unfold stLA
      generalize L.map ni = L' at *
      simp [F_impl_leastAlong_L0, ll]
    rw [m0_zero] at J
    simp only [lA]
    generalize m0 (gLA us L f (lA us f)) L.length = z at *
    unfold stLA at J
    simp only [Int.natCast_zero] at J
    generalize f + 1 = F at *
    generalize L.map ni = L' at *
    simp [F_impl_leastAlong, ll, J]
set_option maxHeartbeats 1000000 in
theorem c_impl_ChainBest (us : List T) (L : List (List Int)) (ha : (us.length : Int) < 1099511627776) (hb : (L.length : Int) < 1099511627776) (hf : (L.flatten.length : Int) < 1099511627776) :
    call lf n_impl_ChainBest [.sl 0 (us.map e2), .sl 0 (L.map eR)] = some (.i (cbV us L), []) := by
  rw [call_k lf n_impl_ChainBest _ (F := F_impl_ChainBest) rfl rfl]
  have C1 := c_impl_TestsOk us ha
  have C2 := c_impl_GroupsOk us.length L hb
  unfold cbV cbO
  cases h1 : tsOk us with
  | false => rw [h1] at C1; simp [F_impl_ChainBest, C1]
  | true =>
    rw [h1] at C1
    cases h2 : gokB us.length L with
    | false => rw [h2] at C2; simp [F_impl_ChainBest, C1, C2]
    | true =>
      rw [h2] at C2
      have h' := tsOk_iff.1 h1
      obtain ⟨N, rfl, G⟩ := gok_of (m := us.length) (by omega) h2
      have gl := gok_len G
      have cn : N.length ≤ 5 := by have := flat_ge9 G.ne; omega
      have c5 : ∀ c ∈ N, c.length ≤ 5 := fun c hc => by
        obtain ⟨A, B, e⟩ := List.append_of_mem hc
        have e2 : N.flatten.length = (A ++ c :: B).flatten.length := by rw [← e]
        rw [List.flatten_append, List.flatten_cons, List.length_append, List.length_append] at e2
        omega
      have S := c_leastAlong h1 us.length (by omega) N G.lt gl c5 cn
      have E := lA_chF h'.2 G.lt
      rw [gl] at E
      rw [E] at S
      rw [natL_ni]
      generalize gD _ = Z at *
      generalize N.map ni = L at *
      simp [F_impl_ChainBest, C1, C2, S]
end
section
attribute [-simp] DV.cells
attribute [local simp] sliceD cells_st cells_sl cells_i cells_y cells_b cells_s cells_w
attribute [local simp] lend_eR al_eR
def qp (q p : Nat) : Prop := (q = 0 ∧ p = 0) ∨ (q = 1 ∧ p = 0) ∨ (q = 1 ∧ p = 2)
def stO9 (us : List T) (q p : Nat) (L : LN) (out : List Nat) : LS :=
  ⟨[(0, .sl 0 (us.map e2)), (5, .own 2568 out.length 0 out.length), (6, .sl q ((L.map ni).map (eP p)))], [(2568, (ni out).map .i)]⟩
set_option maxHeartbeats 4000000 in
theorem o9_step {us : List T} (h : tsOk us = true) {L : LN} {out : List Nat} {a b q p : Nat} (Q : qp q p) (hL : LOk us L) (h5 : ∀ c ∈ L, c.length ≤ 5) (ln : L.length ≤ 5) (hl : out.length + L.flatten.length = us.length) (hc : cndI us L L.length = some (a, b)) (a1 : a < L.length) (b1 : 1 ≤ b) (b2 : b ≤ (L.getD a []).length) (hlt : out.length < us.length) :
    ∃ q' p', qp q' p' ∧ ex lf F_impl_ChainOrder_L0 (stO9 us q p L out) = some (.normal, stO9 us q' p' (L.set a ((L.getD a []).drop b)) (out ++ fp L a b)) := by
  have h' := tsOk_iff.1 h
  have m5 : us.length ≤ 5 := by omega
  have e : L.getD a [] = L[a] := by rw [List.getD_eq_getElem?_getD, List.getElem?_eq_getElem a1]; rfl
  have c5 : (L.getD a []).length ≤ 5 := by rw [e]; exact h5 _ (List.getElem_mem a1)
  have gl : (fp L a b).length = b := by rw [fp_len]; omega
  have C := c_leastPart h hL h5 ln hc
  have B := c_behindPart ln a1 b2 c5
  have A := at_eP (A := L.map ni) (k := a) (r := ni (L.getD a [])) p (by rw [List.getElem?_map, List.getElem?_eq_getElem a1, e]; rfl)
  have ll : ((L.map ni).map (eP p)).length = L.length := by simp
  have a1' : (a : Int) < L.length := by omega
  have hlt' : (out.length : Int) < us.length := by omega
  have nl := ni_len (L.getD a [])
  have tk : List.take b ((ni (L.getD a [])).map DV.i) = (ni (fp L a b)).map .i := by
    unfold fp ni
    simp
  have ng : (ni (fp L a b)).length = b := by rw [ni_len, gl]
  have no := ni_len out
  have ap := ni_app out (fp L a b)
  have bd : out.length + b ≤ bound := by unfold bound; omega
  have le := lend_eP p (L.map ni)
  have ao := adopt_eRP true ((L.set a ((L.getD a []).drop b)).map ni)
  have af := adopt_eRP false ((L.set a ((L.getD a []).drop b)).map ni)
  rw [show adoptP true 0 = 0 from rfl] at ao
  rw [show adoptP false 0 = 2 from rfl] at af
  have al : p = 0 → allOldL ((L.map ni).map (eP p)) = true := fun e => by rw [e]; exact al_eR _
  unfold stO9
  generalize (L.set a ((L.getD a []).drop b)).map ni = M at *
  generalize fp L a b = g at *
  generalize L.getD a [] = c at *
  rcases Q with ⟨rfl, rfl⟩ | ⟨rfl, rfl⟩ | ⟨rfl, rfl⟩
  · have al := al rfl
    refine ⟨1, 0, .inr (.inl ⟨rfl, rfl⟩), ?_⟩
    generalize M.map (eP 0) = M0 at *
    generalize (L.map ni).map (eP 0) = L0 at *
    generalize (L.map ni).map eR = L1 at *
    simp [F_impl_ChainOrder_L0, C, B, A, ll, a1, a1', hlt, hlt', nl, tk, ng, no, ap, bd, le, ao, af, al, b2, gl, -Int.natCast_add]
  · refine ⟨1, 2, .inr (.inr ⟨rfl, rfl⟩), ?_⟩
    generalize M.map (eP 2) = M0 at *
    generalize (L.map ni).map (eP 0) = L0 at *
    generalize (L.map ni).map eR = L1 at *
    simp [F_impl_ChainOrder_L0, C, B, A, ll, a1, a1', hlt, hlt', nl, tk, ng, no, ap, bd, le, ao, af, b2, gl, -Int.natCast_add]
  · refine ⟨1, 2, .inr (.inr ⟨rfl, rfl⟩), ?_⟩
    generalize M.map (eP 2) = M0 at *
    generalize (L.map ni).map (eP 2) = L0 at *
    generalize (L.map ni).map eR = L1 at *
    simp [F_impl_ChainOrder_L0, C, B, A, ll, a1, a1', hlt, hlt', nl, tk, ng, no, ap, bd, le, ao, af, b2, gl, -Int.natCast_add]
set_option maxHeartbeats 4000000 in
theorem o9_main {us : List T} (h : tsOk us = true) : ∀ (f : Nat) (L : LN) (out : List Nat) (q p : Nat), qp q p → LOk us L → (∀ c ∈ L, c.length ≤ 5) → L.length ≤ 5 → L.flatten.length ≤ f → out.length + L.flatten.length = us.length →
    ∃ q' p' L', ex lf F_impl_ChainOrder_W0 (stO9 us q p L out) = some (.exit 0, stO9 us q' p' L' (out ++ chF us f L)) := by
  have h' := tsOk_iff.1 h
  have m5 : us.length ≤ 5 := by omega
  have done : ∀ (L : LN) (out : List Nat) (q p : Nat), L.flatten.length = 0 → out.length + L.flatten.length = us.length → ex lf F_impl_ChainOrder_W0 (stO9 us q p L out) = some (.exit 0, stO9 us q p L out) := fun L out q p z hl => by
    have e : out.length = us.length := by omega
    rw [w_impl_ChainOrder_0]
    unfold stO9
    generalize (L.map ni).map (eP p) = L' at *
    simp [F_impl_ChainOrder_L0, e]
  intro f
  induction f with
  | zero =>
    intro L out q p Q hL h5 ln hf hl
    refine ⟨q, p, L, ?_⟩
    show _ = some (Ex.exit 0, stO9 us q p L (out ++ []))
    rw [List.append_nil]
    exact done L out q p (by omega) hl
  | succ f ih =>
    intro L out q p Q hL h5 ln hf hl
    have I := cndI_lst h'.2 hL L.length
    simp only [chF]
    cases hc : cndI us L L.length with
    | none =>
      rw [hc] at I
      have z : L.flatten = [] := List.flatten_eq_nil_iff.2 fun c hcm => by
        obtain ⟨i, hi, rfl⟩ := List.getElem_of_mem hcm
        have e : L.getD i [] = L[i] := by rw [List.getD_eq_getElem?_getD, List.getElem?_eq_getElem hi]; rfl
        cases q : L[i] with
        | nil => rfl
        | cons x r => exact absurd ⟨hi, Nat.le_refl 1, by rw [e, q]; simp⟩ (I i 1)
      refine ⟨q, p, L, ?_⟩
      show _ = some (Ex.exit 0, stO9 us q p L (out ++ []))
      rw [List.append_nil]
      exact done L out q p (by rw [z]; rfl) hl
    | some ab =>
      obtain ⟨a, b⟩ := ab
      rw [hc] at I
      obtain ⟨⟨a1, b1, b2⟩, I2⟩ := I
      obtain ⟨A, B, hA, e1, e2⟩ := splitN_at a1 b
      have fl : L.flatten.length = b + (L.set a ((L.getD a []).drop b)).flatten.length := by
        rw [e2]
        have := congrArg (fun x => x.flatten.length) e1
        simp only [List.flatten_append, List.flatten_cons, List.length_append, List.length_take, List.length_drop] at this ⊢
        omega
      have gm : L.getD a [] ∈ L := by rw [List.getD_eq_getElem?_getD, List.getElem?_eq_getElem a1]; exact List.getElem_mem a1
      have hL2 : LOk us (L.set a ((L.getD a []).drop b)) := fun c hc x hx => by
        rcases List.mem_or_eq_of_mem_set hc with q | q
        · exact hL c q x hx
        · rw [q] at hx; exact hL _ gm x (List.mem_of_mem_drop hx)
      have h52 : ∀ c ∈ L.set a ((L.getD a []).drop b), c.length ≤ 5 := fun c hc => by
        rcases List.mem_or_eq_of_mem_set hc with q | q
        · exact h5 c q
        · rw [q, List.length_drop]; have := h5 _ gm; omega
      have gl : (fp L a b).length = b := by rw [fp_len]; omega
      obtain ⟨q2, p2, Q2, S⟩ := o9_step h Q hL h5 ln hl hc a1 b1 b2 (by omega)
      obtain ⟨q3, p3, L3, J⟩ := ih _ (out ++ fp L a b) q2 p2 Q2 hL2 h52 (by rw [List.length_set]; exact ln) (by omega) (by rw [List.length_append, gl]; omega)
      refine ⟨q3, p3, L3, ?_⟩
      simp only
      rw [← List.append_assoc, ← J, w_impl_ChainOrder_0, S]
set_option maxHeartbeats 1000000 in
theorem c_impl_ChainOrder (us : List T) (L : List (List Int)) (ha : (us.length : Int) < 1099511627776) (hb : (L.length : Int) < 1099511627776) (hf : (L.flatten.length : Int) < 1099511627776) :
    call lf n_impl_ChainOrder [.sl 0 (us.map e2), .sl 0 (L.map eR)] = some (.fr 1 ((ni (coV us L)).map .i), []) := by
  rw [call_k lf n_impl_ChainOrder _ (F := F_impl_ChainOrder) rfl rfl]
  have C1 := c_impl_TestsOk us ha
  have C2 := c_impl_GroupsOk us.length L hb
  have n0 : (ni []).map DV.i = [] := rfl
  unfold coV cbO
  cases h1 : tsOk us with
  | false => rw [h1] at C1; simp [F_impl_ChainOrder, C1, n0]
  | true =>
    rw [h1] at C1
    cases h2 : gokB us.length L with
    | false => rw [h2] at C2; simp [F_impl_ChainOrder, C1, C2, n0]
    | true =>
      rw [h2] at C2
      have h' := tsOk_iff.1 h1
      obtain ⟨N, rfl, G⟩ := gok_of (m := us.length) (by omega) h2
      have gl := gok_len G
      have cn : N.length ≤ 5 := by have := flat_ge9 G.ne; omega
      have c5 : ∀ c ∈ N, c.length ≤ 5 := fun c hc => by
        obtain ⟨A, B, e⟩ := List.append_of_mem hc
        have e2 : N.flatten.length = (A ++ c :: B).flatten.length := by rw [← e]
        rw [List.flatten_append, List.flatten_cons, List.length_append, List.length_append] at e2
        omega
      obtain ⟨q', p', L', J⟩ := o9_main h1 us.length N [] 0 0 (.inl ⟨rfl, rfl⟩) G.lt c5 cn (by omega) (by simp [gl])
      unfold stO9 at J
      rw [n0, List.nil_append, eP_zero] at J
      rw [natL_ni]
      have nc := ni_len (chF us us.length N)
      have tk : List.take (chF us us.length N).length ((ni (chF us us.length N)).map DV.i) = (ni (chF us us.length N)).map .i := List.take_of_length_le (by simp [nc])
      simp only [List.length_nil] at J
      generalize chF us us.length N = R at *
      generalize (L'.map ni).map (eP p') = M at *
      generalize N.map ni = L' at *
      simp [F_impl_ChainOrder, C1, C2, J, nc, tk]
end
section
attribute [-simp] DV.cells
attribute [local simp] sliceD cells_st cells_sl cells_i cells_y cells_b cells_s cells_w
attribute [local simp] lend_eR al_eR
theorem l_IndexN (a : Nat) (A : List Nat) (hA : A.length ≤ 1000) : ∀ (r : List Nat) (k : Nat), A.drop k = r → k + r.length = A.length → a ∈ r →
    ex lf F_slices_Index_int_int_W0 ⟨[(0, .sl 0 ((ni A).map .i)), (1, .i a), (7, .i A.length), (8, .i k)], []⟩ = some (.ret, ⟨[(4, .i ((k + r.idxOf a : Nat) : Int))], []⟩) := by
  intro r
  induction r with
  | nil => intro k hd hk hm; cases hm
  | cons b r ih0 =>
    intro k hd hk hm
    obtain ⟨k1, k2, k3⟩ := drop_cons hd
    have k1' : (k : Int) < A.length := by omega
    obtain ⟨at1, _⟩ := at_ni k2
    simp only [List.length_cons] at hk
    have w1 := wr_succ (k := k) (by omega)
    have nl := ni_len A
    rw [w_slices_Index_int_int_0]
    by_cases h : a = b
    · subst h
      have e : (a :: r).idxOf a = 0 := by simp
      rw [e, Nat.add_zero]
      simp [F_slices_Index_int_int_L0, k1, k1', at1, nl]
    · have hb : ((a : Int) == (b : Int)) = false := by simp; omega
      have hb' : ¬ (a : Int) = b := by omega
      have e : (b :: r).idxOf a = r.idxOf a + 1 := idx_ne (fun q => h q.symm)
      have ih := ih0 (k + 1) k3 (by omega) (by rcases List.mem_cons.1 hm with q | q; exact absurd q h; exact q)
      rw [e, show k + (r.idxOf a + 1) = k + 1 + r.idxOf a by omega]
      simp [F_slices_Index_int_int_L0, k1, k1', at1, nl, hb, hb', h, w1, ih, -Int.natCast_add]
theorem c_IndexN {a : Nat} {A : List Nat} (hA : A.length ≤ 1000) (h : a ∈ A) : call lf n_slices_Index_int_int [.sl 0 ((ni A).map .i), .i a] = some (.i ((A.idxOf a : Nat) : Int), []) := by
  rw [call_k lf n_slices_Index_int_int _ (F := F_slices_Index_int_int) rfl rfl]
  have I := l_IndexN a A hA A 0 rfl (by simp) h
  have nl := ni_len A
  rw [Nat.zero_add, Int.natCast_zero] at I
  generalize A.idxOf a = j at *
  simp [F_slices_Index_int_int, I, nl]
set_option maxHeartbeats 1000000 in
theorem c_byPlace {a b : Nat} {A : List Nat} (hA : A.length ≤ 1000) (ha : a ∈ A) (hb : b ∈ A) : call lf n_impl_KeepsChains_1 [.i a, .i b, .adr (.sl 0 ((ni A).map .i))] = some (.i ((A.idxOf a : Nat) - (A.idxOf b : Nat) : Int), []) := by
  rw [call_k lf n_impl_KeepsChains_1 _ (F := F_impl_KeepsChains_1) rfl rfl]
  have I := c_IndexN hA ha
  have J := c_IndexN hA hb
  have x := List.idxOf_lt_length_of_mem ha
  have y := List.idxOf_lt_length_of_mem hb
  have w : wr (((A.idxOf a : Nat) : Int) - ((A.idxOf b : Nat) : Int)) = (A.idxOf a : Nat) - (A.idxOf b : Nat) := wr_id (by omega) (by omega)
  generalize A.idxOf a = i at *
  generalize A.idxOf b = j at *
  simp [F_impl_KeepsChains_1, I, J, w]
def kS (os row : List Nat) (n : Nat) : Bool := (List.range n).all fun j => decide (os.idxOf (row.getD j 0) ≤ os.idxOf (row.getD (j + 1) 0))
theorem kS_succ (os row : List Nat) (n : Nat) : kS os row (n + 1) = (kS os row n && decide (os.idxOf (row.getD n 0) ≤ os.idxOf (row.getD (n + 1) 0))) := by
  unfold kS
  rw [List.range_succ, List.all_append]
  simp
theorem kpr_kS (os : List Nat) : ∀ row : List Nat, kpr os row = kS os row (row.length - 1)
  | [] => rfl
  | [a] => rfl
  | a :: b :: r => by
    have ih := kpr_kS os (b :: r)
    show (decide (os.idxOf a ≤ os.idxOf b) && kpr os (b :: r)) = kS os (a :: b :: r) (r.length + 1)
    rw [ih]
    unfold kS
    rw [show (b :: r).length - 1 = r.length by simp, List.range_succ_eq_map, List.all_cons, List.all_map]
    rfl
def stSs (os row : List Nat) (i : Int) : LS := ⟨[(0, .sl 0 ((ni row).map .i)), (1, .fn n_impl_KeepsChains_1 [.adr (.sl 0 ((ni os).map .i))]), (5, .i i)], []⟩
set_option maxHeartbeats 4000000 in
theorem l_sorted {os row : List Nat} (hA : os.length ≤ 1000) (hr : ∀ x ∈ row, x ∈ os) (h5 : row.length ≤ 1000) : ∀ n : Nat, n ≤ row.length - 1 →
    ex lf F_slices_IsSortedFunc_int_int_W0 (stSs os row (n : Nat)) = if kS os row n then some (.exit 0, stSs os row 0) else some (.ret, ⟨[(4, .b false)], []⟩) := by
  intro n
  induction n with
  | zero =>
    intro _
    rw [w_slices_IsSortedFunc_int_int_0]
    unfold stSs
    simp [F_slices_IsSortedFunc_int_int_L0, kS]
  | succ n ih =>
    intro hn
    have I := ih (by omega)
    rw [kS_succ, w_slices_IsSortedFunc_int_int_0]
    have k0 : row[n]? = some (row.getD n 0) := by rw [List.getD_eq_getElem?_getD, List.getElem?_eq_getElem (by omega)]; rfl
    have k1 : row[n + 1]? = some (row.getD (n + 1) 0) := by rw [List.getD_eq_getElem?_getD, List.getElem?_eq_getElem (by omega)]; rfl
    obtain ⟨at0, _⟩ := at_ni k0
    obtain ⟨at1, _⟩ := at_ni k1
    have m0 := hr _ (List.mem_of_getElem? k0)
    have m1 := hr _ (List.mem_of_getElem? k1)
    have C := c_byPlace hA m1 m0
    have nl := ni_len row
    have w1 : wr (((n + 1 : Nat) : Int) - 1) = (n : Nat) := by rw [wr_id (by omega) (by omega)]; omega
    have h0 : (0 : Int) < ((n + 1 : Nat) : Int) := by omega
    have h0' : 0 < n + 1 := by omega
    have h1 : ((n + 1 : Nat) : Int) < row.length := by omega
    have h2 : (n : Int) < row.length := by omega
    have h1' : n + 1 < row.length := by omega
    have h2' : n < row.length := by omega
    unfold stSs at *
    generalize row.getD n 0 = x at *
    generalize row.getD (n + 1) 0 = y at *
    generalize os.idxOf x = i at *
    generalize os.idxOf y = j at *
    generalize kS os row n = b at *
    generalize hN : n + 1 = N at *
    by_cases q : i ≤ j
    · have q' : ¬ ((j : Int) - (i : Int) < 0) := by omega
      rw [decide_eq_true q, Bool.and_true]
      simp [F_slices_IsSortedFunc_int_int_L0, at0, at1, C, nl, w1, h0, h0', h1, h2, h1', h2', q', I, -Int.natCast_add]
    · have q' : ((j : Int) - (i : Int) < 0) := by omega
      rw [decide_eq_false q, Bool.and_false]
      simp [F_slices_IsSortedFunc_int_int_L0, at0, at1, C, nl, w1, h0, h0', h1, h2, h1', h2', q', -Int.natCast_add]
set_option maxHeartbeats 1000000 in
theorem c_IsSorted {os row : List Nat} (hA : os.length ≤ 1000) (hr : ∀ x ∈ row, x ∈ os) (h5 : row.length ≤ 1000) (hn : row ≠ []) :
    call lf n_slices_IsSortedFunc_int_int [.sl 0 ((ni row).map .i), .fn n_impl_KeepsChains_1 [.adr (.sl 0 ((ni os).map .i))]] = some (.b (kpr os row), []) := by
  rw [call_k lf n_slices_IsSortedFunc_int_int _ (F := F_slices_IsSortedFunc_int_int) rfl rfl]
  have l0 : 1 ≤ row.length := List.length_pos_iff.2 hn
  have I := l_sorted hA hr h5 (row.length - 1) (Nat.le_refl _)
  have nl := ni_len row
  have w1 : wr ((row.length : Int) - 1) = ((row.length - 1 : Nat) : Int) := by rw [wr_id (by omega) (by omega)]; omega
  rw [kpr_kS]
  unfold stSs at I
  cases h : kS os row (row.length - 1) with
  | true =>
    rw [h, if_pos rfl] at I
    simp [F_slices_IsSortedFunc_int_int, I, nl, w1]
  | false =>
    rw [h, if_neg (by simp)] at I
    simp [F_slices_IsSortedFunc_int_int, I, nl, w1]
def stKc (os : List Nat) (L : LN) (k : Nat) : LS := ⟨[(7, .fn n_impl_KeepsChains_1 [.adr (.sl 0 ((ni os).map .i))]), (21, .sl 0 ((L.map ni).map eR)), (22, .i L.length), (23, .i k)], []⟩
set_option maxHeartbeats 4000000 in
theorem kc_loop {os : List Nat} {L : LN} (hA : os.length ≤ 1000) (hr : ∀ c ∈ L, c ≠ [] ∧ c.length ≤ 1000 ∧ ∀ x ∈ c, x ∈ os) (hL : L.length ≤ 1000) : ∀ (r : LN) (k : Nat), L.drop k = r → k + r.length = L.length →
    ex lf F_impl_KeepsChains_W0 (stKc os L k) = if r.all (kpr os) then some (.exit 0, stKc os L L.length) else some (.ret, ⟨[(6, .b false)], []⟩) := by
  have ll : (L.map ni).length = L.length := by simp
  intro r
  induction r with
  | nil =>
    intro k hd hk
    have e : k = L.length := by simpa using hk
    subst e
    rw [w_impl_KeepsChains_0]
    unfold stKc
    simp [F_impl_KeepsChains_L0]
  | cons c r ih0 =>
    intro k hd hk
    obtain ⟨k1, k2, k3⟩ := drop_cons hd
    have k1' : (k : Int) < L.length := by omega
    simp only [List.length_cons] at hk
    have I := ih0 (k + 1) k3 (by omega)
    obtain ⟨c1, c2, c3⟩ := hr c (List.mem_of_getElem? k2)
    have C := c_IsSorted hA c3 c2 c1
    have A := at_eR (A := L.map ni) (k := k) (r := ni c) (by rw [List.getElem?_map, k2]; rfl)
    have w1 := wr_succ (k := k) (by omega)
    rw [w_impl_KeepsChains_0, List.all_cons]
    unfold stKc at *
    cases hq : kpr os c with
    | true =>
      rw [hq] at C
      rw [Bool.true_and, ← I]
      generalize ex lf F_impl_KeepsChains_W0 = E at *
      generalize L.map ni = L' at *
      simp [F_impl_KeepsChains_L0, k1, k1', ll, A, C, w1, -Int.natCast_add]
    | false =>
      rw [hq] at C
      rw [Bool.false_and, if_neg (by simp)]
      generalize L.map ni = L' at *
      simp [F_impl_KeepsChains_L0, k1, k1', ll, A, C, w1, -Int.natCast_add]
set_option maxHeartbeats 4000000 in
theorem c_impl_KeepsChains (m : Int) (L : List (List Int)) (os : List Int) (hb : (L.length : Int) < 1099511627776) (hf : (L.flatten.length : Int) < 1099511627776) (hc : (os.length : Int) < 1099511627776) :
    call lf n_impl_KeepsChains [.i m, .sl 0 (L.map eR), .sl 0 (os.map .i)] = some (.b (kcV m L os), []) := by
  rw [call_k lf n_impl_KeepsChains _ (F := F_impl_KeepsChains) rfl rfl]
  have C1 := c_impl_OrderOk m os hc
  have C2 := c_impl_GroupsOk m L hb
  unfold kcV
  cases h1 : orOk m os with
  | false => rw [h1] at C1; simp [F_impl_KeepsChains, C1]
  | true =>
    rw [h1] at C1
    cases h2 : gokB m L with
    | false => rw [h2] at C2; simp [F_impl_KeepsChains, C1, C2]
    | true =>
      rw [h2] at C2
      obtain ⟨p, rfl, nd, lt, hl, hm⟩ := os_of h1
      obtain ⟨n, rfl⟩ := Int.eq_ofNat_of_zero_le (show 0 ≤ m by omega)
      rw [Int.toNat_natCast] at lt hl
      have hm' : 1 ≤ n ∧ n ≤ 5 := by omega
      obtain ⟨N, rfl, G⟩ := gok_of hm' h2
      have gl := gok_len G
      have cn : N.length ≤ 5 := by have := flat_ge9 G.ne; omega
      have c5 : ∀ c ∈ N, c.length ≤ 5 := fun c hc => by
        obtain ⟨A, B, e⟩ := List.append_of_mem hc
        have e2 : N.flatten.length = (A ++ c :: B).flatten.length := by rw [← e]
        rw [List.flatten_append, List.flatten_cons, List.length_append, List.length_append] at e2
        omega
      have O := kc_loop (os := p) (L := N) (by omega) (fun c hc => ⟨G.ne c hc, by have := c5 c hc; omega, fun x hx => os_all nd lt hl (G.lt c hc x hx)⟩) (by omega) N 0 rfl (by simp)
      rw [natL_ni, ni_toNat, Bool.true_and, Bool.true_and]
      unfold stKc at O
      simp only [Int.natCast_zero] at O
      have ll : (N.map ni).length = N.length := by simp
      cases q : N.all (kpr p) with
      | true =>
        rw [q, if_pos rfl] at O
        generalize N.map ni = L' at *
        simp [F_impl_KeepsChains, C1, C2, O, ll]
      | false =>
        rw [q, if_neg (by simp)] at O
        generalize N.map ni = L' at *
        simp [F_impl_KeepsChains, C1, C2, O, ll]
end
section
attribute [-simp] DV.cells
attribute [local simp] sliceD cells_st cells_sl cells_i cells_y cells_b cells_s cells_w
def eachN (k : Nat) : LN := (List.range k).map fun i : Nat => [i]
theorem eachN_succ (k : Nat) : eachN (k + 1) = eachN k ++ [[k]] := by simp [eachN, List.range_succ]
theorem eachN_flat : ∀ k : Nat, (eachN k).flatten = List.range k
  | 0 => rfl
  | k + 1 => by rw [eachN_succ, List.flatten_append, eachN_flat k, List.range_succ]; rfl
theorem eachN_mem {k : Nat} {c : List Nat} (h : c ∈ eachN k) : ∃ i, i < k ∧ c = [i] := by
  obtain ⟨i, hi, rfl⟩ := List.mem_map.1 h
  exact ⟨i, List.mem_range.1 hi, rfl⟩
theorem gok_eachN (m : Nat) : Gok m (eachN m) := by
  refine ⟨fun g hg k hk => ?_, ?_, fun k hk => ?_, fun g hg => ?_⟩
  · obtain ⟨i, hi, rfl⟩ := eachN_mem hg
    rw [List.mem_singleton.1 hk]; exact hi
  · rw [eachN_flat]; exact List.nodup_range
  · rw [eachN_flat]; exact List.mem_range.2 hk
  · obtain ⟨i, hi, rfl⟩ := eachN_mem hg
    simp
theorem ni_flat (N : LN) : (N.map ni).flatten = ni N.flatten := by unfold ni; rw [List.map_flatten]
theorem gok_or {m : Nat} (hm : 1 ≤ m ∧ m ≤ 5) {N : LN} (G : Gok m N) : orOk m (ni N.flatten) = true := by
  have := gok_to hm G
  unfold gokB at this
  rw [Bool.and_eq_true, ni_flat] at this
  exact this.2
theorem ni_perm {p q : List Nat} (h : p.Perm q) : (ni p).Perm (ni q) := h.map _
theorem wk_or {m : Nat} (hm : 1 ≤ m ∧ m ≤ 5) {N : LN} (G : Gok m N) {row : List Nat} (w : Wk N row) : orOk m (ni row) = true := by
  rw [orOk_perm (ni_perm (wk_perm w))]
  exact gok_or hm G
theorem chF_wk {us : List T} (h : tsOk us = true) {N : LN} (G : Gok us.length N) : Wk N (chF us us.length N) :=
  (chF_ok (tsOk_iff.1 h).2 us.length N G.lt (by have := gok_len G; omega)).1
theorem chF_least {us : List T} (h : tsOk us = true) {N : LN} (G : Gok us.length N) {row : List Nat} (w : Wk N row) : gD ((chF us us.length N).map (itC us)) ≤ gD (row.map (itC us)) := by
  have h' := (tsOk_iff.1 h).2
  have e := lA_chF h' G.lt
  have l := (lA_le h' N.flatten.length N G.lt rfl).2 row w
  rw [gok_len G] at e l
  omega
theorem raOf_row {us : List T} (h : tsOk us = true) {p : List Nat} (ho : orOk us.length (ni p) = true) : raOf us (ni p) 0 = gD (p.map (itC us)) := by
  unfold raOf raOk
  rw [h, ho, ← rA_row]
  rfl
theorem raOf_ro {us : List T} (h : tsOk us = true) : raOf us (roL us 0) 0 = rA us 0 1 (rO us 0 us.length) := by
  have rw1 : rwOk 0 = true := rfl
  have e : roL us 0 = rO us 0 us.length := by unfold roL; rw [h]; rfl
  unfold raOf raOk
  rw [e, h, rO_ok h 0]
  rfl
theorem cbO_of {us : List T} {L : List (List Int)} (h : cbO us L = true) : ∃ N : LN, L = N.map ni ∧ tsOk us = true ∧ Gok us.length N ∧ (1 ≤ us.length ∧ us.length ≤ 5) ∧ coV us L = chF us us.length N ∧ cbV us L = gD ((chF us us.length N).map (itC us)) := by
  have h0 := h
  unfold cbO at h
  rw [Bool.and_eq_true] at h
  have h' := tsOk_iff.1 h.1
  obtain ⟨N, rfl, G⟩ := gok_of (m := us.length) (by omega) h.2
  refine ⟨N, rfl, h.1, G, by omega, ?_, ?_⟩
  · unfold coV; rw [h0, natL_ni]; rfl
  · unfold cbV; rw [h0, natL_ni]; rfl
theorem cbO_to {us : List T} (h : tsOk us = true) {N : LN} (G : Gok us.length N) : cbO us (N.map ni) = true ∧ coV us (N.map ni) = chF us us.length N ∧ cbV us (N.map ni) = gD ((chF us us.length N).map (itC us)) := by
  have h' := tsOk_iff.1 h
  have o : cbO us (N.map ni) = true := by unfold cbO; rw [h, gok_to (by omega) G]; rfl
  refine ⟨o, ?_, ?_⟩
  · unfold coV; rw [o, natL_ni]; rfl
  · unfold cbV; rw [o, natL_ni]; rfl
theorem co_keep {us : List T} {L : List (List Int)} (h : cbO us L = true) : kcV us.length L (ni (coV us L)) = true := by
  obtain ⟨N, rfl, h1, G, hm, e, _⟩ := cbO_of h
  have w := chF_wk h1 G
  have o := wk_or hm G w
  unfold kcV
  rw [e, o, gok_to hm G, natL_ni, ni_toNat, Bool.true_and, Bool.true_and, List.all_eq_true]
  intro c hc
  obtain ⟨p, e2, nd, _, _, _⟩ := os_of o
  have e3 := congrArg (List.map Int.toNat) e2
  rw [ni_toNat, ni_toNat] at e3
  rw [← e3] at nd
  exact kpr_sub nd (wk_sub w c hc)
theorem co_cost {us : List T} {L : List (List Int)} (h : cbO us L = true) : raOf us (ni (coV us L)) 0 = cbV us L := by
  obtain ⟨N, rfl, h1, G, hm, e, e2⟩ := cbO_of h
  rw [e, e2]
  exact raOf_row h1 (wk_or hm G (chF_wk h1 G))
theorem ro_row {us : List T} (h : tsOk us = true) : ∃ q : List Nat, rO us 0 us.length = ni q ∧ Wk (eachN us.length) q := by
  have o := rO_ok h 0
  obtain ⟨q, e, nd, lt, hl, hm⟩ := os_of o
  rw [Int.toNat_natCast] at lt hl
  refine ⟨q, e, wk_singles (fun c hc => ?_) ?_⟩
  · obtain ⟨i, _, rfl⟩ := eachN_mem hc; simp
  · rw [eachN_flat]
    exact (List.perm_ext_iff_of_nodup nd List.nodup_range).2 fun k => by
      rw [List.mem_range]
      exact ⟨lt k, os_all nd lt hl⟩
theorem ra_least {us : List T} (h : tsOk us = true) {N : LN} (G : Gok us.length N) {row : List Nat} (w : Wk N row) : rA us 0 1 (rO us 0 us.length) ≤ gD (row.map (itC us)) := by
  have h' := tsOk_iff.1 h
  rw [← rA_row]
  exact rO_least h (wk_or (by omega) G w)
theorem co_free {us : List T} (h : tsOk us = true) : raOf us (ni (coV us ((eachN us.length).map ni))) 0 = raOf us (roL us 0) 0 := by
  have h' := tsOk_iff.1 h
  have G := gok_eachN us.length
  obtain ⟨_, e, _⟩ := cbO_to h G
  have w := chF_wk h G
  rw [e, raOf_row h (wk_or (by omega) G w), raOf_ro h]
  obtain ⟨q, e2, wq⟩ := ro_row h
  have a := chF_least h G wq
  have b := ra_least h G w
  have c := rA_row us q
  rw [← e2] at c
  omega
end
section
attribute [-simp] DV.cells
attribute [local simp] sliceD cells_st cells_sl cells_i cells_y cells_b cells_s cells_w
attribute [local simp] lend_eR al_eR lend_eN adopt_eN new_eN
theorem c_sameInts_c (N : List Int) (ha : (N.length : Int) ≤ 1048576) : call lf n_laws_sameInts [.sl 0 (N.map .i), .sl 0 (N.map .i)] = some (.b true, []) := by
  rw [call_k lf n_laws_sameInts _ (F := F_laws_sameInts) rfl rfl]
  have lm : (N.map DV.i).length = N.length := by simp
  have A : ∀ i, (hi : i < N.length) → atI (N.map DV.i) i = some (.i N[i]) := fun i hi => by simp [atI, hi]
  generalize N.map DV.i = es at *
  have L : ex lf F_laws_sameInts_W0 ⟨[(0, .sl 0 es), (1, .sl 0 es), (5, .i 0)], []⟩ = some (.exit 0, ⟨[(0, .sl 0 es), (1, .sl 0 es), (5, .i N.length)], []⟩) := by
    refine loop_count N.length (fun i => ⟨[(0, .sl 0 es), (1, .sl 0 es), (5, .i i)], []⟩) (fun i hi => ?_) ?_ (by simp)
    · have w1 : wr ((i : Int) + 1) = (i : Int) + 1 := wr_id (by omega) (by omega)
      have q := A i hi
      generalize N[i] = y at *
      simp [F_laws_sameInts_L0, hi, q, w1, lm]
    · simp [F_laws_sameInts_L0, lm]
  simp [F_laws_sameInts, L, lm]
def each9 (k : Nat) : List DV := ((eachN k).map ni).map eN
theorem each9_len (k : Nat) : (each9 k).length = k := by simp [each9, eachN]
theorem each9_succ (k : Nat) : each9 (k + 1) = each9 k ++ [.sl 1 [.i (k : Int)]] := by unfold each9; rw [eachN_succ]; simp [eN, ni]
theorem each9_lend (k : Nat) : lendL (each9 k) = ((eachN k).map ni).map eR := lend_eN _
def stC9 (us : List T) (R : List (List Int)) (os : List Int) (k : Nat) : LS :=
  ⟨[(3, .own 7185 us.length 0 us.length), (4, .own 7178 R.length 0 R.length), (5, .own 9736 os.length 0 os.length), (6, .own 15368 k 0 k), (7, .i k)], [(7178, R.map eN), (7185, us.map e2), (9736, os.map .i), (15368, each9 k)]⟩
set_option maxHeartbeats 8000000 in
theorem c9_loop (us : List T) (R : List (List Int)) (os : List Int) (hm : us.length ≤ 5) : ex lf F_laws_FnChainOrder_W0 (stC9 us R os 0) = some (.exit 0, stC9 us R os us.length) := by
  refine loop_count us.length (fun k => stC9 us R os k) (fun k hk => ?_) ?_ (by simp)
  · have hk' : (k : Int) < us.length := by omega
    have w1 := wr_succ (k := k) (by omega)
    have cb : k + 1 ≤ bound := by unfold bound; omega
    have l2 := each9_len k
    unfold stC9
    rw [each9_succ]
    generalize each9 k = B at *
    simp [F_laws_FnChainOrder_L0, hk, hk', w1, cb, l2, -Int.natCast_add]
  · simp [stC9, F_laws_FnChainOrder_L0]
theorem roL_le (us : List T) (row : Int) : (roL us row).length ≤ us.length := by
  unfold roL
  split
  · rw [rO_len]; exact Nat.le_refl _
  · simp
theorem coV_le (us : List T) (L : List (List Int)) : (coV us L).length ≤ us.length := by
  cases h : cbO us L with
  | false => unfold coV; rw [h]; simp
  | true =>
    obtain ⟨N, rfl, h1, G, hm, e, _⟩ := cbO_of h
    rw [e]
    have := (wk_perm (chF_wk h1 G)).length_eq
    rw [gok_len G] at this
    omega
set_option maxHeartbeats 16000000 in
theorem law_FnChainOrder (x : List Nat) (_ : x.length ≤ Go.maxLen) (hb : ∀ y ∈ x, y < 256) : call lf n_laws_FnChainOrder [bys x] = some (.b true, []) := by
  show call lf n_laws_FnChainOrder [.sl 0 (x.map .y)] = _
  rw [call_k lf n_laws_FnChainOrder _ (F := F_laws_FnChainOrder) rfl rfl]
  by_cases hl : 1048576 < (x.length : Int)
  · simp (config := { maxSteps := 2000000 }) [F_laws_FnChainOrder, hl]
  · obtain ⟨us, R, u1, r1, r2, d⟩ := c_DrawChainOrder hb (by omega)
    have C1 := c_impl_ChainOrder us R (by omega) (by omega) (by omega)
    have C2 := c_spec_ChainOrder us R (by omega) (by omega) (by omega)
    have cl := coV_le us R
    have nc := ni_len (coV us R)
    have S := c_sameInts_c (ni (coV us R)) (by omega)
    have lb1 : us.length ≤ bound := by unfold bound; omega
    have lb2 : R.length ≤ bound := by unfold bound; omega
    have lb3 : (coV us R).length ≤ bound := by unfold bound; omega
    have tk1 := tk_e2 us
    have tk2 : List.take R.length (R.map eN) = R.map eN := List.take_of_length_le (by simp)
    have tk3 : List.take (coV us R).length ((ni (coV us R)).map DV.i) = (ni (coV us R)).map .i := List.take_of_length_le (by simp [nc])
    cases h : cbO us R with
    | false =>
      have e : coV us R = [] := by unfold coV; rw [h]; rfl
      have n0 : (ni []).map DV.i = [] := rfl
      rw [e, n0] at C1 C2 S
      simp (config := { maxSteps := 2000000 }) [F_laws_FnChainOrder, hl, d, C1, C2, S, lb1, lb2, tk1, tk2, c_alive]
    | true =>
      have h0 := h
      obtain ⟨N, rfl, h1, G, hm, e, _⟩ := cbO_of h0
      have lne : (coV us (N.map ni)).length = us.length := by
        rw [e]
        have := (wk_perm (chF_wk h1 G)).length_eq
        rw [gok_len G] at this
        exact this
      have K := c_impl_KeepsChains us.length (N.map ni) (ni (coV us (N.map ni))) (by omega) (by omega) (by omega)
      rw [co_keep h] at K
      have W := c_impl_RowAverage us (ni (coV us (N.map ni))) 0 (by omega) (by omega)
      rw [co_cost h] at W
      have B := c_impl_ChainBest us (N.map ni) (by omega) (by omega) (by omega)
      have C3 := c_impl_ChainOrder us ((eachN us.length).map ni) (by omega) (by simp [eachN]; omega) (by rw [ni_flat, ni_len, eachN_flat]; simp; omega)
      have fl := coV_le us ((eachN us.length).map ni)
      have nf := ni_len (coV us ((eachN us.length).map ni))
      have W2 := c_impl_RowAverage us (ni (coV us ((eachN us.length).map ni))) 0 (by omega) (by omega)
      have rl := roL_le us 0
      have W3 := c_impl_RowAverage us (roL us 0) 0 (by omega) (by omega)
      have RO := c_impl_RatioOrder us 0 (by omega)
      rw [← co_free h1] at W3
      have L := c9_loop us (N.map ni) (ni (coV us (N.map ni))) u1
      have le := each9_lend us.length
      have lm := each9_len us.length
      have tk4 : List.take us.length (each9 us.length) = each9 us.length := List.take_of_length_le (by omega)
      have tk5 : List.take (roL us 0).length ((roL us 0).map DV.i) = (roL us 0).map .i := List.take_of_length_le (by simp)
      have tk6 : List.take (coV us ((eachN us.length).map ni)).length ((ni (coV us ((eachN us.length).map ni))).map DV.i) = (ni (coV us ((eachN us.length).map ni))).map .i := List.take_of_length_le (by simp [nf])
      have lb4 : (coV us ((eachN us.length).map ni)).length ≤ bound := by unfold bound; omega
      have lb5 : (roL us 0).length ≤ bound := by unfold bound; omega
      have z1 : each9 0 = [] := rfl
      unfold stC9 at L
      rw [z1, Int.natCast_zero] at L
      rw [← le] at C3
      rw [nc, lne] at L
      rw [lne] at tk3 lb3
      have lp : ¬ us.length = 0 := by omega
      have lp' : ¬ (us.length : Int) = 0 := by omega
      have lpb : ((us.length : Int) == 0) = false := beq_false_of_ne (by omega)
      clear e
      generalize raOf us (ni (coV us ((eachN us.length).map ni))) 0 = v1 at *
      generalize cbV us (N.map ni) = v2 at *
      generalize each9 us.length = D at *
      generalize roL us 0 = r at *
      generalize coV us ((eachN us.length).map ni) = f at *
      generalize coV us (N.map ni) = o at *
      generalize N.map ni = A at *
      simp (config := { maxSteps := 2000000 }) [F_laws_FnChainOrder, hl, d, C1, C2, C3, S, K, W, W2, W3, B, RO, L, lne, lp, lp', lpb, nc, nf, lm, lb1, lb2, lb3, lb4, lb5, tk1, tk2, tk3, tk4, tk5, tk6, c_alive]
end
end Zz
