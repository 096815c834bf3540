/- What the functions answer, as equations: EB. No conditions. -/
import Derived.Test.YtplfgkjggohajabDoorEAzw
set_option linter.unusedSectionVars false
set_option linter.unusedVariables false
set_option linter.unusedSimpArgs false
namespace Zz
open Go.Lg Md
set_option linter.unusedSimpArgs false
set_option linter.unusedVariables false
attribute [local simp] tm_mv tm_newnil tm_pick tm_bin tm_eqb tm_eqs tm_un tm_len tm_lens tm_chk tm_fld tm_fldv tm_idxa tm_idx tm_load tm_store tm_slice tm_slices tm_make tm_alloc tm_box tm_build tm_app tm_conv tm_ext tm_call tm_calld tm_mkfn tm_mm tm_idxp tm_eqn tm_callg tm_callm tm_bslice0 tm_bslice1 tm_bslice2 tm_bslice cw_nil cw_cons cd_none cd_some ec_nil ec_cons es_nil es_one es_more nn_nil nn_cons ns_nil ns_cons si_nil si_cons sk_t stod_oad stod_own stod_adr stod_dead ml_nil ml_cons nt_nil nt_cons nc_nil' nc_cons sa_mkfn cv_adr cv_i cv_y cv_b cv_w sa_calld nm_def nh_nil nh_cons nxM_some nxM_none sc_st sd_i sd_y sd_b sd_s sd_w sd_q sc_i sc_y sc_b sc_s sc_w sc_q sa_bslice sa_app nc_own nc_nil sa_call sa_alloc sa_build sa_callm rm_nil rm_one rm_gen bq_mul bq_eql ia_mv ia_newnil ia_pick ia_bin ia_eqb ia_eqs ia_un ia_len ia_lens ia_chk ia_fld ia_fldv ia_idxa ia_idx ia_load ia_store ia_slice ia_slices ia_make ia_alloc ia_box ia_build ia_bslice ia_app ia_b2i ia_i2b ia_i2i ia_same ia_b2s ia_s2b ia_ext ia_mm ia_idxp ia_calld ia_mkfn ia_i2r ia_r2s ia_call pt_nil pt_cons mi_nil mi_cons md_bslice md_mv md_newnil md_pick md_bin md_eqb md_un md_len md_lens md_fld md_fldv md_idxa md_idx md_load md_store md_slice md_slices md_make md_alloc md_box md_build md_app md_conv md_ext md_call md_calld md_callg md_mkfn md_mm md_idxp md_eqn md_eqs md_chk tg_bslice tg_mv tg_newnil tg_pick tg_bin tg_eqb tg_un tg_len tg_lens tg_fld tg_fldv tg_idxa tg_idx tg_load tg_store tg_slice tg_slices tg_make tg_alloc tg_box tg_build tg_app tg_conv tg_ext tg_call tg_calld tg_callg tg_mkfn tg_mm tg_idxp tg_eqn tg_eqs tg_chk rp_eq ro_eq ifP_t ifP_f np_def ng1_nil ng2_nil ng_gate ng_gen tgA_t tgA_0 tgA_1 tgA_2 aC_nil aC_c aC_t rS_def nb_def tv_b2i tv_i2b tv_i2i tv_s2b tv_b2s tv_same tv_i2r tv_r2s tv_i2q tv_q2i tv_q2q nxZ_some nxZ_none rz_nil rz_gen nxP_some nxP_none rq_nil rq_gen rq_gate nxR_some nxR_none ru_nil ru_gen ru_gate pl_none pl_some gt_nil gt_t gt_c di_some di_none an_nil an_cons nxG_some nxG_none rg_nil rg_gen rg_gate oldO_some oa_nil oa_i oa_y oa_b oa_s oa_st oa_sl oa_own oa_oad oa_nl al_nil al_cons al_i al_y al_b al_s al_st al_sl nxF_some nxF_none rf_nil rf_gen rf_gate hk_newnil hk_make hk_alloc hk_box hk_build hk_bslice hk_call hk_store hk_app hk_appn em_cel mm_cel ok_cel ov_cel so_cel il_cel oi_cel oj_cel ol_cel nm_cel hk_appc ef_bslice5 ef_app_cel ks_shut shu_own shc_none shc_cel cl_nil cl_cons ai_nil ai_cons il_i il_y il_b il_s il_st il_sl il_own il_adr il_oad il_ref il_fr il_tup il_nil il_np il_und il_dead ol_adr ol_b ol_dead ol_e ol_fn ol_fr ol_i ol_nil ol_np ol_oad ol_own ol_q ol_r ol_ref ol_s ol_sl ol_st ol_tup ol_und ol_w ol_y oj_e oj_i oj_y oj_b oj_s oj_st oj_sl oj_own oj_adr oj_oad oj_ref oj_fr oj_tup oj_nil oj_np oj_und oj_dead oj_w oj_q oj_r oj_fn oi_e oi_i oi_y oi_b oi_s oi_st oi_sl oi_own oi_adr oi_oad oi_ref oi_fr oi_tup oi_nil oi_np oi_und oi_dead as_nil as_cons ao_nil ao_cons av_i av_y av_b av_s av_st av_sl av_own av_adr av_oad av_ref av_fr av_tup av_nil av_np av_und av_dead pro_cons ghK_some ks_promote ks_freeze frz_own ks_rename ren_own ks_cell cel_own dropO adoptP newP wholeP cutP allOldL ex_skip ex_ret ex_exit ks_region ks_seq ks_cut ks_cond ks_block seqK_n seqK_e seqK_r regK_some condK_t condK_f blkK_n blkK_r blkK_e endK_n endK_r rr_false rr_true rd_free mo_nil mo_cons drK_some drK_none nxW_some nxW_none rw_nil rw_gen rw_gate ak_newnil ak_make ak_alloc ak_box ak_build ak_bslice ak_call ak_store ak_app iw_mm iw_eqn iw_idxp ef_callg cgK_some gv_e gv_own gv_i gv_sl gv_st gv_b gv_nil gvK_some gvO_some iw_callg ia_callg ak_callg hk_callg is_mv is_newnil is_pick is_bin is_eqb is_eqs is_un is_len is_lens is_chk is_fld is_fldv is_idxa is_idx is_load is_slice is_slices is_make is_alloc is_box is_build is_bslice is_app is_conv is_ext is_call is_calld is_callg is_mkfn is_mm is_idxp is_eqn is_store rt_nil rt_gen rt_gate nxT_some nxT_none ef_eqn_nil ef_eqn_sl ef_eqn_own ia_eqn ef_mmx ef_mmn ef_idxp nxD_some nxD_none ov_i ov_y ov_b ov_s ov_st ov_sl ov_own ov_oad ov_adr ov_nil ov_np ov_und ov_dead ov_tup oldN_some oldN_nil oldN_none so_none so_tup DV.noM so_i so_y so_b so_s so_st so_sl so_adr so_nil so_np so_und so_dead anyM_nil anyM_t anyM_c so_own so_oad rd_nil rd_gen rd_mv rd_gate iw_mv iw_newnil iw_pick iw_bin iw_eqb iw_eqs iw_un iw_len iw_lens iw_chk iw_fld iw_fldv iw_idxa iw_idx iw_load iw_store iw_slice iw_slices iw_make iw_alloc iw_box iw_build iw_bslice iw_app iw_b2i iw_i2b iw_i2i iw_same iw_b2s iw_s2b iw_ext iw_call nm_i nm_y nm_b nm_s nm_st nm_sl nm_own nm_oad nm_adr nm_nil nm_np nm_und nm_dead nm_tup rl_nil rl_gate rl_mv rl_gen opv_t opv_c nx_some nx_none gate_tt gate_tf gate_ft gate_ff gate_u fr_ap em_nil em_i em_y em_b em_s em_st em_sl em_own em_adr em_oad em_ref em_nl em_np em_und em_dead em_tup0 em_tup_i em_tup_b em_tup_s em_tup_sl em_tup_st em_tup_np em_tup_own em_tup_oad mm_i mm_y mm_b mm_s mm_st mm_sl mm_own mm_oad mm_adr mm_nil mm_np mm_und mm_dead ef_mv ef_newnil ef_pickt ef_pickf ef_bin ef_eqb ef_eqs ef_un ef_lens ef_len_sl ef_len_own ef_len_nil ef_chk_adr ef_chk_oad ef_fld_adr ef_fld_oad ef_fldv idxR_some ef_idxa_sl ef_idxa_own ef_idx ef_load_adr_st ef_load_adr_i ef_load_adr_y ef_load_adr_b ef_load_adr_s ef_load_adr_sl atN_nil atN_zero atN_succ ef_load_oad ef_store ef_slice ef_slices ef_make ef_alloc ef_box ef_build ef_bslice ef_app_own ef_app_nil ef_b2i ef_i2b ef_i2i ef_same ef_ext ret1 ret2_some calL_some ef_call retC_i retC_y retC_b retC_s retC_st retC_sl retC_np retC_fr retC_ref retC_tup rk_nil rk_i rk_y rk_b rk_s rk_st rk_sl rk_own rk_oad rk_nl ok_nil ok_i ok_y ok_b ok_s ok_st ok_sl ok_own ok_oad ok_nl lo_nil lo_i lo_y lo_b lo_s lo_st lo_sl lo_own lo_oad lo_nl pr_nil pr_i pr_y pr_b pr_s pr_st pr_sl pr_own pr_nl pr_oad nr_i nr_y nr_b nr_s nr_st nr_sl nr_fr nr_np nr_tup ng_i ng_b ng_s ng_fr ng_nil resV effP_eff binD bi_add bi_sub bi_mul bi_quo bi_rem bi_eql bi_neq bi_lss bi_leq bi_gtr bi_geq bi_shl bi_shr bi_and bi_or bi_xor bi_andNot binY binS unD look put putD LS.get LS.drop killE sweep lookO putO dropO enter leave giveBackL giveBack outs lendArgs lendArg newOuts takeIn takeInL lendL DV.lend adoptL DV.adopt elems apartKs part DV.cells unpart settle settleL over mkId szId fillP fillE tk_e2 tk_i tk_y lt_e2 lt_i lt_y lend_rep al_e2 al_is al_ys al_rep al_app lend_app adopt_app new_app lend_e2 lend_i lend_y adopt_e2 adopt_i adopt_y new_e2 new_i allNewL DV.allNew bounds sliceD sliceS em_w em_q em_r em_fn em_tup_w em_tup_q em_tup_r mm_w mm_q mm_r mm_fn ef_load_adr_w ef_load_adr_q ef_load_adr_r retC_w retC_q retC_r rk_w rk_q rk_r rk_fn ok_w ok_q ok_r ok_fn lo_w lo_q lo_r lo_fn pr_w pr_q pr_r pr_fn nr_w nr_q nr_r ng_w ng_q ng_r oa_w oa_q oa_r oa_fn al_w al_q al_r al_fn ov_w ov_q ov_r ov_fn so_w so_q so_r so_fn il_w il_q il_r il_fn oi_w oi_q oi_r oi_fn av_w av_q av_r av_fn nm_w nm_q nm_r nm_fn ef_i2r ef_r2s ef_b2s bs_some ys_nil ys_cons ys_map ef_mkfn ef_mkbd ef_idxp_adr ef_idxp_q ef_calld_nil ef_calld_adr ef_calld_bd DV.capB capsOk DV.cell List.all_cons List.all_nil rk_own_t lo_own_t lk_f lk_t pr_own_t mutB ak_calld hk_calld iw_calld iw_mkfn iw_i2r iw_r2s bw_and bw_or bw_xor bw_andNot bw_eql bw_neq sw_shl sw_shr sq_shl gEnv_nil rk_adr ok_adr lo_adr pr_adr oa_adr capL capArg DV.cap ak_mkfn hk_mkfn hk_mkbd ef_callm gf_ap ga_nil ga_cons tgv_own gk_e gk_giv gk_i gk_y gk_b gk_s gk_w gk_q gk_r gk_fn gk_st gk_sl gk_own gk_oad gk_adr gk_nl gk_np rk_giv ok_giv lo_giv pr_giv oa_giv iw_callm hk_callm ak_callm is_callm ia_callm tg_callm md_callm ef_i2q ef_q2i ef_q2q iw_i2q iw_q2i iw_q2q ia_i2q ia_q2i ia_q2q bq_and bq_add bq_shr sq_shr tgv_nil gk_ref rk_ref ok_ref lo_ref pr_ref oa_ref retC_fn nr_fn ef_load_adr_fn ks_close cls_oad
attribute [local congr] nxM_congr ifP_congr nxP_congr nxZ_congr nxR_congr nxT_congr nxG_congr nxF_congr ghK_congr gate_congr nx_congr nxD_congr runL_congr runD_congr eff_congr calL_congr ret2_congr seqK_congr regK_congr condK_congr endK_congr drK_congr nxW_congr
attribute [local simp ↓] nxM_some rm_nil rm_one rm_gen nxT_some rt_nil rt_gen rt_gate nxZ_some rz_nil rz_gen nxP_some rq_nil rq_gen rq_gate nxR_some ru_nil ru_gen ru_gate nxG_some rg_nil rg_gen rg_gate nxF_some rf_nil rf_gen rf_gate ks_promote ks_freeze frz_own ks_rename ks_cell ghK_some gate_tt gate_tf gate_ft gate_ff gate_u nx_some nxD_some rl_nil rl_mv rl_gen rl_gate rd_nil rd_mv rd_gen rd_gate rd_free rr_false rr_true drK_some drK_none nxW_some rw_nil rw_gen rw_gate ks_region ks_seq ks_cut ks_cond ks_block seqK_n seqK_e seqK_r regK_some condK_t condK_f blkK_n blkK_r endK_n endK_r calL_some ret2_some opv_t opv_c
section
attribute [-simp] DV.cells
attribute [local simp] sliceD cells_st cells_sl cells_i cells_y cells_b cells_s cells_w
attribute [local simp] lend_e3 adopt_e3 new_e3 al_e3 lt_e3
def rw3 (A B C : List DV) : List DV := [.sl 0 A,.sl 0 B,.sl 0 C]
def stC0 (X : List DV) (s : Int) (i : Nat) : LS := ⟨[(0,.sl 0 X),(3,.i s),(9,.sl 0 X),(10,.i 3),(11,.i i)],[]⟩
def stC1 (X acc : List DV) (i : Nat) : LS := ⟨[(6,.own 12312 acc.length 0 acc.length),(25,.sl 0 X),(26,.i 3),(27,.i i)],[(12312,acc)]⟩
theorem cc_step0 {X es : List DV} {i : Nat} {s : Int} (h : atI X (i : Int) = some (.sl 0 es)) (hi : i < 3) (h0 : 0 ≤ s) (hb : s + es.length ≤ 1000000) :
  ex lf F_slices_Concat_impl_Choice_impl_Choice_L0 (stC0 X s i) = some (.normal,stC0 X (s + es.length) (i + 1)) := by
 have w1 : wr ((i : Int) + 1) = ((i + 1 : Nat) : Int) := by rw [wr_id (by omega) (by omega)]; omega
 have w2 : wr (s + (es.length : Int)) = s + es.length := wr_id (by omega) (by omega)
 have hi' : (i : Int) < 3 := by omega
 have ng : ¬ s + (es.length : Int) < 0 := by omega
 unfold stC0
 simp [F_slices_Concat_impl_Choice_impl_Choice_L0,hi',h,w1,w2,ng,-Int.natCast_add]
theorem cc_step1 {X es acc : List DV} {i : Nat} (h : atI X (i : Int) = some (.sl 0 es)) (hi : i < 3) (hb : acc.length + es.length ≤ 1000000) (hc : ∀ e ∈ es,e.cells.length = 3) :
  ex lf F_slices_Concat_impl_Choice_impl_Choice_L1 (stC1 X acc i) = some (.normal,stC1 X (acc ++ es) (i + 1)) := by
 have w1 : wr ((i : Int) + 1) = ((i + 1 : Nat) : Int) := by rw [wr_id (by omega) (by omega)]; omega
 have hi' : (i : Int) < 3 := by omega
 have lb : acc.length + es.length ≤ bound := by unfold bound; omega
 unfold stC1
 rw [List.length_append]
 simp [F_slices_Concat_impl_Choice_impl_Choice_L1,hi',h,w1,lb,if_pos hc,-Int.natCast_add]
set_option maxHeartbeats 4000000 in
theorem c_Concat {A B C : List DV} (hA : 0 < A.length) (hl : A.length + B.length + C.length ≤ 1000000) (cA : ∀ e ∈ A,e.cells.length = 3) (cB : ∀ e ∈ B,e.cells.length = 3) (cC : ∀ e ∈ C,e.cells.length = 3) :
  call lf n_slices_Concat_impl_Choice_impl_Choice [.sl 0 [.sl 0 A,.sl 0 B,.sl 0 C]] = some (.fr 3 (A ++ B ++ C),[]) := by
 have a0 : atI (rw3 A B C) ((0 : Nat) : Int) = some (.sl 0 A) := rfl
 have a1 : atI (rw3 A B C) ((1 : Nat) : Int) = some (.sl 0 B) := rfl
 have a2 : atI (rw3 A B C) ((2 : Nat) : Int) = some (.sl 0 C) := rfl
 have L0 : ex lf F_slices_Concat_impl_Choice_impl_Choice_W0 (stC0 (rw3 A B C) 0 0) = some (.exit 0,stC0 (rw3 A B C) ((A.length : Int) + B.length + C.length) 3) := by
  rw [w_slices_Concat_impl_Choice_impl_Choice_0,cc_step0 a0 (by omega) (by omega) (by omega)]
  simp only
  rw [w_slices_Concat_impl_Choice_impl_Choice_0,cc_step0 a1 (by omega) (by omega) (by omega)]
  simp only
  rw [w_slices_Concat_impl_Choice_impl_Choice_0,cc_step0 a2 (by omega) (by omega) (by omega)]
  simp only
  rw [w_slices_Concat_impl_Choice_impl_Choice_0,Int.zero_add]
  unfold stC0
  generalize rw3 A B C = X
  simp [F_slices_Concat_impl_Choice_impl_Choice_L0]
 have L1 : ex lf F_slices_Concat_impl_Choice_impl_Choice_W1 (stC1 (rw3 A B C) [] 0) = some (.exit 2,stC1 (rw3 A B C) (A ++ B ++ C) 3) := by
  rw [w_slices_Concat_impl_Choice_impl_Choice_1,cc_step1 a0 (by omega) (by simp; omega) cA]
  simp only
  rw [w_slices_Concat_impl_Choice_impl_Choice_1,cc_step1 a1 (by omega) (by simp; omega) cB]
  simp only
  rw [w_slices_Concat_impl_Choice_impl_Choice_1,cc_step1 a2 (by omega) (by simp; omega) cC]
  simp only
  rw [w_slices_Concat_impl_Choice_impl_Choice_1,List.nil_append]
  unfold stC1
  generalize rw3 A B C = X
  simp [F_slices_Concat_impl_Choice_impl_Choice_L1]
 have G : call lf n_slices_Grow_impl_Choice_impl_Choice [.nil,.i ((A.length : Int) + B.length + C.length)] = some (.fr 3 [],[]) := by
  rw [call_prim lf n_slices_Grow_impl_Choice_impl_Choice _ (F := F_slices_Grow_impl_Choice_impl_Choice) rfl rfl,grow_k,if_pos]
  unfold bound
  omega
 have rl : (rw3 A B C).length = 3 := rfl
 show call lf n_slices_Concat_impl_Choice_impl_Choice [.sl 0 (rw3 A B C)] = _
 rw [call_k lf n_slices_Concat_impl_Choice_impl_Choice _ (F := F_slices_Concat_impl_Choice_impl_Choice) rfl rfl]
 unfold stC0 at L0
 unfold stC1 at L1
 simp only [Int.natCast_zero,List.length_nil] at L0 L1
 generalize rw3 A B C = X at *
 generalize (A.length : Int) + B.length + C.length = n at *
 generalize A ++ B ++ C = Y at *
 simp [F_slices_Concat_impl_Choice_impl_Choice,L0,L1,G,rl]
theorem cells_e3 (P : List C3) : ∀ e ∈ P.map e3,e.cells.length = 3 := fun e he => by
 obtain ⟨x,_,rfl⟩ := List.mem_map.1 he
 rfl
set_option maxHeartbeats 8000000 in
theorem c_impl_laidOut (a : Int) {place : Nat} {N Y : List C3} (hb : place + 1 + N.length + Y.length ≤ 1000) :
  call lf n_impl_laidOut [.i a,.i place,.sl 0 (N.map e3),.sl 0 (Y.map e3)] = some (.fr 3 ([.st [.i a,.i (if N = [] then -1 else ((place + 1 : Nat) : Int)),.i (if Y = [] then -1 else ((place + 1 + N.length : Nat) : Int))]] ++ N.map e3 ++ Y.map e3),[]) := by
 have w1 : wr ((place : Int) + 1) = ((place + 1 : Nat) : Int) := by rw [wr_id (by omega) (by omega)]; omega
 have w2 : wr (((place + 1 : Nat) : Int) + (N.length : Int)) = ((place + 1 + N.length : Nat) : Int) := by rw [wr_id (by omega) (by omega)]; omega
 have cN := cells_e3 N
 have cY := cells_e3 Y
 have lN : (N.map e3).length = N.length := by simp
 have lY : (Y.map e3).length = Y.length := by simp
 have eN := lend_e3 N
 have eY := lend_e3 Y
 have aN' := fun x => adopt_e3 x N
 have aY' := fun x => adopt_e3 x Y
 have nN := new_e3 N
 have nY := new_e3 Y
 have CC := fun (b c : Int) => c_Concat (A := [.st [.i a,.i b,.i c]]) (B := N.map e3) (C := Y.map e3) (by simp) (by simp; omega) (fun e he => by
  have : e = .st [.i a,.i b,.i c] := by simpa using he
  rw [this]; rfl) cN cY
 rw [call_k lf n_impl_laidOut _ (F := F_impl_laidOut) rfl rfl]
 have gN : 0 < N.length ↔ N ≠ [] := List.length_pos_iff
 have gY : 0 < Y.length ↔ Y ≠ [] := List.length_pos_iff
 by_cases hN : N = []
 ·have pN : ¬ 0 < N.length := fun h => gN.1 h hN
  rw [if_pos hN]
  by_cases hY : Y = []
  ·have pY : ¬ 0 < Y.length := fun h => gY.1 h hY
   rw [if_pos hY]
   clear hN hY gN gY
   generalize N.map e3 = M at *
   generalize Y.map e3 = Q at *
   generalize N.length = n at *
   generalize Y.length = y at *
   simp [F_impl_laidOut,w1,w2,pN,pY,CC,lN,lY,eN,eY,aN',aY',nN,nY,if_pos cN,if_pos cY,-Int.natCast_add]
  ·have pY : 0 < Y.length := gY.2 hY
   rw [if_neg hY]
   clear hN hY gN gY
   generalize N.map e3 = M at *
   generalize Y.map e3 = Q at *
   generalize N.length = n at *
   generalize Y.length = y at *
   simp [F_impl_laidOut,w1,w2,pN,pY,CC,lN,lY,eN,eY,aN',aY',nN,nY,if_pos cN,if_pos cY,-Int.natCast_add]
 ·have pN : 0 < N.length := gN.2 hN
  rw [if_neg hN]
  by_cases hY : Y = []
  ·have pY : ¬ 0 < Y.length := fun h => gY.1 h hY
   rw [if_pos hY]
   clear hN hY gN gY
   generalize N.map e3 = M at *
   generalize Y.map e3 = Q at *
   generalize N.length = n at *
   generalize Y.length = y at *
   simp [F_impl_laidOut,w1,w2,pN,pY,CC,lN,lY,eN,eY,aN',aY',nN,nY,if_pos cN,if_pos cY,-Int.natCast_add]
  ·have pY : 0 < Y.length := gY.2 hY
   rw [if_neg hY]
   clear hN hY gN gY
   generalize N.map e3 = M at *
   generalize Y.map e3 = Q at *
   generalize N.length = n at *
   generalize Y.length = y at *
   simp [F_impl_laidOut,w1,w2,pN,pY,CC,lN,lY,eN,eY,aN',aY',nN,nY,if_pos cN,if_pos cY,-Int.natCast_add]
end
section
def pA (us : List T) (k : Nat) : Int := (us.getD k (0,0)).2
end
section
structure CS where
 c : Nat → Int
 p : Nat → Int
 q : Nat → Int
 lA : Nat → Nat → Bool
 lB : Nat → Nat → Bool
 ch : List Nat → Nat → Nat
def rk (l : Nat → Nat → Bool) (S : List Nat) (i : Nat) : Nat := S.countP fun x => l x i
def CS.inA (C : CS) (S : List Nat) (k i : Nat) : Prop := rk C.lA S i < k
def CS.inB (C : CS) (S : List Nat) (k i : Nat) : Prop := rk C.lB S i + k ≤ S.length
/-- a strict order of all -/
structure SO (D : Nat → Prop) (l : Nat → Nat → Bool) : Prop where
 asy : ∀ a b,D a → D b → l a b = true → l b a = false
 tr : ∀ a b c,D a → D b → D c → l a b = true → l b c = true → l a c = true
 tot : ∀ a b,D a → D b → a ≠ b → l a b = true ∨ l b a = true
structure CSok (C : CS) (D : Nat → Prop) : Prop where
 c0 : ∀ i,D i → 0 ≤ C.c i
 pq : ∀ i,D i → 0 ≤ C.p i ∧ 0 ≤ C.q i ∧ C.p i + C.q i = 6
 oA : SO D C.lA
 oB : SO D C.lB
 rA : ∀ i j,D i → D j → C.lA i j = true → C.c i * C.p j ≤ C.c j * C.p i
 rB : ∀ i j,D i → D j → C.lB i j = true → C.c i * C.q j ≤ C.c j * C.q i
 ch : ∀ S k,S.Nodup → (∀ x ∈ S,D x) → 1 ≤ k → k ≤ S.length → C.ch S k ∈ S ∧ C.inA S k (C.ch S k) ∧ C.inB S k (C.ch S k)
theorem rk_erase (l : Nat → Nat → Bool) {S : List Nat} {j : Nat} (hj : j ∈ S) (i : Nat) : rk l S i = rk l (S.erase j) i + if l j i = true then 1 else 0 := by
 unfold rk
 rw [(List.perm_cons_erase hj).countP_eq,List.countP_cons]
theorem rk_mono {D : Nat → Prop} {l : Nat → Nat → Bool} (h : SO D l) {S : List Nat} (hS : ∀ x ∈ S,D x) {i j : Nat} (hi : i ∈ S) (dj : D j) (hl : l i j = true) : rk l S i < rk l S j := by
 have di := hS i hi
 have a := rk_erase l hi i
 have b := rk_erase l hi j
 have ii : l i i = false := by
  cases e : l i i with
  | false => rfl
  | true => have := h.asy i i di di e; rw [e] at this; exact this
 rw [ii] at a
 rw [hl] at b
 have m : rk l (S.erase i) i ≤ rk l (S.erase i) j := List.countP_mono_left fun x hx q => h.tr x i j (hS x (List.mem_of_mem_erase hx)) di dj q hl
 simp at a b
 omega
/-- what the rule costs -/
def vR (C : CS) : Nat → List Nat → Nat → Int
 | 0,_,_ => 0
 | f + 1,S,k => if k = 0 ∨ S.length < k then 0 else 6 ^ S.length * C.c (C.ch S k) + C.p (C.ch S k) * vR C f (S.erase (C.ch S k)) (k - 1) + C.q (C.ch S k) * vR C f (S.erase (C.ch S k)) k
def CS.V (C : CS) (S : List Nat) (k : Nat) : Int := vR C S.length S k
def CS.W (C : CS) (S : List Nat) (k i : Nat) : Int := 6 ^ S.length * C.c i + C.p i * C.V (S.erase i) (k - 1) + C.q i * C.V (S.erase i) k
theorem V_step {C : CS} {D : Nat → Prop} (ok : CSok C D) {S : List Nat} (nd : S.Nodup) (hS : ∀ x ∈ S,D x) {k : Nat} (h1 : 1 ≤ k) (h2 : k ≤ S.length) : C.V S k = C.W S k (C.ch S k) := by
 have hm := (ok.ch S k nd hS h1 h2).1
 have le := List.length_erase_of_mem hm
 unfold CS.W CS.V
 rw [le]
 obtain ⟨n,hn⟩ : ∃ n,S.length = n + 1 := ⟨S.length - 1,by omega⟩
 rw [hn]
 simp only [vR]
 rw [if_neg (by omega),hn]
 rfl
end
section
variable {C : CS} {D : Nat → Prop}
theorem inA_two (ok : CSok C D) {S : List Nat} (nd : S.Nodup) (hS : ∀ x ∈ S,D x) {k i j : Nat} (hi : i ∈ S) (hj : j ∈ S) (hne : i ≠ j) (ai : C.inA S k i) (aj : C.inA S k j) : C.inA (S.erase j) (k - 1) i := by
 unfold CS.inA at *
 have e := rk_erase C.lA hj i
 rcases ok.oA.tot i j (hS i hi) (hS j hj) hne with q | q
 ·have m := rk_mono ok.oA hS hi (hS j hj) q
  rw [ok.oA.asy i j (hS i hi) (hS j hj) q] at e
  simp at e
  omega
 ·have m := rk_mono ok.oA hS hj (hS i hi) q
  rw [q] at e
  simp at e
  omega
theorem inB_two (ok : CSok C D) {S : List Nat} (nd : S.Nodup) (hS : ∀ x ∈ S,D x) {k i j : Nat} (hi : i ∈ S) (hj : j ∈ S) (hne : i ≠ j) (ai : C.inB S k i) (aj : C.inB S k j) : C.inB (S.erase j) k i := by
 unfold CS.inB at *
 have e := rk_erase C.lB hj i
 have le := List.length_erase_of_mem hj
 have pos : 0 < S.length := List.length_pos_of_mem hj
 rcases ok.oB.tot i j (hS i hi) (hS j hj) hne with q | q
 ·have m := rk_mono ok.oB hS hi (hS j hj) q
  rw [ok.oB.asy i j (hS i hi) (hS j hj) q] at e
  simp at e
  omega
 ·have m := rk_mono ok.oB hS hj (hS i hi) q
  rw [q] at e
  simp at e
  omega
theorem inA_less {S : List Nat} {k i j : Nat} (hj : j ∈ S) (ai : C.inA S k i) : C.inA (S.erase j) k i := by
 unfold CS.inA at *
 have e := rk_erase C.lA hj i
 omega
theorem inB_less {S : List Nat} {k i j : Nat} (hj : j ∈ S) (hk : 1 ≤ k) (ai : C.inB S k i) : C.inB (S.erase j) (k - 1) i := by
 unfold CS.inB at *
 have e := rk_erase C.lB hj i
 have le := List.length_erase_of_mem hj
 have pos : 0 < S.length := List.length_pos_of_mem hj
 omega
/-- what is said of all sets of so many tests -/
structure CM (C : CS) (D : Nat → Prop) (n : Nat) : Prop where
 E : ∀ S : List Nat,S.length = n → S.Nodup → (∀ x ∈ S,D x) → ∀ k i,1 ≤ k → k ≤ n → i ∈ S → C.inA S k i → C.inB S k i → C.V S k = C.W S k i
 L : ∀ T : List Nat,T.length = n → T.Nodup → (∀ x ∈ T,D x) → ∀ k y z,1 ≤ k → k + 1 ≤ n → y ∈ T → z ∈ T → y ≠ z → C.inA (T.erase z) k y → C.c y * C.q z ≤ C.c z * C.q y →
  (C.V (T.erase y) k - 6 * C.V ((T.erase z).erase y) (k - 1)) * C.q y ≤ (C.V (T.erase z) k - 6 * C.V ((T.erase z).erase y) (k - 1)) * C.q z + 6 ^ (n - 1) * (C.c z * C.q y - C.c y * C.q z)
 R : ∀ S : List Nat,S.length = n → S.Nodup → (∀ x ∈ S,D x) → ∀ k j,1 ≤ k → k ≤ n → j ∈ S → C.V S k ≤ C.W S k j
theorem cE (ok : CSok C D) {n : Nat} (ih : CM C D n) : ∀ S : List Nat,S.length = n + 1 → S.Nodup → (∀ x ∈ S,D x) → ∀ k i,1 ≤ k → k ≤ n + 1 → i ∈ S → C.inA S k i → C.inB S k i → C.V S k = C.W S k i := by
 intro S hl nd hS k i h1 h2 hi ai bi
 obtain ⟨m,am,bm⟩ := ok.ch S k nd hS h1 (by omega)
 rw [V_step ok nd hS h1 (by omega)]
 generalize C.ch S k = j at *
 by_cases e : i = j
 ·rw [e]
 have si := List.length_erase_of_mem hi
 have sj := List.length_erase_of_mem m
 have nde : ∀ x,(S.erase x).Nodup := fun x => nd.erase x
 have hSe : ∀ y,∀ x ∈ S.erase y,D x := fun y x hx => hS x (List.mem_of_mem_erase hx)
 have ij : i ∈ S.erase j := (List.mem_erase_of_ne e).2 hi
 have ji : j ∈ S.erase i := (List.mem_erase_of_ne (Ne.symm e)).2 m
 have a1 := inA_two ok nd hS hi m e ai am
 have a2 := inA_two ok nd hS m hi (Ne.symm e) am ai
 have b1 := inB_two ok nd hS hi m e bi bm
 have b2 := inB_two ok nd hS m hi (Ne.symm e) bm bi
 have k1 : 2 ≤ k := by unfold CS.inA at a1; omega
 have k2 : k ≤ n := by unfold CS.inB at b1; omega
 have w1 := ih.E (S.erase j) (by omega) (nde j) (hSe j) (k - 1) i (by omega) (by omega) ij a1 (inB_less m (by omega) bi)
 have w2 := ih.E (S.erase j) (by omega) (nde j) (hSe j) k i (by omega) (by omega) ij (inA_less m ai) b1
 have w3 := ih.E (S.erase i) (by omega) (nde i) (hSe i) (k - 1) j (by omega) (by omega) ji a2 (inB_less hi (by omega) bm)
 have w4 := ih.E (S.erase i) (by omega) (nde i) (hSe i) k j (by omega) (by omega) ji (inA_less hi am) b2
 have ec : (S.erase i).erase j = (S.erase j).erase i := List.erase_comm ..
 unfold CS.W at *
 rw [w1,w2,w3,w4,ec,si,sj,hl]
 have p6 : (6 : Int) ^ (n + 1) = 6 * 6 ^ (n + 1 - 1) := by rw [Nat.add_sub_cancel,Int.pow_succ,Int.mul_comm]
 rw [p6]
 have pi := (ok.pq i (hS i hi)).2.2
 have pj := (ok.pq j (hS j m)).2.2
 have qi : C.q i = 6 - C.p i := by omega
 have qj : C.q j = 6 - C.p j := by omega
 rw [qi,qj]
 generalize (6 : Int) ^ (n + 1 - 1) = X
 generalize C.V ((S.erase j).erase i) (k - 1 - 1) = v1
 generalize C.V ((S.erase j).erase i) (k - 1) = v2
 generalize C.V ((S.erase j).erase i) k = v3
 grind
end
section
/-- tests,the two orders by ratios,and the least test of both -/
def tltA (us : List T) (a b : Nat) : Bool := decide (cA us a * pA us b < cA us b * pA us a ∨ cA us b * pA us a = cA us a * pA us b ∧ a < b)
def tltB (us : List T) (a b : Nat) : Bool := decide (cA us a * (6 - pA us b) < cA us b * (6 - pA us a) ∨ cA us b * (6 - pA us a) = cA us a * (6 - pA us b) ∧ a < b)
def bothL (us : List T) (S : List Nat) (k : Nat) : List Nat := S.filter fun i => decide (rk (tltA us) S i < k) && decide (rk (tltB us) S i + k ≤ S.length)
def cs (us : List T) : CS := ⟨cA us,pA us,fun i => 6 - pA us i,tltA us,tltB us,fun S k => (bothL us S k).headD 0⟩
end
section
/-- what is not known,and how many yes -/
def unk (m : Nat) (ks : List Int) : List Nat := (List.range m).filter fun k => ks[k]? == some (-1)
end
section
/-- one more of the first ones -/
def stpF (so n a k : Nat) : Nat := if pc a < n ∧ so.testBit k = true then a ||| 2 ^ k else a
def fF (so n : Nat) (l : List Nat) : Nat := l.foldl (stpF so n) 0
/-- what is left,in ascending order -/
def Sl (m so : Nat) : List Nat := (List.range m).filter fun k => so.testBit k
/-- the next one -/
def nx (us : List T) (so k : Nat) : Nat := (cs us).ch (Sl us.length so) k
end
section
attribute [-simp] DV.cells sliceD
attribute [local simp] cells_st cells_sl cells_i cells_y cells_b cells_s cells_w
/-- how many bits are ones,one by one -/
def hb : Nat → Nat → Nat
 | 0,_ => 0
 | f + 1,n => n % 2 + hb f (n / 2)
def ctOk (us : List T) (k : Int) : Bool := tsOk us && decide (1 ≤ k ∧ k ≤ us.length)
end
section
attribute [-simp] DV.cells sliceD
attribute [local simp] cells_st cells_sl cells_i cells_y cells_b cells_s cells_w
attribute [local simp] lend_e3 adopt_e3 new_e3 al_e3 lt_e3
theorem c_impl_writeValue (b : Bool) : call lf n_impl_writeValue [.i (bI b)] = some (.s [dgt (bI b)],[]) := by
 have v0 : wr 48 = 48 := wr_id (by omega) (by omega)
 have v1 : wr 49 = 49 := wr_id (by omega) (by omega)
 have i0 : Go.IntKind.i32.wrap 48 = 48 ∧ Go.IntKind.i32.wrap 49 = 49 := by decide
 rw [call_k lf n_impl_writeValue _ (F := F_impl_writeValue) rfl rfl]
 cases b <;> simp [F_impl_writeValue,bI,v0,v1,i0,dgt]
theorem c_impl_writeChoice {k : Nat} (hk : k < 5) {A B : List UInt8} (ha : A.length ≤ 100000) (hb : B.length ≤ 100000) : call lf n_impl_writeChoice [.i k,.s A,.s B] = some (.s (ltr k :: 40 :: (A ++ 44 :: (B ++ [41]))),[]) := by
 have C := c_impl_letterOf (a := k) ⟨by omega,by omega⟩
 have e : ((97 : Int) + k).toNat.toUInt8 = ltr k := by
  unfold ltr
  rw [show ((97 : Int) + k).toNat = 97 + k by omega]
 rw [e] at C
 have b0 : 2 ≤ bound := by unfold bound; omega
 have b1 : 2 + A.length ≤ bound := by unfold bound; omega
 have b2 : 2 + (A.length + 1) ≤ bound := by unfold bound; omega
 have b3 : A.length + 1 + 1 ≤ bound := by unfold bound; omega
 have b4 : A.length + 1 + 1 + 1 ≤ bound := by unfold bound; omega
 have b5 : A.length + (B.length + 1) + 1 + 1 ≤ bound := by unfold bound; omega
 have b6 : A.length + (B.length + 1 + 1) + 1 + 1 ≤ bound := by unfold bound; omega
 have b8 : A.length + 1 + 1 + 1 + B.length ≤ bound := by unfold bound; omega
 have b7 : A.length + (B.length + 1) + 1 + 1 + 1 ≤ bound := by unfold bound; omega
 rw [call_k lf n_impl_writeChoice _ (F := F_impl_writeChoice) rfl rfl]
 generalize ltr k = l at *
 simp [F_impl_writeChoice,C,b0,b1,b2,b3,b4,b5,b6,b7,b8]
set_option maxHeartbeats 4000000 in
theorem c_foldPlan_string {m : Nat} (hm : m ≤ 5) {t : List T} (ht : tmOk m t = true) {P : List C3} (hP : P.length ≤ 40) : ∀ (L : LT) (a : Int) (ks : List Int),ks.length = m → ks.all kOk = true → enc P a L → okT m t ks L.er → L.size ≤ 40 →
  call lf n_impl_foldPlan_string [.sl 0 (P.map e3),.i a,pD m t ks,.fn n_impl_writeValue [],.fn n_impl_writeChoice []] = some (.s (ptx m t ks L.er),[])
 | .stop,a,ks,hl,hk,he,ho,_ => by
  have he : a = -1 := he
  subst he
  have C3 := c_value (t := t) ht hl hk
  obtain ⟨b,e,_⟩ := fcd_val hl hk ho
  rw [e] at C3
  have C1 := c_impl_writeValue b
  rw [call_k lf n_impl_foldPlan_string _ (F := F_impl_foldPlan_string) rfl rfl]
  simp only [LT.er,ptx,e]
  unfold pD pv at *
  generalize aN ks = x at *
  generalize lfW ks = y at *
  simp [F_impl_foldPlan_string,C3,C1]
 | .ask p k n y,a,ks,hl,hk,⟨e,no,ye,g1,g2,g3,g4,g5⟩,⟨o1,o2,o3,o4⟩,hz => by
  subst e
  simp only [LT.size] at hz
  have G0 := c_foldPlan_string hm ht hP n no (ks.set k (bI false)) (by simpa using hl) (kOk_set hk k false) g4 (by rw [bI_0]; exact o3) (by omega)
  have G1 := c_foldPlan_string hm ht hP y ye (ks.set k (bI true)) (by simpa using hl) (kOk_set hk k true) g5 (by rw [bI_1]; exact o4) (by omega)
  have kk : k < ks.length := (List.getElem?_eq_some_iff.1 o2).1
  have pp : p < P.length := (List.getElem?_eq_some_iff.1 g1).1
  have B0 := c_answered (m := m) (t := t) false (by omega) hk o2
  have B1 := c_answered (m := m) (t := t) true (by omega) hk o2
  rw [bI_0] at G0 B0
  rw [bI_1] at G1 B1
  have pc : (p : Int) < P.length := by omega
  have AT := at_e3 g1
  have AN := atN_e3 g1
  simp only at AT AN
  have pn : ((p : Int) == -1) = false := beq_eq_false_iff_ne.2 (by omega)
  have l0 := ptx_len m t n.er (ks.set k 0)
  have l1 := ptx_len m t y.er (ks.set k 1)
  rw [er_size] at l0 l1
  have W := c_impl_writeChoice (k := k) (by omega) (A := ptx m t (ks.set k 0) n.er) (B := ptx m t (ks.set k 1) y.er) (by omega) (by omega)
  have lE := lend_e3 P
  have lm : (P.map e3).length = P.length := by simp
  rw [call_k lf n_impl_foldPlan_string _ (F := F_impl_foldPlan_string) rfl rfl]
  simp only [LT.er,ptx]
  generalize ltr k :: 40 :: (ptx m t (ks.set k 0) n.er ++ 44 :: (ptx m t (ks.set k 1) y.er ++ [41])) = R at *
  generalize ptx m t (ks.set k 0) n.er = S0 at *
  generalize ptx m t (ks.set k 1) y.er = S1 at *
  unfold pD pv at *
  generalize aN (ks.set k 0) = x0 at *
  generalize lfW (ks.set k 0) = y0 at *
  generalize aN (ks.set k 1) = x1 at *
  generalize lfW (ks.set k 1) = y1 at *
  generalize aN ks = x at *
  generalize lfW ks = y at *
  generalize P.map e3 = E at *
  simp [F_impl_foldPlan_string,pn,AT,AN,pp,pc,lE,lm,B0,B1,G0,G1,W]
theorem c_impl_PlanText {m : Nat} {t : List T} {P : List C3} {L : LT} (hb : (t.length : Int) < 1099511627776) (ht : tmOk m t = true) (h : isPl m t P L) : call lf n_impl_PlanText [.i m,.sl 0 (t.map e2),.sl 0 (P.map e3)] = some (.s (ptx m t (non m) L.er),[]) := by
 obtain ⟨g3,g4,_⟩ := tmOk_iff.1 ht
 have few := h.few
 have C1 := c_impl_PlanOk (m := m) hb (P := P) (by omega)
 rw [pk_iff.2 ⟨ht,L,h⟩] at C1
 have C2 := c_firstOf P (by omega)
 have C3 := c_startOf (t := t) (m := m) (by omega) ht
 have C4 := c_foldPlan_string (m := m) (by omega) ht (P := P) (by omega) L (rot P) (non m) (non_len _) (non_all _) h.e h.ok (by rw [h.sz]; omega)
 have hLE := lend_e3 P
 have l2 := lend_e2 t
 rw [call_k lf n_impl_PlanText _ (F := F_impl_PlanText) rfl rfl]
 generalize ptx m t (non m) L.er = S at *
 unfold pD pv at *
 generalize P.map e3 = E at *
 simp [F_impl_PlanText,C1,C2,C3,C4,hLE]
theorem c_impl_PlanText_no {m : Int} {t : List T} {P : List C3} (hb : (t.length : Int) < 1099511627776) (hN : (P.length : Int) < 1099511627776) (h : pkOk m t P = false) : call lf n_impl_PlanText [.i m,.sl 0 (t.map e2),.sl 0 (P.map e3)] = some (.s [],[]) := by
 have C1 := c_impl_PlanOk (m := m) hb hN
 rw [h] at C1
 rw [call_k lf n_impl_PlanText _ (F := F_impl_PlanText) rfl rfl]
 simp [F_impl_PlanText,C1]
theorem c_HasPrefix (s : List UInt8) (c : UInt8) : call lf n_internal_stringslite_HasPrefix [.s s,.s [c]] = some (.b (decide (s.head? = some c)),[]) := by
 rw [call_k lf n_internal_stringslite_HasPrefix _ (F := F_internal_stringslite_HasPrefix) rfl rfl]
 cases s with
 | nil => simp [F_internal_stringslite_HasPrefix]
 | cons b r =>
  have l1 : 1 ≤ (r.length : Int) + 1 := by omega
  simp only [List.head?_cons,Option.some.injEq]
  by_cases e : b = c
  ·subst e
   simp [F_internal_stringslite_HasPrefix,l1]
  ·simp [F_internal_stringslite_HasPrefix,l1,e]
theorem c_CutPrefix (s : List UInt8) (c : UInt8) : call lf n_strings_CutPrefix [.s s,.s [c]] = some (if s.head? = some c then .tup [.s s.tail,.b true] else .tup [.s s,.b false],[]) := by
 have H := c_HasPrefix s c
 have C : call lf n_internal_stringslite_CutPrefix [.s s,.s [c]] = some (if s.head? = some c then .tup [.s s.tail,.b true] else .tup [.s s,.b false],[]) := by
  rw [call_k lf n_internal_stringslite_CutPrefix _ (F := F_internal_stringslite_CutPrefix) rfl rfl]
  by_cases h : s.head? = some c
  ·rw [decide_eq_true h] at H
   rw [if_pos h]
   cases s with
   | nil => cases h
   | cons b r =>
    have l1 : 1 ≤ (r.length : Int) + 1 := by omega
    simp [F_internal_stringslite_CutPrefix,H,l1]
  ·rw [decide_eq_false h] at H
   rw [if_neg h]
   simp [F_internal_stringslite_CutPrefix,H]
 rw [call_k lf n_strings_CutPrefix _ (F := F_strings_CutPrefix) rfl rfl]
 by_cases h : s.head? = some c
 ·rw [if_pos h] at C ⊢
  simp [F_strings_CutPrefix,C]
 ·rw [if_neg h] at C ⊢
  simp [F_strings_CutPrefix,C]
/-- what is read,as it is handed back -/
def enR : Option (List C3 × List UInt8) → DV
 | none => .tup [.fr 3 [],.s [],.b false]
 | some (P,r) => .tup [.fr 3 (P.map e3),.s r,.b true]
theorem c_readBehind (c : UInt8) (s : List UInt8) (place : Nat) (o : Option (List C3 × List UInt8)) (H : s.head? = some c → call lf n_impl_readChoices [.s s.tail,.i place] = some (enR o,[])) :
  call lf n_impl_readBehind [.s [c],.s s,.i place] = some (enR (if s.head? = some c then o else none),[]) := by
 have C := c_CutPrefix s c
 rw [call_k lf n_impl_readBehind _ (F := F_impl_readBehind) rfl rfl]
 by_cases h : s.head? = some c
 ·rw [if_pos h] at C ⊢
  have H := H h
  cases o with
  | none =>
   simp only [enR] at H ⊢
   simp [F_impl_readBehind,C,H]
  | some q =>
   obtain ⟨P,r⟩ := q
   simp only [enR] at H ⊢
   have lP : (P.map e3).length = P.length := by simp
   have aP := fun x => adopt_e3 x P
   have tk := tk_e3 P
   generalize P.map e3 = E at *
   simp [F_impl_readBehind,C,H,lP,aP,tk]
 ·rw [if_neg h] at C ⊢
  simp only [enR]
  simp [F_impl_readBehind,C]
/-- one step of the reader,once what it calls is known -/
def rdS (b : UInt8) (place : Nat) (o1 : Option (List C3 × List UInt8)) (o2 : List C3 → List UInt8 → Option (List C3 × List UInt8)) : Option (List C3 × List UInt8) := match o1 with
 | none => none
 | some (N,r2) => match o2 N r2 with
  | none => none
  | some (Y,r4) => if r4.head? = some 41 then some (layI ((b.toNat : Int) - 97) place N Y,r4.tail) else none
set_option maxHeartbeats 4000000 in
theorem c_readChoices_step {b : UInt8} {r : List UInt8} {place : Nat} (hb : ¬ (b = 48 ∨ b = 49)) (hp : place + r.length ≤ 900) (o1 : Option (List C3 × List UInt8)) (o2 : List C3 → List UInt8 → Option (List C3 × List UInt8))
  (C1 : call lf n_impl_readBehind [.s [40],.s r,.i ((place + 1 : Nat) : Int)] = some (enR o1,[]))
  (C0 : call lf n_impl_readBehind [.s [44],.s [],.i ((place + 1 : Nat) : Int)] = some (enR none,[]))
  (C2 : ∀ N r2,o1 = some (N,r2) → N.length + r2.length ≤ r.length ∧ call lf n_impl_readBehind [.s [44],.s r2,.i ((place + 1 + N.length : Nat) : Int)] = some (enR (o2 N r2),[]))
  (C3 : ∀ N r2 Y r4,o1 = some (N,r2) → o2 N r2 = some (Y,r4) → Y.length + r4.length ≤ r2.length) :
  call lf n_impl_readChoices [.s (b :: r),.i place] = some (enR (rdS b place o1 o2),[]) := by
 have w1 : wr ((place : Int) + 1) = ((place + 1 : Nat) : Int) := by rw [wr_id (by omega) (by omega)]; omega
 have b0 : (b.toNat == 48) = false := beq_eq_false_iff_ne.2 (fun q => hb (.inl (UInt8.toNat_inj.1 (by simpa using q))))
 have b1 : (b.toNat == 49) = false := beq_eq_false_iff_ne.2 (fun q => hb (.inr (UInt8.toNat_inj.1 (by simpa using q))))
 have l1 : 1 ≤ ((r.length + 1 : Nat) : Int) := by omega
 have K0 := c_CutPrefix [] 41
 simp only [List.head?_nil,reduceCtorEq,if_false] at K0
 rw [call_k lf n_impl_readChoices _ (F := F_impl_readChoices) rfl rfl]
 cases o1 with
 | none =>
  simp only [enR,rdS] at C1 C0 ⊢
  have w2 : wr ((place + 1 : Nat) : Int) = ((place + 1 : Nat) : Int) := wr_id (by omega) (by omega)
  simp [F_impl_readChoices,b0,b1,l1,w1,w2,C1,C0,K0,-Int.natCast_add]
 | some q =>
  obtain ⟨N,r2⟩ := q
  obtain ⟨z1,C2⟩ := C2 N r2 rfl
  have w2 : wr (((place + 1 : Nat) : Int) + (N.length : Int)) = ((place + 1 + N.length : Nat) : Int) := by rw [wr_id (by omega) (by omega)]; omega
  have lN : (N.map e3).length = N.length := by simp
  have aN' := fun x => adopt_e3 x N
  have eN := lend_e3 N
  have tN : List.take N.length (N.map e3) = N.map e3 := List.take_of_length_le (by simp)
  simp only [rdS]
  cases h2 : o2 N r2 with
  | none =>
   rw [h2] at C2
   simp only [enR] at C1 C2 ⊢
   generalize N.map e3 = M at *
   generalize N.length = n at *
   simp [F_impl_readChoices,b0,b1,l1,w1,w2,C1,C2,K0,lN,aN',eN,tN,-Int.natCast_add]
  | some q =>
   obtain ⟨Y,r4⟩ := q
   have z2 := C3 N r2 Y r4 rfl h2
   rw [h2] at C2
   simp only [enR] at C1 C2 ⊢
   have K4 := c_CutPrefix r4 41
   have lY : (Y.map e3).length = Y.length := by simp
   have aY' := fun x => adopt_e3 x Y
   have eY := lend_e3 Y
   have tY : List.take Y.length (Y.map e3) = Y.map e3 := List.take_of_length_le (by simp)
   by_cases h4 : r4.head? = some 41
   ·rw [if_pos h4] at K4 ⊢
    have P := c_impl_placeOf b
    have LO := c_impl_laidOut ((b.toNat : Int) - 97) (place := place) (N := N) (Y := Y) (by omega)
    have fin : (layI ((b.toNat : Int) - 97) place N Y).map e3 = [.st [.i ((b.toNat : Int) - 97),.i (if N = [] then -1 else ((place + 1 : Nat) : Int)),.i (if Y = [] then -1 else ((place + 1 + N.length : Nat) : Int))]] ++ N.map e3 ++ Y.map e3 := by
     unfold layI
     simp [e3]
    rw [← fin] at LO
    clear fin
    have nL := new_e3 (layI ((b.toNat : Int) - 97) place N Y)
    have aL := fun x => adopt_e3 x (layI ((b.toNat : Int) - 97) place N Y)
    have lL : ((layI ((b.toNat : Int) - 97) place N Y).map e3).length = (layI ((b.toNat : Int) - 97) place N Y).length := by simp
    have tL : List.take (layI ((b.toNat : Int) - 97) place N Y).length ((layI ((b.toNat : Int) - 97) place N Y).map e3) = (layI ((b.toNat : Int) - 97) place N Y).map e3 := List.take_of_length_le (by simp)
    simp only
    generalize (layI ((b.toNat : Int) - 97) place N Y).map e3 = R at *
    generalize (layI ((b.toNat : Int) - 97) place N Y).length = lr at *
    generalize N.map e3 = M at *
    generalize Y.map e3 = Q at *
    generalize N.length = n at *
    generalize Y.length = y at *
    simp [F_impl_readChoices,b0,b1,l1,w1,w2,C1,C2,K4,P,LO,lN,aN',eN,tN,lY,aY',eY,tY,nL,aL,lL,tL,-Int.natCast_add]
   ·rw [if_neg h4] at K4 ⊢
    simp only
    generalize N.map e3 = M at *
    generalize Y.map e3 = Q at *
    generalize N.length = n at *
    generalize Y.length = y at *
    simp [F_impl_readChoices,b0,b1,l1,w1,w2,C1,C2,K4,lN,aN',eN,tN,lY,aY',eY,tY,-Int.natCast_add]
theorem rdC_step {f place : Nat} {b : UInt8} {r : List UInt8} (hb : ¬ (b = 48 ∨ b = 49)) : rdC (f + 1) place (b :: r) = rdS b place (if r.head? = some 40 then rdC f (place + 1) r.tail else none) (fun N r2 => if r2.head? = some 44 then rdC f (place + 1 + N.length) r2.tail else none) := by
 simp only [rdC,rdS]
 rw [if_neg hb]
 by_cases h : r.head? = some 40
 ·rw [if_neg (fun q => q h),if_pos h]
  cases rdC f (place + 1) r.tail with
  | none => rfl
  | some q =>
   obtain ⟨N,r2⟩ := q
   simp only
   by_cases h2 : r2.head? = some 44
   ·rw [if_neg (fun q => q h2),if_pos h2]
    cases rdC f (place + 1 + N.length) r2.tail with
    | none => rfl
    | some q =>
     obtain ⟨Y,r4⟩ := q
     simp only
     by_cases h3 : r4.head? = some 41
     ·rw [if_neg (fun q => q h3),if_pos h3]
     ·rw [if_pos h3,if_neg h3]
   ·rw [if_pos h2,if_neg h2]
 ·rw [if_pos h,if_neg h]
theorem tail_of {l : List UInt8} {v : UInt8} (h : l.head? = some v) : l.tail.length + 1 = l.length := by
 cases l with
 | nil => cases h
 | cons a l => rfl
theorem c_readChoices : ∀ (f : Nat) (s : List UInt8) (place : Nat),s.length < f → place + s.length ≤ 900 → call lf n_impl_readChoices [.s s,.i place] = some (enR (rdC f place s),[])
 | 0,_,_,h,_ => absurd h (Nat.not_lt_zero _)
 | f + 1,[],place,_,_ => by
  rw [call_k lf n_impl_readChoices _ (F := F_impl_readChoices) rfl rfl]
  simp [F_impl_readChoices,rdC,enR]
 | f + 1,b :: r,place,hf,hp => by
  simp only [List.length_cons] at hf hp
  by_cases hb : b = 48 ∨ b = 49
  ·have l1 : 1 ≤ (r.length : Int) + 1 := by omega
   have e : rdC (f + 1) place (b :: r) = some ([],r) := by
    simp only [rdC]
    rw [if_pos hb]
   rw [e]
   rw [call_k lf n_impl_readChoices _ (F := F_impl_readChoices) rfl rfl]
   rcases hb with rfl | rfl <;> simp [F_impl_readChoices,l1,enR]
  ·rw [rdC_step hb]
   refine c_readChoices_step hb (by omega) _ _ (c_readBehind 40 r (place + 1) _ (fun h => ?_)) (by
    have := c_readBehind 44 [] (place + 1) none (fun h => by cases h)
    simpa using this) (fun N r2 h => ?_) (fun N r2 Y r4 h1 h2 => ?_)
   ·have := tail_of h
    exact c_readChoices f r.tail (place + 1) (by omega) (by omega)
   ·have z : N.length + r2.length ≤ r.length ∧ N.length + r2.length + 1 ≤ r.tail.length := by
     split at h
     ·rename_i q
      have := tail_of q
      have := rdC_few _ _ _ _ _ h
      omega
     ·cases h
    refine ⟨z.1,c_readBehind 44 r2 (place + 1 + N.length) _ (fun q => ?_)⟩
    have l := tail_of q
    have l2 : r.tail.length ≤ r.length := by simp
    exact c_readChoices f r2.tail (place + 1 + N.length) (by omega) (by omega)
   ·split at h2
    ·rename_i q
     have := tail_of q
     have := rdC_few _ _ _ _ _ h2
     omega
    ·cases h2
/-- what the two readers have to do with each other -/
theorem rpl_C {m : Int} {t : List T} {s : List UInt8} {x : PT} (h : rpl m.toNat t s = some x) : tmOk m t = true ∧ m.toNat ≤ 5 ∧ ((m.toNat : Nat) : Int) = m ∧ okT m.toNat t (non m.toNat) x ∧ ptx m.toNat t (non m.toNat) x = s ∧ rdC (s.length + 1) 0 s = some (ser x 0,[]) := by
 have h' := h
 unfold rpl at h'
 split at h'
 ·cases h'
 split at h'
 ·split at h'
  ·next q =>
   have ht := pkOk_tm q.1
   obtain ⟨g1,_,_⟩ := tmOk_iff.1 ht
   have mm : ((m.toNat : Nat) : Int) = m := by omega
   have m5 : m.toNat ≤ 5 := by omega
   obtain ⟨a1,a2,a3⟩ := rpl_to m5 h
   rw [mm] at a1
   have l := okT_lt m5 x _ (non_len _) a2
   have n := ptx_len m.toNat t x (non m.toNat)
   rw [a3] at n
   have r := rdC_ptx (m := m.toNat) (t := t) x (non m.toNat) (s.length + 1) 0 [] l (by omega)
   rw [List.append_nil,a3] at r
   exact ⟨a1,m5,mm,a2,a3,r⟩
  ·cases h'
 ·cases h'
theorem rq_no {s : List UInt8} {m : Int} {t : List T} (hs : s.length ≤ 400) (o : Option (List C3 × List UInt8)) (C : call lf n_impl_readChoices [.s s,.i 0] = some (enR o,[])) (h : ∀ P,o ≠ some (P,[])) :
  call lf n_impl_ReadPlan [.i m,.sl 0 (t.map e2),.s s] = some (rpV none,[]) := by
 have hs' : ¬ (400 < (s.length : Int)) := by omega
 rw [call_k lf n_impl_ReadPlan _ (F := F_impl_ReadPlan) rfl rfl]
 cases o with
 | none =>
  simp only [enR] at C
  simp [F_impl_ReadPlan,hs',C,rpV]
 | some q =>
  obtain ⟨P,r⟩ := q
  cases r with
  | nil => exact absurd rfl (h P)
  | cons b r =>
   simp only [enR] at C
   have lP : (P.map e3).length = P.length := by simp
   have aP := fun x => adopt_e3 x P
   have tk := tk_e3 P
   generalize P.map e3 = E at *
   simp [F_impl_ReadPlan,hs',C,rpV,lP,aP,tk]
theorem rq_yes {s : List UInt8} {m : Int} {t : List T} {P : List C3} (hs : s.length ≤ 400) (C : call lf n_impl_readChoices [.s s,.i 0] = some (enR (some (P,[])),[])) {S : List UInt8} (CT : call lf n_impl_PlanText [.i m,.sl 0 (t.map e2),.sl 0 (P.map e3)] = some (.s S,[])) :
  call lf n_impl_ReadPlan [.i m,.sl 0 (t.map e2),.s s] = some (if S = s then .tup [.fr 3 (P.map e3),.b true] else rpV none,[]) := by
 have hs' : ¬ (400 < (s.length : Int)) := by omega
 simp only [enR] at C
 have lP : (P.map e3).length = P.length := by simp
 have aP := fun x => adopt_e3 x P
 have eP := lend_e3 P
 have tk := tk_e3 P
 rw [call_k lf n_impl_ReadPlan _ (F := F_impl_ReadPlan) rfl rfl]
 generalize P.map e3 = E at *
 by_cases e : S = s
 ·subst e
  simp [F_impl_ReadPlan,hs',C,CT,lP,aP,eP,tk]
 ·have e' : (S == s) = false := beq_false_of_ne e
  simp [F_impl_ReadPlan,hs',C,CT,lP,aP,eP,tk,e,e',rpV]
theorem c_impl_ReadPlan {m : Int} {t : List T} (hb : (t.length : Int) < 1099511627776) (s : List UInt8) :
  call lf n_impl_ReadPlan [.i m,.sl 0 (t.map e2),.s s] = some (rpV (rpl m.toNat t s),[]) := by
 by_cases hs : 400 < s.length
 ·have e : rpl m.toNat t s = none := by unfold rpl; rw [if_pos hs]
  have hs' : 400 < (s.length : Int) := by omega
  rw [e,call_k lf n_impl_ReadPlan _ (F := F_impl_ReadPlan) rfl rfl]
  simp [F_impl_ReadPlan,hs',rpV]
 ·have hs' : s.length ≤ 400 := by omega
  have C := c_readChoices (s.length + 1) s 0 (by omega) (by omega)
  by_cases hP : ∃ P,rdC (s.length + 1) 0 s = some (P,[])
  ·obtain ⟨P,e⟩ := hP
   rw [e] at C
   have few := rdC_few _ _ _ _ _ e
   by_cases hp : pkOk m t P = true
   ·have ht := pkOk_tm hp
    obtain ⟨mm,m5⟩ := tm_nat ht
    have ht' := ht
    have hp' := hp
    rw [← mm] at ht' hp'
    obtain ⟨_,L,hL⟩ := pk_iff.1 hp'
    have CT := c_impl_PlanText hb ht' hL
    rw [mm] at CT
    rw [rq_yes hs' C CT]
    by_cases g : ptx m.toNat t (non m.toNat) L.er = s
    ·rw [if_pos g]
     have r := rpl_of m5 ht' hL.ok
     rw [g] at r
     obtain ⟨_,_,_,_,_,q⟩ := rpl_C r
     rw [e] at q
     injection q with q
     simp only [Prod.mk.injEq,and_true] at q
     rw [r,q]
     rfl
    ·rw [if_neg g]
     cases hr : rpl m.toNat t s with
     | none => rfl
     | some x =>
      exfalso
      obtain ⟨a1,a2,a3,a4,a5,a6⟩ := rpl_C hr
      rw [e] at a6
      injection a6 with a6
      simp only [Prod.mk.injEq,and_true] at a6
      have CT2 := c_impl_PlanText hb ht' (ser_pl m5 a4)
      rw [mm,lab_er,a5,← a6,CT] at CT2
      simp only [Option.some.injEq,Prod.mk.injEq,DV.s.injEq,and_true] at CT2
      exact g CT2
   ·have CT := c_impl_PlanText_no (m := m) (t := t) (P := P) hb (by omega) (by simpa using hp)
    rw [rq_yes hs' C CT]
    have g : ¬ ([] : List UInt8) = s := by
     rintro rfl
     simp [rdC] at e
    rw [if_neg g]
    cases hr : rpl m.toNat t s with
    | none => rfl
    | some x =>
     exfalso
     obtain ⟨a1,a2,a3,a4,a5,a6⟩ := rpl_C hr
     rw [e] at a6
     injection a6 with a6
     simp only [Prod.mk.injEq,and_true] at a6
     have := (pk_ser a2).2 ⟨by rw [a3]; exact a1,a4⟩
     rw [← a6,a3] at this
     exact hp this
  ·rw [rq_no hs' _ C (fun P h => hP ⟨P,h⟩)]
   cases hr : rpl m.toNat t s with
   | none => rfl
   | some x =>
    obtain ⟨a1,a2,a3,a4,a5,a6⟩ := rpl_C hr
    exact absurd ⟨_,a6⟩ hP
def z3 : DV := .st [.i 0,.i 0,.i 0]
end
section
attribute [local simp] lend_e3 adopt_e3 new_e3 al_e3 lt_e3
theorem same_PlanText (m : Int) (t : List T) (P : List C3) (hb : (t.length : Int) < 1099511627776) (hc : (P.length : Int) < 1099511627776) :
  ∃ v : List UInt8,call lf n_impl_PlanText [.i m,.sl 0 (t.map e2),.sl 0 (P.map e3)] = some (.s v,[]) ∧ call lf n_spec_PlanText [.i m,.sl 0 (t.map e2),.sl 0 (P.map e3)] = some (.s v,[]) := by
 cases h : pkOk m t P with
 | false => exact ⟨_,c_impl_PlanText_no hb hc h,c_spec_PlanText_no hb hc h⟩
 | true =>
  obtain ⟨mm,m5⟩ := tm_nat (pkOk_tm h)
  rw [← mm] at h ⊢
  obtain ⟨ht,L,hL⟩ := pk_iff.1 h
  exact ⟨_,c_impl_PlanText hb ht hL,c_spec_PlanText hb ht hL⟩
theorem rpV_row (m : Nat) (t : List T) (s : List UInt8) : ∃ (w : List C3) (b : Bool),w.length ≤ 200 ∧ rpV (rpl m t s) = .tup [.fr 3 (w.map e3),.b b] := by
 cases e : rpl m t s with
 | none => exact ⟨[],false,by simp,rfl⟩
 | some x =>
  refine ⟨ser x 0,true,?_,rfl⟩
  unfold rpl at e
  split at e
  ·cases e
  split at e
  ·next r =>
   split at e
   ·cases e
    have := rd_few _ _ _ _ _ (by omega) r
    rw [ser_len]; omega
   ·cases e
  ·cases e
set_option maxHeartbeats 4000000 in
theorem law_FnExactPlanText (m : Int) (_ : -9223372036854775808 ≤ m ∧ m ≤ 9223372036854775807) (x : List (Int × Int)) (hx : x.length ≤ Go.maxLen) (p : List (Int × Int × Int)) (hp : p.length ≤ Go.maxLen) : call lf n_laws_FnExactPlanText [.i m,rs2 x,rs3 p] = some (.b true,[]) := by
 show call lf n_laws_FnExactPlanText [.i m,.sl 0 (x.map e2),.sl 0 (p.map e3)] = _
 rw [call_k lf n_laws_FnExactPlanText _ (F := F_laws_FnExactPlanText) rfl rfl]
 have zx : (x.length : Int) ≤ 9223372036854775807 := by unfold Go.maxLen at hx; omega
 have Sx := c_szMarkS x 1048576 (by omega) (by omega) zx
 by_cases hx1 : (1048576 : Int) < x.length
 ·simp [F_laws_FnExactPlanText,Sx,hx1]
 have nx : ¬ ((1048576 : Int) - x.length < 0) := by omega
 have zp : (p.length : Int) ≤ 9223372036854775807 := by unfold Go.maxLen at hp; omega
 have Sp := c_szChoiceS p (1048576 - x.length) (by omega) (by omega) zp
 by_cases hp1 : (1048576 : Int) - x.length < p.length
 ·simp [F_laws_FnExactPlanText,Sx,hx1,nx,Sp,hp1]
 have np : ¬ ((1048576 : Int) - x.length - p.length < 0) := by omega
 have Ax := c_toMarkS x (by omega)
 have Qx := c_eqMarkS_self x (by omega)
 have Ap := c_toChoiceS p (by omega)
 have Qp := c_eqChoiceS_self p (by omega)
 obtain ⟨v,C1,C2⟩ := same_PlanText m x p (by omega) (by omega)
 simp (config := { maxSteps := 2000000 }) [F_laws_FnExactPlanText,C1,C2,Sx,hx1,nx,Sp,hp1,np,Ax,Qx,Ap,Qp,tk_e3 p]
set_option maxHeartbeats 8000000 in
theorem law_FnExactReadPlan (m : Int) (_ : -9223372036854775808 ≤ m ∧ m ≤ 9223372036854775807) (x : List (Int × Int)) (hx : x.length ≤ Go.maxLen) (s : List UInt8) : call lf n_laws_FnExactReadPlan [.i m,rs2 x,.s s] = some (.b true,[]) := by
 show call lf n_laws_FnExactReadPlan [.i m,.sl 0 (x.map e2),.s s] = _
 rw [call_k lf n_laws_FnExactReadPlan _ (F := F_laws_FnExactReadPlan) rfl rfl]
 by_cases h0 : (1048576 : Int) < s.length
 ·simp [F_laws_FnExactReadPlan,h0]
 have hz : (x.length : Int) ≤ 9223372036854775807 := by unfold Go.maxLen at hx; omega
 have S2 := c_szMarkS x 1048576 (by omega) (by omega) hz
 by_cases h2 : (1048576 : Int) < x.length
 ·simp [F_laws_FnExactReadPlan,h0,S2,h2]
 have n2 : ¬ ((1048576 : Int) - x.length < 0) := by omega
 have A := c_toMarkS x (by omega)
 have Q := c_eqMarkS_self x (by omega)
 have C1 := c_impl_ReadPlan (m := m) (t := x) (by omega) s
 have C2 := c_spec_ReadPlan (m := m) (t := x) (by omega) s
 obtain ⟨w,b,ll,ew⟩ := rpV_row m.toNat x s
 rw [ew] at C1 C2
 clear ew
 have M0 := c_markMarkS x 1 (by omega) (by omega) (by omega)
 have lb1 : x.length ≤ bound := by unfold bound; omega
 obtain ⟨v,hv,lv⟩ := mk2_map 1 x.length
 rw [hv] at M0
 have l2 : List.take x.length (v.map e2) = v.map e2 := tk_n (by simp [lv])
 have n3 : ¬ ((1 : Int) + 2 * x.length < 0) := by omega
 have Q2 := c_eqChoiceS_self w (by omega)
 have M2 := c_markChoiceS w 1 (by omega) (by omega) (by omega)
 have H := c_heldChoiceS w.length 1 (by omega) (by omega) (by omega)
 have lb2 : w.length ≤ bound := by unfold bound; omega
 obtain ⟨u,hu,lu⟩ := mk3_map 1 w.length
 rw [hu] at M2 H
 have l1 : List.take w.length (u.map e3) = u.map e3 := tk_n (by simp [lu])
 have l3 : List.take w.length (w.map e3) = w.map e3 := tk_n (by simp)
 have n4 : ¬ ((1 : Int) + 3 * w.length < 0) := by omega
 simp (config := { maxSteps := 2000000 }) [F_laws_FnExactReadPlan,h0,h2,S2,n2,n3,n4,A,Q,Q2,C1,C2,M0,M2,H,l1,l2,l3,lu,lv,lb1,lb2]
end
end Zz
