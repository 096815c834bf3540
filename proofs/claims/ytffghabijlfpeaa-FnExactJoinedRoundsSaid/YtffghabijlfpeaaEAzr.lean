/- What the functions answer, as equations: EA. No conditions. -/
import Derived.Test.YtffghabijlfpeaaIrzr
import Derived.Test.YtffghabijlfpeaaE0
import Derived.Test.YtffghabijlfpeaaLgEzr
import Derived.Test.YtffghabijlfpeaaLgFzr
set_option linter.unusedSectionVars false
set_option linter.unusedVariables false
set_option linter.unusedSimpArgs false
namespace Zz
open Go.Lg Md
set_option linter.unusedSimpArgs false
set_option linter.unusedVariables false
attribute [local simp] tm_mv tm_newnil tm_pick tm_bin tm_eqb tm_eqs tm_un tm_len tm_lens tm_chk tm_fld tm_fldv tm_idxa tm_idx tm_load tm_store tm_slice tm_slices tm_make tm_alloc tm_box tm_build tm_app tm_conv tm_ext tm_call tm_calld tm_mkfn tm_mm tm_idxp tm_eqn tm_callg tm_callm tm_bslice0 tm_bslice1 tm_bslice2 tm_bslice cw_nil cw_cons cd_none cd_some ec_nil ec_cons es_nil es_one es_more nn_nil nn_cons ns_nil ns_cons si_nil si_cons sk_t stod_oad stod_own stod_adr stod_dead ml_nil ml_cons nt_nil nt_cons nc_nil' nc_cons sa_mkfn cv_adr cv_i cv_y cv_b cv_w sa_calld nm_def nh_nil nh_cons nxM_some nxM_none sc_st sd_i sd_y sd_b sd_s sd_w sd_q sc_i sc_y sc_b sc_s sc_w sc_q sa_bslice sa_app nc_own nc_nil sa_call sa_alloc sa_build sa_callm rm_nil rm_one rm_gen bq_mul bq_eql ia_mv ia_newnil ia_pick ia_bin ia_eqb ia_eqs ia_un ia_len ia_lens ia_chk ia_fld ia_fldv ia_idxa ia_idx ia_load ia_store ia_slice ia_slices ia_make ia_alloc ia_box ia_build ia_bslice ia_app ia_b2i ia_i2b ia_i2i ia_same ia_b2s ia_s2b ia_ext ia_mm ia_idxp ia_calld ia_mkfn ia_i2r ia_r2s ia_call pt_nil pt_cons mi_nil mi_cons md_bslice md_mv md_newnil md_pick md_bin md_eqb md_un md_len md_lens md_fld md_fldv md_idxa md_idx md_load md_store md_slice md_slices md_make md_alloc md_box md_build md_app md_conv md_ext md_call md_calld md_callg md_mkfn md_mm md_idxp md_eqn md_eqs md_chk tg_bslice tg_mv tg_newnil tg_pick tg_bin tg_eqb tg_un tg_len tg_lens tg_fld tg_fldv tg_idxa tg_idx tg_load tg_store tg_slice tg_slices tg_make tg_alloc tg_box tg_build tg_app tg_conv tg_ext tg_call tg_calld tg_callg tg_mkfn tg_mm tg_idxp tg_eqn tg_eqs tg_chk rp_eq ro_eq ifP_t ifP_f np_def ng1_nil ng2_nil ng_gate ng_gen tgA_t tgA_0 tgA_1 tgA_2 aC_nil aC_c aC_t rS_def nb_def tv_b2i tv_i2b tv_i2i tv_s2b tv_b2s tv_same tv_i2r tv_r2s tv_i2q tv_q2i tv_q2q nxZ_some nxZ_none rz_nil rz_gen nxP_some nxP_none rq_nil rq_gen rq_gate nxR_some nxR_none ru_nil ru_gen ru_gate pl_none pl_some gt_nil gt_t gt_c di_some di_none an_nil an_cons nxG_some nxG_none rg_nil rg_gen rg_gate oldO_some oa_nil oa_i oa_y oa_b oa_s oa_st oa_sl oa_own oa_oad oa_nl al_nil al_cons al_i al_y al_b al_s al_st al_sl nxF_some nxF_none rf_nil rf_gen rf_gate hk_newnil hk_make hk_alloc hk_box hk_build hk_bslice hk_call hk_store hk_app hk_appn em_cel mm_cel ok_cel ov_cel so_cel il_cel oi_cel oj_cel ol_cel nm_cel hk_appc ef_bslice5 ef_app_cel ks_shut shu_own shc_none shc_cel cl_nil cl_cons ai_nil ai_cons il_i il_y il_b il_s il_st il_sl il_own il_adr il_oad il_ref il_fr il_tup il_nil il_np il_und il_dead ol_adr ol_b ol_dead ol_e ol_fn ol_fr ol_i ol_nil ol_np ol_oad ol_own ol_q ol_r ol_ref ol_s ol_sl ol_st ol_tup ol_und ol_w ol_y oj_e oj_i oj_y oj_b oj_s oj_st oj_sl oj_own oj_adr oj_oad oj_ref oj_fr oj_tup oj_nil oj_np oj_und oj_dead oj_w oj_q oj_r oj_fn oi_e oi_i oi_y oi_b oi_s oi_st oi_sl oi_own oi_adr oi_oad oi_ref oi_fr oi_tup oi_nil oi_np oi_und oi_dead as_nil as_cons ao_nil ao_cons av_i av_y av_b av_s av_st av_sl av_own av_adr av_oad av_ref av_fr av_tup av_nil av_np av_und av_dead pro_cons ghK_some ks_promote ks_freeze frz_own ks_rename ren_own ks_cell cel_own dropO adoptP newP wholeP cutP allOldL ex_skip ex_ret ex_exit ks_region ks_seq ks_cut ks_cond ks_block seqK_n seqK_e seqK_r regK_some condK_t condK_f blkK_n blkK_r blkK_e endK_n endK_r rr_false rr_true rd_free mo_nil mo_cons drK_some drK_none nxW_some nxW_none rw_nil rw_gen rw_gate ak_newnil ak_make ak_alloc ak_box ak_build ak_bslice ak_call ak_store ak_app iw_mm iw_eqn iw_idxp ef_callg cgK_some gv_e gv_own gv_i gv_sl gv_st gv_b gv_nil gvK_some gvO_some iw_callg ia_callg ak_callg hk_callg is_mv is_newnil is_pick is_bin is_eqb is_eqs is_un is_len is_lens is_chk is_fld is_fldv is_idxa is_idx is_load is_slice is_slices is_make is_alloc is_box is_build is_bslice is_app is_conv is_ext is_call is_calld is_callg is_mkfn is_mm is_idxp is_eqn is_store rt_nil rt_gen rt_gate nxT_some nxT_none ef_eqn_nil ef_eqn_sl ef_eqn_own ia_eqn ef_mmx ef_mmn ef_idxp nxD_some nxD_none ov_i ov_y ov_b ov_s ov_st ov_sl ov_own ov_oad ov_adr ov_nil ov_np ov_und ov_dead ov_tup oldN_some oldN_nil oldN_none so_none so_tup DV.noM so_i so_y so_b so_s so_st so_sl so_adr so_nil so_np so_und so_dead anyM_nil anyM_t anyM_c so_own so_oad rd_nil rd_gen rd_mv rd_gate iw_mv iw_newnil iw_pick iw_bin iw_eqb iw_eqs iw_un iw_len iw_lens iw_chk iw_fld iw_fldv iw_idxa iw_idx iw_load iw_store iw_slice iw_slices iw_make iw_alloc iw_box iw_build iw_bslice iw_app iw_b2i iw_i2b iw_i2i iw_same iw_b2s iw_s2b iw_ext iw_call nm_i nm_y nm_b nm_s nm_st nm_sl nm_own nm_oad nm_adr nm_nil nm_np nm_und nm_dead nm_tup rl_nil rl_gate rl_mv rl_gen opv_t opv_c nx_some nx_none gate_tt gate_tf gate_ft gate_ff gate_u fr_ap em_nil em_i em_y em_b em_s em_st em_sl em_own em_adr em_oad em_ref em_nl em_np em_und em_dead em_tup0 em_tup_i em_tup_b em_tup_s em_tup_sl em_tup_st em_tup_np em_tup_own em_tup_oad mm_i mm_y mm_b mm_s mm_st mm_sl mm_own mm_oad mm_adr mm_nil mm_np mm_und mm_dead ef_mv ef_newnil ef_pickt ef_pickf ef_bin ef_eqb ef_eqs ef_un ef_lens ef_len_sl ef_len_own ef_len_nil ef_chk_adr ef_chk_oad ef_fld_adr ef_fld_oad ef_fldv idxR_some ef_idxa_sl ef_idxa_own ef_idx ef_load_adr_st ef_load_adr_i ef_load_adr_y ef_load_adr_b ef_load_adr_s ef_load_adr_sl atN_nil atN_zero atN_succ ef_load_oad ef_store ef_slice ef_slices ef_make ef_alloc ef_box ef_build ef_bslice ef_app_own ef_app_nil ef_b2i ef_i2b ef_i2i ef_same ef_ext ret1 ret2_some calL_some ef_call retC_i retC_y retC_b retC_s retC_st retC_sl retC_np retC_fr retC_ref retC_tup rk_nil rk_i rk_y rk_b rk_s rk_st rk_sl rk_own rk_oad rk_nl ok_nil ok_i ok_y ok_b ok_s ok_st ok_sl ok_own ok_oad ok_nl lo_nil lo_i lo_y lo_b lo_s lo_st lo_sl lo_own lo_oad lo_nl pr_nil pr_i pr_y pr_b pr_s pr_st pr_sl pr_own pr_nl pr_oad nr_i nr_y nr_b nr_s nr_st nr_sl nr_fr nr_np nr_tup ng_i ng_b ng_s ng_fr ng_nil resV effP_eff binD bi_add bi_sub bi_mul bi_quo bi_rem bi_eql bi_neq bi_lss bi_leq bi_gtr bi_geq bi_shl bi_shr bi_and bi_or bi_xor bi_andNot binY binS unD look put putD LS.get LS.drop killE sweep lookO putO dropO enter leave giveBackL giveBack outs lendArgs lendArg newOuts takeIn takeInL lendL DV.lend adoptL DV.adopt elems apartKs part DV.cells unpart settle settleL over mkId szId fillP fillE tk_e2 tk_i tk_y lt_e2 lt_i lt_y lend_rep al_e2 al_is al_ys al_rep al_app lend_app adopt_app new_app lend_e2 lend_i lend_y adopt_e2 adopt_i adopt_y new_e2 new_i allNewL DV.allNew bounds sliceD sliceS em_w em_q em_r em_fn em_tup_w em_tup_q em_tup_r mm_w mm_q mm_r mm_fn ef_load_adr_w ef_load_adr_q ef_load_adr_r retC_w retC_q retC_r rk_w rk_q rk_r rk_fn ok_w ok_q ok_r ok_fn lo_w lo_q lo_r lo_fn pr_w pr_q pr_r pr_fn nr_w nr_q nr_r ng_w ng_q ng_r oa_w oa_q oa_r oa_fn al_w al_q al_r al_fn ov_w ov_q ov_r ov_fn so_w so_q so_r so_fn il_w il_q il_r il_fn oi_w oi_q oi_r oi_fn av_w av_q av_r av_fn nm_w nm_q nm_r nm_fn ef_i2r ef_r2s ef_b2s bs_some ys_nil ys_cons ys_map ef_mkfn ef_mkbd ef_idxp_adr ef_idxp_q ef_calld_nil ef_calld_adr ef_calld_bd DV.capB capsOk DV.cell List.all_cons List.all_nil rk_own_t lo_own_t lk_f lk_t pr_own_t mutB ak_calld hk_calld iw_calld iw_mkfn iw_i2r iw_r2s bw_and bw_or bw_xor bw_andNot bw_eql bw_neq sw_shl sw_shr sq_shl gEnv_nil rk_adr ok_adr lo_adr pr_adr oa_adr capL capArg DV.cap ak_mkfn hk_mkfn hk_mkbd ef_callm gf_ap ga_nil ga_cons tgv_own gk_e gk_giv gk_i gk_y gk_b gk_s gk_w gk_q gk_r gk_fn gk_st gk_sl gk_own gk_oad gk_adr gk_nl gk_np rk_giv ok_giv lo_giv pr_giv oa_giv iw_callm hk_callm ak_callm is_callm ia_callm tg_callm md_callm ef_i2q ef_q2i ef_q2q iw_i2q iw_q2i iw_q2q ia_i2q ia_q2i ia_q2q bq_and bq_add bq_shr sq_shr tgv_nil gk_ref rk_ref ok_ref lo_ref pr_ref oa_ref retC_fn nr_fn ef_load_adr_fn ks_close cls_oad
attribute [local congr] nxM_congr ifP_congr nxP_congr nxZ_congr nxR_congr nxT_congr nxG_congr nxF_congr ghK_congr gate_congr nx_congr nxD_congr runL_congr runD_congr eff_congr calL_congr ret2_congr seqK_congr regK_congr condK_congr endK_congr drK_congr nxW_congr
attribute [local simp ↓] nxM_some rm_nil rm_one rm_gen nxT_some rt_nil rt_gen rt_gate nxZ_some rz_nil rz_gen nxP_some rq_nil rq_gen rq_gate nxR_some ru_nil ru_gen ru_gate nxG_some rg_nil rg_gen rg_gate nxF_some rf_nil rf_gen rf_gate ks_promote ks_freeze frz_own ks_rename ks_cell ghK_some gate_tt gate_tf gate_ft gate_ff gate_u nx_some nxD_some rl_nil rl_mv rl_gen rl_gate rd_nil rd_mv rd_gen rd_gate rd_free rr_false rr_true drK_some drK_none nxW_some rw_nil rw_gen rw_gate ks_region ks_seq ks_cut ks_cond ks_block seqK_n seqK_e seqK_r regK_some condK_t condK_f blkK_n blkK_r endK_n endK_r calL_some ret2_some opv_t opv_c
section
theorem c_impl_isWithin (a b c : Int) : call lf n_impl_isWithin [.i a,.i b,.i c] = some (.b (decide (b ≤ a ∧ a ≤ c)),[]) := by
 rw [call_k lf n_impl_isWithin _ (F := F_impl_isWithin) rfl rfl]
 by_cases h : b ≤ a <;> simp [F_impl_isWithin,h]
theorem c_spec_l1In (a b c : Int) : call lf n_spec_l1In [.i a,.i b,.i c] = some (.b (decide (b ≤ a ∧ a ≤ c)),[]) := by
 rw [call_k lf n_spec_l1In _ (F := F_spec_l1In) rfl rfl]
 by_cases h : b ≤ a <;> simp [F_spec_l1In,h]
theorem c_impl_manyOk (a : Int) : call lf n_impl_manyOk [.i a] = some (.b (nOk a),[]) := by
 rw [call_k lf n_impl_manyOk _ (F := F_impl_manyOk) rfl rfl]
 simp [F_impl_manyOk,c_impl_isWithin,nOk]

theorem nOk_iff {a : Int} : nOk a = true ↔ 1 ≤ a ∧ a ≤ 5 := by simp [nOk]
theorem tsOk_iff {ts : List T} : tsOk ts = true ↔ (1 ≤ (ts.length : Int) ∧ (ts.length : Int) ≤ 5) ∧ ts.all tOk = true := by
 rw [tsOk,Bool.and_eq_true,nOk_iff]
end
section
theorem p2 {ts : List T} (h : tsOk ts = true) : 1 ≤ (2 : Nat) ^ ts.length ∧ (2 : Nat) ^ ts.length ≤ 32 ∧ ((2 ^ ts.length : Nat) : Int) = 2 ^ ts.length := by
 have h' := tsOk_iff.1 h
 have a : (2 : Nat) ^ ts.length ≤ 2 ^ 5 := Nat.pow_le_pow_right (by omega) (by omega)
 exact ⟨Nat.pow_pos (by omega),by omega,by simp⟩
def ot (ts : List T) (i : Nat) : List DV := ((ts.take i).map other).map e2
def cn (ts : List T) (i : Nat) : List DV := ot ts i ++ List.replicate (ts.length - i) (.st [.i 0,.i 0])
end
section
def ci (ts : List Int) (i : Nat) : List DV := (ts.take i).map .i ++ List.replicate (ts.length - i) (.i 0)
theorem ci_len {ts : List Int} {i : Nat} (hi : i ≤ ts.length) : (ci ts i).length = ts.length := by simp [ci]; omega
theorem ci_set {ts : List Int} {i : Nat} {t : Int} (hi : i < ts.length) (h : ts.take (i + 1) = ts.take i ++ [t]) : (ci ts i).set i (.i t) = ci ts (i + 1) := by
 have : ((ts.take i).map DV.i).length = i := by simp; omega
 unfold ci
 rw [List.set_append_right _ _ (by omega),this,Nat.sub_self,h,show ts.length - i = (ts.length - (i + 1)) + 1 by omega,List.replicate_succ,List.set_cons_zero,List.map_append,List.append_assoc]
 rfl
theorem ci_get {ts : List Int} {i : Nat} (hi : i < ts.length) : atN (ci ts i) i = some (.i 0) := by
 show (ci ts i)[i]? = _
 have : ((ts.take i).map DV.i).length = i := by simp; omega
 unfold ci
 rw [List.getElem?_append_right (by omega),this,Nat.sub_self,List.getElem?_replicate]
 simp; omega
theorem ci_zero (ts : List Int) : ci ts 0 = List.replicate ts.length (.i 0) := by simp [ci]
theorem ci_all (ts : List Int) : ci ts ts.length = ts.map .i := by simp [ci]
theorem at_i {ks : List Int} {i : Nat} (hi : i < ks.length) : ∃ k,ks[i]? = some k ∧ k ∈ ks ∧ atI (ks.map .i) i = some (.i k) ∧ ks.take (i + 1) = ks.take i ++ [k] := by
 refine ⟨ks[i],List.getElem?_eq_getElem hi,List.getElem_mem hi,?_,List.take_succ_eq_append_getElem hi⟩
 simp [atI,hi]
theorem c_toIntS (ts : List Int) (hb : (ts.length : Int) ≤ 1048576) : call lf n_laws_toIntS [.sl 0 (ts.map .i)] = some (.fr 1 (ts.map .i),[]) := by
 rw [call_k lf n_laws_toIntS _ (F := F_laws_toIntS) rfl rfl]
 have L : ex lf F_laws_toIntS_W0 ⟨[(0,.sl 0 (ts.map .i)),(3,.own 3592 ts.length 0 ts.length),(4,.i 0)],[(3592,ci ts 0)]⟩ =
   some (.exit 0,⟨[(0,.sl 0 (ts.map .i)),(3,.own 3592 ts.length 0 ts.length),(4,.i ts.length)],[(3592,ci ts ts.length)]⟩) := by
  refine loop_count ts.length (fun i => ⟨[(0,.sl 0 (ts.map .i)),(3,.own 3592 ts.length 0 ts.length),(4,.i i)],[(3592,ci ts i)]⟩) (fun i hi => ?_) ?_ (by simp)
  ·obtain ⟨t,q1,q2,q3,q4⟩ := at_i hi
   have w1 : wr ((i : Int) + 1) = (i : Int) + 1 := wr_id (by omega) (by omega)
   have c1 := ci_len (ts := ts) (i := i) (by omega)
   have c2 := ci_get hi
   have c3 := ci_set hi q4
   simp [F_laws_toIntS_L0,hi,q3,w1,c1,c2,c3]
  ·simp [F_laws_toIntS_L0]
 have b1 : (ts.length : Int) ≤ bound := by unfold bound; omega
 rw [ci_zero,ci_all] at L
 simp [F_laws_toIntS,b1,L]
theorem c_eqIntS_self (aS : List Int) (ha : (aS.length : Int) ≤ 1048576) : call lf n_laws_eqIntS [.sl 0 (aS.map .i),.sl 0 (aS.map .i)] = some (.b true,[]) := by
 rw [call_k lf n_laws_eqIntS _ (F := F_laws_eqIntS) rfl rfl]
 have L : ex lf F_laws_eqIntS_W0 ⟨[(0,.sl 0 (aS.map .i)),(1,.sl 0 (aS.map .i)),(5,.i 0)],[]⟩ = some (.exit 0,⟨[(0,.sl 0 (aS.map .i)),(1,.sl 0 (aS.map .i)),(5,.i aS.length)],[]⟩) := by
  refine loop_count aS.length (fun i => ⟨[(0,.sl 0 (aS.map .i)),(1,.sl 0 (aS.map .i)),(5,.i i)],[]⟩) (fun i hi => ?_) ?_ (by simp)
  ·obtain ⟨t,q1,q2,q3,q4⟩ := at_i hi
   have w1 : wr ((i : Int) + 1) = (i : Int) + 1 := wr_id (by omega) (by omega)
   simp [F_laws_eqIntS_L0,hi,q3,w1]
  ·simp [F_laws_eqIntS_L0]
 simp [F_laws_eqIntS,L]
end
section
theorem mid_at {A B : List DV} {i : Nat} (h : A.length = i) (x : DV) : atN (A ++ x :: B) i = some x := by
 show (A ++ x :: B)[i]? = _
 rw [List.getElem?_append_right (by omega),h]; simp
theorem mid_set {A B : List DV} {i : Nat} (h : A.length = i) (x y : DV) : (A ++ x :: B).set i y = A ++ y :: B := by
 rw [List.set_append_right _ _ (by omega),h]; simp
theorem split_at {es : List DV} {i : Nat} (hi : i < es.length) : es.drop i = es[i] :: es.drop (i + 1) := List.drop_eq_getElem_cons hi
/-- the marks from k on -/
def mk1 (k : Int) (n : Nat) : List DV := (List.range n).map fun (j : Nat) => DV.i (k + (j : Int))
theorem mk1_len (k : Int) (n : Nat) : (mk1 k n).length = n := by simp [mk1]
theorem mk1_succ (k : Int) (n : Nat) : mk1 k (n + 1) = mk1 k n ++ [.i (k + n)] := by simp [mk1,List.range_succ]
set_option maxHeartbeats 4000000 in
theorem c_heldIntS (n : Nat) (k : Int) (k0 : 0 ≤ k) (k1 : k ≤ 1000000000) (hl : n ≤ 1048576) : call lf n_laws_heldIntS [.sl 0 (mk1 k n),.i k] = some (.i (k + n),[]) := by
 rw [call_k lf n_laws_heldIntS _ (F := F_laws_heldIntS) rfl rfl]
 have lm := mk1_len k n
 have A : ∀ i,i < n → atI (mk1 k n) (i : Int) = some (.i (k + i)) := fun i hi => by simp [atI,mk1,hi]
 generalize mk1 k n = es at *
 have L := loop_count (lf := lf) (L := F_laws_heldIntS_L0) n (fun i => ⟨[(0,.sl 0 es),(1,.i (k + i)),(5,.i i)],[]⟩) (x := .exit 0) (R := ⟨[(0,.sl 0 es),(1,.i (k + n)),(5,.i n)],[]⟩) (fun i hi => by
  have w1 : wr ((i : Int) + 1) = (i : Int) + 1 := wr_id (by omega) (by omega)
  have w2 : wr (k + i + 1) = k + (i + 1 : Nat) := by rw [wr_id (by omega) (by omega)]; omega
  have hi' : (i : Int) < n := by omega
  have q := A i hi
  simp [F_laws_heldIntS_L0,hi,hi',w1,w2,lm,q]) (by
  simp [F_laws_heldIntS_L0,lm]) (by simp)
 have L' : ex lf F_laws_heldIntS_W0 ⟨[(0,.sl 0 es),(1,.i k),(5,.i 0)],[]⟩ = some (.exit 0,⟨[(0,.sl 0 es),(1,.i (k + n)),(5,.i n)],[]⟩) := by
  have := L
  simp only [Int.natCast_zero,Int.add_zero] at this
  exact this
 simp [F_laws_heldIntS,L']
end
section
/-- a mark read with p parts before it -/
def mkS (m p : Int) (t : T) : Option Int :=
 if t.1 = 0 then (if 0 ≤ t.2 ∧ t.2 < m then some (p + 1) else none)
 else if t.1 = 1 then (if t.2 = 0 ∧ 1 ≤ p then some p else none)
 else if t.1 = 2 ∨ t.1 = 3 then (if t.2 = 0 ∧ 2 ≤ p then some (p - 1) else none)
 else none
def runM (m : Int) : Int → List T → Option Int
 | p,[] => some p
 | p,t :: r => match mkS m p t with
  | some q => runM m q r
  | none => none
end
section
inductive Tm where
 | tst (a : Nat)
 | neg (x : Tm)
 | and (x y : Tm)
 | or (x y : Tm)
def ev (s : Nat) : Tm → Bool
 | .tst a => s.testBit a
 | .neg x => !ev s x
 | .and x y => ev s x && ev s y
 | .or x y => ev s x || ev s y
/-- how many parts a mark takes -/
def taken (k : Int) : Nat := if k = 0 then 0 else if k = 1 then 1 else 2
def stepG {P : Type} (mk : T → List P → P) (st : List P) (t : T) : List P := st.take (st.length - taken t.1) ++ [mk t (st.drop (st.length - taken t.1))]
def yesW (a : Nat) : BitVec 32 := match a with
 | 0 => 2863311530#32
 | 1 => 3435973836#32
 | 2 => 4042322160#32
 | 3 => 4278255360#32
 | _ => 4294901760#32
def mkW (t : T) (ps : List (BitVec 32)) : BitVec 32 :=
 if t.1 = 0 then yesW t.2.toNat else if t.1 = 1 then ~~~(ps.getD 0 0) else if t.1 = 2 then ps.getD 0 0 &&& ps.getD 1 0 else ps.getD 0 0 ||| ps.getD 1 0
def tsW (ts : List T) : BitVec 32 := (ts.foldl (stepG mkW) []).headD 0
/-- the value of a term in a state -/
def tv (ts : List T) (s : Nat) : Bool := (tsW ts).getLsbD s
end
section
def hs (bs : List Nat) (p : Int) : Int := (bs.getD (p.tmod bs.length).toNat 0 : Nat) * 131 + (bs.getD ((p * 7 + 3).tmod bs.length).toNat 0 : Nat) * 1117 + p * 29 + p.tdiv bs.length * 53
theorem byte_lt {bs : List Nat} (hb : ∀ y ∈ bs,y < 256) (i : Nat) : bs.getD i 0 < 256 := by
 by_cases h : i < bs.length
 ·have : bs.getD i 0 = bs[i] := by simp [List.getD,h]
  rw [this]
  exact hb _ (List.getElem_mem h)
 ·have : bs.getD i 0 = 0 := by simp [List.getD,List.getElem?_eq_none (by omega : bs.length ≤ i)]
  omega
end
section
theorem cells_st (cs : List DV) : (DV.st cs).cells = cs := rfl
theorem cells_sl (p : Nat) (es : List DV) : (DV.sl p es).cells = [DV.sl p es] := rfl
theorem cells_i (n : Int) : (DV.i n).cells = [DV.i n] := rfl
theorem cells_y (n : Nat) : (DV.y n).cells = [DV.y n] := rfl
theorem cells_b (n : Bool) : (DV.b n).cells = [DV.b n] := rfl
theorem cells_s (n : List UInt8) : (DV.s n).cells = [DV.s n] := rfl
attribute [-simp] DV.cells
attribute [local simp] cells_st cells_sl cells_i cells_y cells_b cells_s
def row (t : List T) : DV := .sl 1 (t.map e2)
theorem flat_set (m : T) : ∀ {ps : List (List T)} {A : Nat} {t : List T},ps[A]? = some t → (ps.set A (t ++ [m])).flatten.length = ps.flatten.length + 1
 | [],_,_,h => by simp at h
 | x :: ps,0,t,h => by simp at h; subst h; simp; omega
 | x :: ps,A + 1,t,h => by
  simp only [List.getElem?_cons_succ] at h
  have := flat_set m h
  simp at this ⊢
  omega
theorem flat_len : ∀ {ps : List (List T)} {A : Nat} {t : List T},ps[A]? = some t → t.length ≤ ps.flatten.length
 | [],_,_,h => by simp at h
 | x :: ps,0,t,h => by simp at h; subst h; simp
 | x :: ps,A + 1,t,h => by
  simp only [List.getElem?_cons_succ] at h
  have := flat_len h
  simp only [List.flatten_cons,List.length_append]; omega
end
section
attribute [-simp] DV.cells
attribute [local simp] cells_st cells_sl cells_i cells_y cells_b cells_s
theorem cells_w (x : BitVec 32) : (DV.w x).cells = [DV.w x] := rfl
attribute [local simp] cells_w
end
section
attribute [-simp] DV.cells
attribute [local simp] cells_st cells_sl cells_i cells_y cells_b cells_s cells_w
attribute [-simp] sliceD
def bI (b : Bool) : Int := if b then 1 else 0
end
section
attribute [-simp] DV.cells sliceD
attribute [local simp] cells_st cells_sl cells_i cells_y cells_b cells_s cells_w
theorem bit_bI {a s : Nat} (hs : s ≤ 60) : (shrI (a : Int) (s : Int)).tmod 2 = bI (a.testBit s) := by
 rw [shr1 (by omega) (by omega),tmod2 (Int.ediv_nonneg (by omega) (Int.le_of_lt (Int.pow_pos (by omega))))]
 unfold bI
 rw [Nat.testBit_eq_decide_div_mod_eq,Int.toNat_natCast]
 have : (a : Int) / 2 ^ s % 2 = ((a / 2 ^ s % 2 : Nat) : Int) := by simp
 rw [this]
 by_cases h : a / 2 ^ s % 2 = 1
 ·simp [h]
 ·have : a / 2 ^ s % 2 = 0 := by omega
  simp [this]
theorem pow5 {m : Int} (h1 : 1 ≤ m) (h5 : m ≤ 5) : 2 ≤ 2 ^ m.toNat ∧ 2 ^ m.toNat ≤ 32 ∧ ((2 ^ m.toNat : Nat) : Int) = 2 ^ m.toNat := by
 have c : m = 1 ∨ m = 2 ∨ m = 3 ∨ m = 4 ∨ m = 5 := by omega
 rcases c with rfl | rfl | rfl | rfl | rfl <;> decide
end
section
attribute [-simp] DV.cells sliceD
attribute [local simp] cells_st cells_sl cells_i cells_y cells_b cells_s cells_w
/-- 1 if f holds wherever g does below N,0 if nowhere,else -1 -/
def fo (f g : Nat → Bool) (N : Nat) : Int := if allTo (fun s => !g s || f s) N then 1 else if allTo (fun s => !g s || !f s) N then 0 else -1
/-- What the states say that agree. -/
def agB (ks : List Int) (s : Nat) : Bool := ag ks (s : Int)
end
section
attribute [-simp] DV.cells sliceD
attribute [local simp] cells_st cells_sl cells_i cells_y cells_b cells_s cells_w
/-- what is known of a term by what is known of its tests -/
def foT (m : Int) (ts : List T) (ks : List Int) : Int := fo (tv ts) (agB ks) (2 ^ m.toNat)
def told (m : Nat) (st so : Nat) : List Int := (List.range m).map fun k => if so.testBit k then bI (st.testBit k) else -1
theorem bI_eq1 (b : Bool) : (bI b == 1) = b := by cases b <;> rfl
end
section
attribute [-simp] DV.cells sliceD
attribute [local simp] cells_st cells_sl cells_i cells_y cells_b cells_s cells_w
def agW : List Int → Nat → BitVec 32 → BitVec 32
 | [],_,w => w
 | k :: r,i,w => agW r (i + 1) (if k = 0 then w &&& ~~~(yesW i) else if k = 1 then w &&& yesW i else w)
end
section
attribute [-simp] DV.cells sliceD
attribute [local simp] cells_st cells_sl cells_i cells_y cells_b cells_s cells_w
theorem div_bI (a s : Nat) : (a : Int) / 2 ^ s % 2 = bI (a.testBit s) := by
 unfold bI
 rw [Nat.testBit_eq_decide_div_mod_eq]
 have : (a : Int) / 2 ^ s % 2 = ((a / 2 ^ s % 2 : Nat) : Int) := by simp
 rw [this]
 by_cases h : a / 2 ^ s % 2 = 1
 ·simp [h]
 ·have : a / 2 ^ s % 2 = 0 := by omega
  simp [this]
theorem c_impl_hasTest (so k : Nat) (hk : k ≤ 40) : call lf n_impl_hasTest [.i so,.i k] = some (.b (so.testBit k),[]) := by
 rw [call_k lf n_impl_hasTest _ (F := F_impl_hasTest) rfl rfl]
 have ni : ¬ (k : Int) < 0 := by omega
 have e : andI (shrI (so : Int) (k : Int)) 1 = bI (so.testBit k) := by
  rw [bit_and,shr1 (by omega) (by omega),Int.toNat_natCast,div_bI]
 simp [F_impl_hasTest,ni,e,bI_eq1]
end
section
attribute [-simp] DV.cells
attribute [local simp] cells_st cells_sl cells_i cells_y cells_b cells_s cells_w
theorem or_fin : ∀ (s : _root_.Fin 32) (k : _root_.Fin 5),orI (s.val : Int) ((2 : Int) ^ k.val) = ((s.val ||| 2 ^ k.val : Nat) : Int) := by decide +kernel
theorem or_nat {s k : Nat} (hs : s < 32) (hk : k < 5) : orI (s : Int) ((2 : Int) ^ k) = ((s ||| 2 ^ k : Nat) : Int) := or_fin ⟨s,hs⟩ ⟨k,hk⟩
end
section
/-- each of the tests once,from those on that some tests are -/
def orS (m : Int) : Nat → List Int → Bool
 | _,[] => true
 | so,a :: r => decide (0 ≤ a ∧ a < m) && !so.testBit a.toNat && orS m (so ||| 2 ^ a.toNat) r
def orOk (m : Int) (os : List Int) : Bool := nOk m && decide ((os.length : Int) = m) && orS m 0 os
def setO : Nat → List Int → Nat
 | so,[] => so
 | so,a :: r => setO (so ||| 2 ^ a.toNat) r
theorem orS_cons {m : Int} {so : Nat} {a : Int} {r : List Int} : orS m so (a :: r) = true ↔ (0 ≤ a ∧ a < m) ∧ so.testBit a.toNat = false ∧ orS m (so ||| 2 ^ a.toNat) r = true := by
 simp [orS,and_assoc]
theorem orOk_iff {m : Int} {os : List Int} : orOk m os = true ↔ (1 ≤ m ∧ m ≤ 5) ∧ (os.length : Int) = m ∧ orS m 0 os = true := by
 rw [orOk,Bool.and_eq_true,Bool.and_eq_true,nOk_iff,decide_eq_true_eq,and_assoc]
theorem setO_app : ∀ (so : Nat) (p q : List Int),setO so (p ++ q) = setO (setO so p) q
 | _,[],_ => rfl
 | so,a :: r,q => setO_app (so ||| 2 ^ a.toNat) r q
theorem orS_app {m : Int} : ∀ (so : Nat) (p q : List Int),orS m so (p ++ q) = (orS m so p && orS m (setO so p) q)
 | _,[],q => by simp [orS,setO]
 | so,a :: r,q => by simp only [List.cons_append,orS,setO,orS_app (so ||| 2 ^ a.toNat) r q,Bool.and_assoc]
theorem or_bit (so a k : Nat) : (so ||| 2 ^ a).testBit k = (so.testBit k || decide (a = k)) := by
 rw [Nat.testBit_or,Nat.testBit_two_pow]
theorem or_lt2 {m so a : Nat} (h : so < 2 ^ m) (ha : a < m) : so ||| 2 ^ a < 2 ^ m := Nat.or_lt_two_pow h (Nat.pow_lt_pow_right (by omega) ha)
theorem setO_bit : ∀ {os : List Int} {so k : Nat},(∀ o ∈ os,0 ≤ o) → ((setO so os).testBit k = true ↔ so.testBit k = true ∨ (k : Int) ∈ os)
 | [],_,_,_ => by simp [setO]
 | a :: r,so,k,h => by
  have ha := h a (by simp)
  rw [setO,setO_bit (os := r) (fun o ho => h o (by simp [ho])),or_bit]
  simp only [Bool.or_eq_true,decide_eq_true_eq,List.mem_cons]
  have : a.toNat = k ↔ (k : Int) = a := by omega
  rw [this,or_assoc]
/-- how many tests are not among some -/
def uc (so : Nat) : Nat → Nat
 | 0 => 0
 | i + 1 => uc so i + if so.testBit i then 0 else 1
theorem uc_zero : ∀ n,uc 0 n = n
 | 0 => rfl
 | n + 1 => by simp [uc,uc_zero n]
theorem uc_congr {a b : Nat} : ∀ {n},(∀ k,k < n → a.testBit k = b.testBit k) → uc a n = uc b n
 | 0,_ => rfl
 | n + 1,h => by simp only [uc]; rw [uc_congr (fun k hk => h k (by omega)),h n (by omega)]
theorem uc_or {so a : Nat} : ∀ {n},a < n → so.testBit a = false → uc (so ||| 2 ^ a) n + 1 = uc so n
 | 0,h,_ => by omega
 | n + 1,h,hb => by
  simp only [uc]
  by_cases e : a = n
  ·subst e
   rw [uc_congr (a := so ||| 2 ^ a) (b := so) (fun k hk => by rw [or_bit,decide_eq_false (by omega),Bool.or_false]),or_bit,hb]
   simp
  ·have := uc_or (so := so) (a := a) (n := n) (by omega) hb
   rw [or_bit,decide_eq_false e,Bool.or_false]
   omega
theorem uc_all {so : Nat} : ∀ {n},uc so n = 0 → ∀ k,k < n → so.testBit k = true
 | 0,_,k,hk => by omega
 | n + 1,h,k,hk => by
  simp only [uc] at h
  rcases Nat.lt_succ_iff_lt_or_eq.1 hk with q | rfl
  ·exact uc_all (n := n) (by omega) k q
  ·cases hb : so.testBit k with
   | true => rfl
   | false => rw [hb] at h; simp at h
theorem uc_setO {m : Int} (hm : 0 ≤ m) : ∀ {os : List Int} {so : Nat},orS m so os = true → uc (setO so os) m.toNat + os.length = uc so m.toNat
 | [],_,_ => by simp [setO]
 | a :: r,so,h => by
  obtain ⟨h1,h2,h3⟩ := orS_cons.1 h
  have i := uc_setO hm (os := r) h3
  have u := uc_or (so := so) (a := a.toNat) (n := m.toNat) (by omega) h2
  simp only [setO,List.length_cons]; omega
theorem set_all {m : Int} {os : List Int} (h : orOk m os = true) : ∀ k,k < m.toNat → (setO 0 os).testBit k = true := by
 obtain ⟨h1,h2,h3⟩ := orOk_iff.1 h
 have u := uc_setO (by omega) h3
 rw [uc_zero] at u
 exact uc_all (by omega)
def cA (us : List T) (a : Nat) : Int := (us.getD a (0,0)).1
end
section
theorem orS_nodup {m : Int} : ∀ {os : List Int} {so : Nat},orS m so os = true ↔ (∀ o ∈ os,(0 ≤ o ∧ o < m) ∧ so.testBit o.toNat = false) ∧ os.Nodup
 | [],so => by simp [orS]
 | a :: r,so => by
  rw [orS_cons,orS_nodup (os := r),List.nodup_cons]
  constructor
  ·rintro ⟨h1,h2,h3,h4⟩
   refine ⟨fun o ho => ?_,fun hm => ?_,h4⟩
   ·rcases List.mem_cons.1 ho with rfl | ho
    ·exact ⟨h1,h2⟩
    ·obtain ⟨q1,q2⟩ := h3 o ho
     rw [or_bit,Bool.or_eq_false_iff] at q2
     exact ⟨q1,q2.1⟩
   ·have q := (h3 a hm).2
    rw [or_bit] at q; simp at q
  ·rintro ⟨h1,h2,h3⟩
   obtain ⟨a1,a2⟩ := h1 a (by simp)
   refine ⟨a1,a2,fun o ho => ?_,h3⟩
   obtain ⟨q1,q2⟩ := h1 o (by simp [ho])
   refine ⟨q1,?_⟩
   rw [or_bit,q2,Bool.false_or,decide_eq_false]
   intro e
   have : a = o := by omega
   exact h2 (this ▸ ho)
def rng (n : Nat) : List Int := (List.range n).map fun (k : Nat) => (k : Int)
theorem mem_rng {n : Nat} {o : Int} : o ∈ rng n ↔ 0 ≤ o ∧ o < n := by
 unfold rng
 rw [List.mem_map]
 constructor
 ·rintro ⟨k,h,rfl⟩; have := List.mem_range.1 h; omega
 ·intro h; exact ⟨o.toNat,List.mem_range.2 (by omega),by omega⟩
theorem orOk_len {m : Int} {os : List Int} (h : orOk m os = true) : (os.length : Int) = m := (orOk_iff.1 h).2.1
end
section
def hkn (m : Nat) (ks : List Int) (so : Nat) : Prop := ∀ k,k < m → (ks[k]? = some (-1) ↔ so.testBit k = false)
def non (m : Nat) : List Int := List.replicate m (-1)
end
section
attribute [-simp] DV.cells sliceD
attribute [local simp] cells_st cells_sl cells_i cells_y cells_b cells_s cells_w
theorem hasTest_i {so : Nat} {a : Int} (h0 : 0 ≤ a) (h5 : a < 5) : call lf n_impl_hasTest [.i so,.i a] = some (.b (so.testBit a.toNat),[]) := by
 have := c_impl_hasTest so a.toNat (by omega)
 rw [Int.toNat_of_nonneg h0] at this
 exact this
theorem or_i {so : Nat} {a : Int} (hs : so < 32) (h0 : 0 ≤ a) (h5 : a < 5) : orI (so : Int) (shlI 1 a) = ((so ||| 2 ^ a.toNat : Nat) : Int) := by
 rw [shl1 h0 (by omega)]
 exact or_nat hs (by omega)
theorem pow_le5 {m : Int} (h : 1 ≤ m ∧ m ≤ 5) : 2 ^ m.toNat ≤ 32 := (pow5 h.1 h.2).2.1
theorem l_impl_OrderOk {m : Int} (hm : 1 ≤ m ∧ m ≤ 5) (n : Int) (hb : n < 1099511627776) (es : List DV) (rest : List Int) : ∀ (k : Int) (so : Nat),so < 2 ^ m.toNat → 0 ≤ k → k + (rest.map DV.i).length = n → es.drop k.toNat = rest.map .i →
  ex lf F_impl_OrderOk_W0 ⟨[(0,.i m),(5,.i so),(17,.sl 0 es),(18,.i n),(19,.i k)],[]⟩ =
  if orS m so rest = true then some (.exit 0,⟨[(0,.i m),(5,.i (setO so rest : Nat)),(17,.sl 0 es),(18,.i n),(19,.i n)],[]⟩) else some (.ret,⟨[(4,.b false)],[]⟩) := by
 have p5 := pow_le5 hm
 induction rest with
 | nil =>
  intro k so hs h0 hn hd
  rw [w_impl_OrderOk_0]
  have hk : k = n := by simpa using hn
  simp [F_impl_OrderOk_L0,hk,orS,setO]
 | cons a rest ih =>
  intro k so hs h0 hn hd
  obtain ⟨q1,q2,q3,q4,q5,q6⟩ := stp h0 hn hb hd
  have w : wr (m - 1) = m - 1 := wr_id (by omega) (by omega)
  rw [w_impl_OrderOk_0]
  by_cases ha : 0 ≤ a ∧ a < m
  ·have e1 : decide (0 ≤ a ∧ a ≤ m - 1) = true := decide_eq_true (by omega)
   have e2 : decide (0 ≤ a ∧ a < m) = true := decide_eq_true ha
   have H := hasTest_i (so := so) ha.1 (by omega)
   have n0 : ¬ a < 0 := by omega
   have o := or_i (so := so) (by omega) ha.1 (by omega : a < 5)
   have ih := ih (k + 1) (so ||| 2 ^ a.toNat) (or_lt2 hs (by omega)) q4 q5 q6
   simp only [orS,e2,Bool.true_and,setO]
   cases hb : so.testBit a.toNat with
   | true =>
    rw [hb] at H
    simp [F_impl_OrderOk_L0,q1,q2,q3,w,c_impl_isWithin,e1,H]
   | false =>
    rw [hb] at H
    simp [F_impl_OrderOk_L0,q1,q2,q3,w,c_impl_isWithin,e1,H,n0,o,ih]
  ·have e1 : decide (0 ≤ a ∧ a ≤ m - 1) = false := decide_eq_false (by omega)
   have e2 : decide (0 ≤ a ∧ a < m) = false := decide_eq_false ha
   simp only [orS,e2,Bool.false_and]
   simp [F_impl_OrderOk_L0,q1,q2,q3,w,c_impl_isWithin,e1]
theorem c_impl_OrderOk (m : Int) (os : List Int) (hb : (os.length : Int) < 1099511627776) : call lf n_impl_OrderOk [.i m,.sl 0 (os.map .i)] = some (.b (orOk m os),[]) := by
 rw [call_k lf n_impl_OrderOk _ (F := F_impl_OrderOk) rfl rfl]
 unfold orOk
 cases h1 : nOk m with
 | false => simp [F_impl_OrderOk,c_impl_manyOk,h1]
 | true =>
  by_cases h2 : (os.length : Int) = m
  ·have L := l_impl_OrderOk (nOk_iff.1 h1) os.length hb (os.map .i) os 0 0 (Nat.pow_pos (by omega)) (by omega) (by simp) (by simp)
   simp only [Int.natCast_zero] at L
   cases h3 : orS m 0 os <;> rw [h3] at L <;> simp at L <;> simp [F_impl_OrderOk,c_impl_manyOk,h1,h2,L,h3] <;> (subst h2; simp [L])
  ·have y : ((os.length : Int) != m) = true := bne_iff_ne.2 h2
   simp [F_impl_OrderOk,c_impl_manyOk,h1,y,h2]
theorem c_clone {os : List Int} (hne : os ≠ []) (hb : os.length ≤ 1000) : call lf n_slices_Clone_int_int [.sl 0 (os.map .i)] = some (.fr 1 (os.map .i),[]) := by
 rw [call_k lf n_slices_Clone_int_int _ (F := F_slices_Clone_int_int) rfl rfl]
 have lb : os.length ≤ bound := by unfold bound; omega
 simp [F_slices_Clone_int_int,hne,lb]
end
section
theorem rng_nodup (n : Nat) : (rng n).Nodup := List.Pairwise.map _ (fun a b h e => h (by omega)) (List.nodup_range (n := n))
theorem or_perm {m : Int} {os : List Int} (h : orOk m os = true) : os.Perm (rng m.toNat) := by
 obtain ⟨g1,g2,g3⟩ := orOk_iff.1 h
 obtain ⟨n1,n2⟩ := orS_nodup.1 g3
 refine (List.perm_ext_iff_of_nodup n2 (rng_nodup _)).2 fun o => ?_
 constructor
 ·intro ho
  exact mem_rng.2 (by have := (n1 o ho).1; omega)
 ·intro ho
  have hr := mem_rng.1 ho
  have := set_all h o.toNat (by omega)
  rw [setO_bit (fun x hx => (n1 x hx).1.1)] at this
  rcases this with q | q
  ·simp at q
  ·rwa [Int.toNat_of_nonneg hr.1] at q
end
section
def fl (s : Int) (i : Nat) : Bool := s / 2 ^ i % 2 == 1
end
section
attribute [-simp] DV.cells sliceD
attribute [local simp] cells_st cells_sl cells_i cells_y cells_b cells_s cells_w
theorem p6 : ∀ {n : Nat},n ≤ 5 → (1 : Int) ≤ 6 ^ n ∧ (6 : Int) ^ n ≤ 7776 := by
 intro n hn
 have : n = 0 ∨ n = 1 ∨ n = 2 ∨ n = 3 ∨ n = 4 ∨ n = 5 := by omega
 rcases this with rfl | rfl | rfl | rfl | rfl | rfl <;> decide
def stW (us : List T) (tab : Nat) (os : List Int) (k : Nat) (ks : List Int) (w a sum sd : Int) : LS :=
 ⟨[(0,.sl 0 (us.map e2)),(1,.i tab),(2,.sl 0 (os.map .i)),(3,.i k),(4,.sl 0 (ks.map .i)),(5,.i w),(13,.i a),(14,.i sum),(15,.i sd)],[]⟩
end
section
inductive PT where
 | stop
 | ask (k : Nat) (no yes : PT)
def fcd (m : Nat) (t : List T) (ks : List Int) : Bool := foT m t ks != -1
end
section
abbrev C3 := Int × Int × Int
/-- a tree with the places of its choices -/
inductive LT where
 | stop
 | ask (p k : Nat) (no yes : LT)
def LT.size : LT → Nat
 | .stop => 0
 | .ask _ _ n y => 1 + n.size + y.size
/-- where one may go on to from a place -/
def nxt (N : Nat) (p : Nat) (a : Int) : Prop := a = -1 ∨ ((p : Int) + 1 ≤ a ∧ a ≤ (N : Int) - 1)
instance (N p : Nat) (a : Int) : Decidable (nxt N p a) := by unfold nxt; infer_instance
/-- the row holds the tree,from a place on -/
def enc (P : List C3) : Int → LT → Prop
 | a,.stop => a = -1
 | a,.ask p k n y => a = (p : Int) ∧ ∃ no ye,P[p]? = some ((k : Int),no,ye) ∧ nxt P.length p no ∧ nxt P.length p ye ∧ enc P no n ∧ enc P ye y
/-- where a row goes on to -/
def rfs : List C3 → List Int
 | [] => []
 | (_,no,ye) :: r => (if no = -1 then [] else [no]) ++ (if ye = -1 then [] else [ye]) ++ rfs r
end
section
def PT.size : PT → Nat
 | .stop => 0
 | .ask _ n y => 1 + n.size + y.size
def rot (P : List C3) : Int := if P = [] then -1 else 0
end
section
attribute [-simp] DV.cells
attribute [local simp] sliceD cells_st cells_sl cells_i cells_y cells_b cells_s cells_w
theorem lend_e3 (P : List C3) : lendL (P.map e3) = P.map e3 := by rw [lendL_map,List.map_map]; rfl
theorem adopt_e3 (o : Bool) (P : List C3) : adoptL o (P.map e3) = P.map e3 := by rw [adoptL_map,List.map_map]; rfl
theorem new_e3 (P : List C3) : allNewL (P.map e3) = true := by rw [allNewL_all,List.all_map,List.all_eq_true]; intro x _; rfl
theorem al_e3 (P : List C3) : allOldL (P.map e3) = true := by rw [allOldL_all,List.all_map,List.all_eq_true]; intro x _; rfl
theorem lt_e3 (n : Nat) (P : List C3) : lendL (List.take n (P.map e3)) = List.take n (P.map e3) := by rw [← List.map_take,lend_e3]
attribute [local simp] lend_e3 adopt_e3 new_e3 al_e3 lt_e3
def C3.nx (c : C3) (b : Bool) : Int := if b then c.2.2 else c.2.1
end
section
def aN : List Int → Nat
 | [] => 0
 | k :: r => (if k = -1 then 0 else 1) + 2 * aN r
def kn : List Int → Nat
 | [] => 0
 | k :: r => (if k = -1 then 0 else 1) + kn r
/-- how many ones there are,for small numbers -/
def pc (x : Nat) : Nat := x % 2 + x / 2 % 2 + x / 4 % 2 + x / 8 % 2 + x / 16 % 2
/-- what agrees,as a number -/
def lfW (ks : List Int) : BitVec 32 := agW ks 0 (4294967295#32)
end
section
abbrev Pts := List (Option (List Int))
/-- one goes on to where it is noted -/
def go3 (m : Nat) (t : List T) (N : Nat) (pts : Pts) (p : Int) (a : Int) (ks : List Int) : Prop :=
 (a = -1 ∧ fcd m t ks = true) ∨ (p + 1 ≤ a ∧ a ≤ (N : Int) - 1 ∧ pts[a.toNat]? = some (some ks))
structure Inv (m : Nat) (t : List T) (P : List C3) (p : Nat) (pts : Pts) : Prop where
 len : pts.length = P.length
 nd : (rfs (P.take p)).Nodup
 rng : ∀ a ∈ rfs (P.take p),1 ≤ a ∧ a < P.length
 iff_ : ∀ a : Nat,a < P.length → (pts[a]? ≠ some none ↔ (a = 0 ∨ (a : Int) ∈ rfs (P.take p)))
 ok : ∀ (a : Nat) (ks : List Int),pts[a]? = some (some ks) → ks.length = m ∧ ks.all kOk = true ∧ fcd m t ks = false
 loc : ∀ q : Nat,q < p → ∃ (ks : List Int) (k no ye : Int),P[q]? = some (k,no,ye) ∧ pts[q]? = some (some ks) ∧ (0 ≤ k ∧ k < m) ∧ ks[k.toNat]? = some (-1) ∧ go3 m t P.length pts q no (ks.set k.toNat 0) ∧ go3 m t P.length pts q ye (ks.set k.toNat 1)
end
section
attribute [-simp] DV.cells
attribute [local simp] sliceD cells_st cells_sl cells_i cells_y cells_b cells_s cells_w
attribute [local simp] lend_e3 adopt_e3 new_e3 al_e3 lt_e3
def pv (m a : Int) (w v : BitVec 32) : DV := .st [.i m,.i a,.w w,.w v]
/-- the point at which so much is known -/
def pD (m : Nat) (t : List T) (ks : List Int) : DV := pv m (aN ks) (lfW ks) (tsW t)
end
section
attribute [-simp] DV.cells
attribute [local simp] sliceD cells_st cells_sl cells_i cells_y cells_b cells_s cells_w
attribute [local simp] lend_e3 adopt_e3 new_e3 al_e3 lt_e3
def e4 (m : Nat) (t : List T) : Option (List Int) → DV
 | some ks => pD m t ks
 | none => pv 0 0 (0#32) (0#32)
end
section
attribute [-simp] DV.cells
attribute [local simp] sliceD cells_st cells_sl cells_i cells_y cells_b cells_s cells_w
attribute [local simp] lend_e3 adopt_e3 new_e3 al_e3 lt_e3
structure Fin (m : Nat) (t : List T) (P : List C3) (L : LT) (pts : Pts) : Prop where
 inv : Inv m t P P.length pts
 start : go3 m t P.length pts (-1) (rot P) (non m)
end
section
/-- the weight of what is known -/
def kp : List T → List Int → Int
 | t :: r,k :: ks => (if k = -1 then 1 else if k = 1 then t.2 else 6 - t.2) * kp r ks
 | _,_ => 1
end
section
/-- what it costs,the parts in which it ends all,and its whole -/
abbrev I3 := Int × Int × Int
def gM : List I3 → Int
 | [] => 1
 | x :: r => x.2.2 * gM r
def gD : List I3 → Int
 | [] => 0
 | x :: r => x.1 * gM r + (x.2.2 - x.2.1) * gD r
end
section
def pA (us : List T) (k : Nat) : Int := (us.getD k (0,0)).2
theorem pA_bd {us : List T} (h : us.all tOk = true) {k : Nat} (hk : k < us.length) : 1 ≤ pA us k ∧ pA us k ≤ 5 := by
 unfold pA
 have e : us.getD k (0,0) = us[k] := by simp [List.getD,hk]
 rw [e]
 have := tOk_iff.1 (List.all_eq_true.1 h us[k] (List.getElem_mem hk))
 omega
/-- groups: all tests,each once -/
structure Gok (m : Nat) (L : List (List Nat)) : Prop where
 lt : ∀ g ∈ L,∀ k ∈ g,k < m
 nd : L.flatten.Nodup
 all : ∀ k,k < m → k ∈ L.flatten
 ne : ∀ g ∈ L,g ≠ []
end
section
theorem gok_len {m : Nat} {L : List (List Nat)} (G : Gok m L) : L.flatten.length = m := by
 have : L.flatten.Perm (List.range m) := (List.perm_ext_iff_of_nodup G.nd List.nodup_range).2 fun k => by
  rw [List.mem_range]
  refine ⟨fun hk => ?_,G.all k⟩
  obtain ⟨g,h1,h2⟩ := List.mem_flatten.1 hk
  exact G.lt g h1 k h2
 rw [this.length_eq,List.length_range]
end
section
attribute [-simp] DV.cells
attribute [local simp] sliceD cells_st cells_sl cells_i cells_y cells_b cells_s cells_w
theorem lend_eR (L : List (List Int)) : lendL (L.map eR) = L.map eR := by
 rw [lendL_map,List.map_map]
 apply List.map_congr_left
 intro r _
 simp [eR,DV.lend]
theorem al_eR (L : List (List Int)) : allOldL (L.map eR) = true := by
 rw [allOldL_all,List.all_map,List.all_eq_true]
 intro r _
 simp [eR,DV.allOld]
attribute [local simp] lend_eR al_eR
def gokB (m : Int) (L : List (List Int)) : Bool := L.all (fun r => !r.isEmpty) && orOk m L.flatten
def gAl (m : Int) : Nat → List (List Int) → Bool
 | _,[] => true
 | n,r :: L => decide (1 ≤ (r.length : Int) ∧ (r.length : Int) ≤ m - n) && gAl m (n + r.length) L
theorem gAl_iff {m : Int} : ∀ {L : List (List Int)} {n : Nat},(n : Int) ≤ m → (gAl m n L = true ↔ L.all (fun r => !r.isEmpty) = true ∧ ((n + L.flatten.length : Nat) : Int) ≤ m)
 | [],n,h => by simp [gAl,h]
 | r :: L,n,h => by
  simp only [gAl,Bool.and_eq_true,decide_eq_true_eq,List.all_cons,List.flatten_cons,List.length_append]
  by_cases hr : (r.length : Int) ≤ m - n
  ·rw [gAl_iff (L := L) (n := n + r.length) (by omega)]
   cases r with
   | nil => simp
   | cons a r =>
    simp only [List.isEmpty_cons,Bool.not_false,true_and,List.length_cons] at *
    constructor
    ·rintro ⟨_,h1,h2⟩; exact ⟨h1,by omega⟩
    ·rintro ⟨h1,h2⟩; exact ⟨⟨by omega,by omega⟩,h1,by omega⟩
  ·constructor
   ·rintro ⟨⟨_,h2⟩,_⟩; exact absurd h2 hr
   ·rintro ⟨_,h2⟩; omega
theorem gokB_al {m : Int} (hm : 1 ≤ m ∧ m ≤ 5) (L : List (List Int)) : gokB m L = (gAl m 0 L && orOk m L.flatten) := by
 unfold gokB
 cases h : orOk m L.flatten with
 | false => simp
 | true =>
  have := orOk_len h
  rw [Bool.and_true,Bool.and_true,Bool.eq_iff_iff,gAl_iff (by omega)]
  exact ⟨fun h => ⟨h,by omega⟩,fun h => h.1⟩
def stGk (m : Int) (L : List (List Int)) (acc : List Int) (k : Nat) : LS := ⟨[(0,.i m),(5,.own 2568 acc.length 0 acc.length),(11,.sl 0 (L.map eR)),(12,.i L.length),(13,.i k)],[(2568,acc.map .i)]⟩
theorem l_impl_GroupsOk {m : Int} (hm : 1 ≤ m ∧ m ≤ 5) (A : List (List Int)) (hb : (A.length : Int) < 1099511627776) : ∀ (L : List (List Int)) (k : Nat) (acc : List Int),(acc.length : Int) ≤ m → k + L.length = A.length → A.drop k = L →
  ex lf F_impl_GroupsOk_W0 (stGk m A acc k) = if gAl m acc.length L = true then some (.exit 0,stGk m A (acc ++ L.flatten) A.length) else some (.ret,⟨[(4,.b false)],[]⟩)
 | [],k,acc,ha,hk,hd => by
  have e : k = A.length := by simpa using hk
  subst e
  rw [w_impl_GroupsOk_0]
  simp [stGk,F_impl_GroupsOk_L0,gAl]
 | r :: L,k,acc,ha,hk,hd => by
  simp only [List.length_cons] at hk
  have hlt : (k : Int) < A.length := by omega
  have hd2 : A.drop (k + 1) = L := by rw [← List.drop_drop,hd]; rfl
  have hat : A[k]? = some r := by
   have := congrArg (fun l => l[0]?) hd
   simpa using this
  have at1 : atI (A.map eR) (k : Int) = some (.sl 0 (r.map .i)) := by
   simp only [atI,if_pos (Int.natCast_nonneg k)]
   show (A.map eR)[(k : Int).toNat]? = _
   rw [Int.toNat_natCast,List.getElem?_map,hat]; rfl
  have w1 : wr ((k : Int) + 1) = ((k + 1 : Nat) : Int) := by rw [wr_id (by omega) (by omega)]; omega
  have w2 : wr (m - acc.length) = m - acc.length := wr_id (by omega) (by omega)
  have W := c_impl_isWithin (r.length : Int) 1 (m - acc.length)
  rw [w_impl_GroupsOk_0]
  by_cases hr : 1 ≤ (r.length : Int) ∧ (r.length : Int) ≤ m - acc.length
  ·rw [decide_eq_true hr] at W
   have ih := l_impl_GroupsOk hm A hb L (k + 1) (acc ++ r) (by simp; omega) (by omega) hd2
   have e : gAl m acc.length (r :: L) = gAl m (acc ++ r).length L := by simp only [gAl]; rw [decide_eq_true hr]; simp
   rw [e,List.flatten_cons,← List.append_assoc,← ih]
   have c1 : acc.length + r.length ≤ bound := by unfold bound; omega
   unfold stGk
   simp [F_impl_GroupsOk_L0,hlt,at1,w1,w2,W,c1,-Int.natCast_add]
  ·rw [decide_eq_false hr] at W
   have e : gAl m acc.length (r :: L) = false := by simp only [gAl]; rw [decide_eq_false hr]; rfl
   rw [e]
   unfold stGk
   simp [F_impl_GroupsOk_L0,hlt,at1,w1,w2,W,-Int.natCast_add]
theorem c_impl_GroupsOk (m : Int) (L : List (List Int)) (hb : (L.length : Int) < 1099511627776) : call lf n_impl_GroupsOk [.i m,.sl 0 (L.map eR)] = some (.b (gokB m L),[]) := by
 rw [call_k lf n_impl_GroupsOk _ (F := F_impl_GroupsOk) rfl rfl]
 cases h1 : nOk m with
 | false =>
  have e : gokB m L = false := by unfold gokB orOk; simp [h1]
  simp [F_impl_GroupsOk,c_impl_manyOk,h1,e]
 | true =>
  have hm := nOk_iff.1 h1
  rw [gokB_al hm]
  have I := l_impl_GroupsOk hm L hb L 0 [] (by simp; omega) (by simp) rfl
  unfold stGk at I
  simp only [List.length_nil,List.map_nil,Int.natCast_zero,List.nil_append] at I
  cases h2 : gAl m 0 L with
  | false =>
   rw [h2] at I
   simp at I
   simp [F_impl_GroupsOk,c_impl_manyOk,h1,I]
  | true =>
   rw [h2,if_pos rfl] at I
   have l5 := ((gAl_iff (n := 0) (by omega)).1 h2).2
   have C := c_impl_OrderOk m L.flatten (by omega)
   generalize L.flatten = M at *
   have tk : List.take M.length (M.map DV.i) = M.map .i := List.take_of_length_le (by simp)
   simp [F_impl_GroupsOk,c_impl_manyOk,h1,I,C,tk]
end
section
attribute [-simp] DV.cells
attribute [local simp] sliceD cells_st cells_sl cells_i cells_y cells_b cells_s cells_w
attribute [local simp] lend_eR al_eR
theorem at_eR {A : List (List Int)} {k : Nat} {r : List Int} (h : A[k]? = some r) : atI (A.map eR) (k : Int) = some (.sl 0 (r.map .i)) := by
 simp only [atI,if_pos (Int.natCast_nonneg k)]
 show (A.map eR)[(k : Int).toNat]? = _
 rw [Int.toNat_natCast,List.getElem?_map,h]; rfl
theorem atI_int {r : List Int} {j : Nat} {a : Int} (h : r[j]? = some a) : atI (r.map DV.i) (j : Int) = some (.i a) := by
 simp only [atI,if_pos (Int.natCast_nonneg j)]
 show (r.map DV.i)[(j : Int).toNat]? = _
 rw [Int.toNat_natCast,List.getElem?_map,h]; rfl
theorem drop_cons {α : Type} {A : List α} {k : Nat} {r : α} {L : List α} (h : A.drop k = r :: L) : k < A.length ∧ A[k]? = some r ∧ A.drop (k + 1) = L := by
 have hk : k < A.length := by
  rcases Nat.lt_or_ge k A.length with h1 | h1
  ·exact h1
  ·rw [List.drop_eq_nil_of_le h1] at h; cases h
 refine ⟨hk,?_,by rw [← List.drop_drop,h]; rfl⟩
 have := congrArg (fun l => l[0]?) h
 simpa using this
theorem wr_succ {k : Nat} (h : (k : Int) < 1099511627776) : wr ((k : Int) + 1) = ((k + 1 : Nat) : Int) := by rw [wr_id (by omega) (by omega)]; omega
def stGi (m : Int) (A : List (List Int)) (so n k j : Nat) : LS := ⟨[(0,.i m),(1,.sl 0 (A.map eR)),(5,.i so),(6,.i n),(7,.i k),(8,.i j)],[]⟩
theorem gs_inner (m : Int) (A : List (List Int)) {k : Nat} {R : List Int} (hk : A[k]? = some R) (hkl : (k : Int) < A.length) : ∀ (r : List Int) (j so n : Nat),so < 32 → ((n + r.length : Nat) : Int) < 1099511627776 → (R.length : Int) < 1099511627776 → R.drop j = r → j + r.length = R.length →
  ex lf F_spec_GroupsOk_W1 (stGi m A so n k j) = if orS (min m 5) so r = true then some (.exit 2,stGi m A (setO so r) (n + r.length) k R.length) else some (.ret,⟨[(4,.b false)],[]⟩) := by
 intro r
 induction r with
 | nil =>
  intro j so n hs hn hR hd hj
  have at1 := at_eR hk
  have e : j = R.length := by simpa using hj
  subst e
  rw [w_spec_GroupsOk_1]
  simp [stGi,F_spec_GroupsOk_L1,orS,setO,at1,hkl]
 | cons a r ih0 =>
  intro j so n hs hn hR hd hj
  have at1 := at_eR hk
  obtain ⟨j1,j2,j3⟩ := drop_cons hd
  have j1' : (j : Int) < R.length := by omega
  have at2 := atI_int j2
  simp only [List.length_cons] at hn hj
  have w1 := wr_succ (k := j) (by omega)
  have w2 := wr_succ (k := n) (by omega)
  rw [w_spec_GroupsOk_1]
  by_cases a0 : a < 0
  ·have e2 : decide (0 ≤ a ∧ a < min m 5) = false := decide_eq_false (by omega)
   simp only [orS,e2,Bool.false_and]
   simp [stGi,F_spec_GroupsOk_L1,at1,at2,hkl,j1,j1',a0]
  ·by_cases a1 : m ≤ a
   ·have e2 : decide (0 ≤ a ∧ a < min m 5) = false := decide_eq_false (by omega)
    simp only [orS,e2,Bool.false_and]
    simp [stGi,F_spec_GroupsOk_L1,at1,at2,hkl,j1,j1',a0,a1]
   ·by_cases a5 : 5 ≤ a
    ·have e2 : decide (0 ≤ a ∧ a < min m 5) = false := decide_eq_false (by omega)
     simp only [orS,e2,Bool.false_and]
     simp [stGi,F_spec_GroupsOk_L1,at1,at2,hkl,j1,j1',a0,a1,a5]
    ·have e2 : decide (0 ≤ a ∧ a < min m 5) = true := decide_eq_true (by omega)
     have o := or_i (so := so) (by omega) (by omega : 0 ≤ a) (by omega : a < 5)
     have bb := bit_bI (a := so) (s := a.toNat) (by omega)
     rw [Int.toNat_of_nonneg (by omega)] at bb
     have ih := ih0 (j + 1) (so ||| 2 ^ a.toNat) (n + 1) (or_lt2 (m := 5) hs (by omega)) (by omega) hR j3 (by omega)
     rw [show n + 1 + r.length = n + (r.length + 1) by omega] at ih
     simp only [orS,e2,Bool.true_and,setO,List.length_cons]
     unfold stGi at *
     cases hb : so.testBit a.toNat with
     | true =>
      rw [hb] at bb
      have q : (bI true == 1) = true := rfl
      simp [F_spec_GroupsOk_L1,at1,at2,hkl,j1,j1',a0,a1,a5,bb,q]
     | false =>
      rw [hb] at bb
      have q : (bI false == 1) = false := rfl
      simp [F_spec_GroupsOk_L1,at1,at2,hkl,j1,j1',a0,a1,a5,bb,q,o,w1,w2,ih,-Int.natCast_add]
def gSp (m : Int) : Nat → List (List Int) → Bool
 | _,[] => true
 | so,r :: L => !r.isEmpty && (orS m so r && gSp m (setO so r) L)
theorem gSp_eq (m : Int) : ∀ (L : List (List Int)) (so : Nat),gSp m so L = (L.all (fun r => !r.isEmpty) && orS m so L.flatten)
 | [],so => by simp [gSp,orS]
 | r :: L,so => by
  simp only [gSp,List.all_cons,List.flatten_cons,orS_app,gSp_eq m L]
  cases r.isEmpty <;> cases orS m so r <;> simp
theorem setO32 {m : Int} : ∀ {os : List Int} {so : Nat},so < 32 → orS (min m 5) so os = true → setO so os < 32
 | [],_,h,_ => h
 | a :: r,so,h,ho => by
  obtain ⟨h1,h2,h3⟩ := orS_cons.1 ho
  exact setO32 (os := r) (or_lt2 (m := 5) h (by omega)) h3
def stGo (m : Int) (A : List (List Int)) (so n k : Nat) : LS := ⟨[(0,.i m),(1,.sl 0 (A.map eR)),(5,.i so),(6,.i n),(7,.i k)],[]⟩
theorem gs_outer (m : Int) (A : List (List Int)) (hb : (A.length : Int) < 1099511627776) : ∀ (L : List (List Int)) (k so n : Nat),so < 32 → ((n + L.flatten.length : Nat) : Int) < 1099511627776 → A.drop k = L → k + L.length = A.length →
  ex lf F_spec_GroupsOk_W0 (stGo m A so n k) = if gSp (min m 5) so L = true then some (.exit 0,stGo m A (setO so L.flatten) (n + L.flatten.length) A.length) else some (.ret,⟨[(4,.b false)],[]⟩) := by
 intro L
 induction L with
 | nil =>
  intro k so n hs hn hd hk
  have e : k = A.length := by simpa using hk
  subst e
  rw [w_spec_GroupsOk_0]
  simp [stGo,F_spec_GroupsOk_L0,gSp,setO]
 | cons R L ih0 =>
  intro k so n hs hn hd hk
  obtain ⟨k1,k2,k3⟩ := drop_cons hd
  have k1' : (k : Int) < A.length := by omega
  have at1 := at_eR k2
  simp only [List.flatten_cons,List.length_append] at hn
  simp only [List.length_cons] at hk
  have w1 := wr_succ (k := k) (by omega)
  rw [w_spec_GroupsOk_0]
  by_cases h0 : R = []
  ·subst h0
   simp only [gSp]
   simp [stGo,F_spec_GroupsOk_L0,k1,k1',at1]
  ·have I := gs_inner m A k2 k1' R 0 so n hs (by omega) (by omega) rfl (by simp)
   have e0 : R.isEmpty = false := by simpa using h0
   have r0 : ((R.length : Int) == 0) = false := by have := List.length_pos_iff.2 h0; exact beq_false_of_ne (by omega)
   simp only [gSp,e0,Bool.not_false,Bool.true_and]
   unfold stGi at I
   unfold stGo at *
   simp only [Int.natCast_zero] at I
   cases h1 : orS (min m 5) so R with
   | false =>
    rw [h1] at I
    simp at I
    simp [F_spec_GroupsOk_L0,k1,k1',at1,r0,I]
   | true =>
    rw [h1,if_pos rfl] at I
    have ih := ih0 (k + 1) (setO so R) (n + R.length) (setO32 hs h1) (by omega) k3 (by omega)
    rw [← Nat.add_assoc,List.flatten_cons,setO_app,List.length_append,← Nat.add_assoc] at *
    simp only [Bool.true_and]
    simp [F_spec_GroupsOk_L0,k1,k1',at1,r0,I,w1,ih,-Int.natCast_add,-List.length_flatten]
theorem c_spec_GroupsOk (m : Int) (L : List (List Int)) (hb : (L.length : Int) < 1099511627776) (hf : (L.flatten.length : Int) < 1099511627776) : call lf n_spec_GroupsOk [.i m,.sl 0 (L.map eR)] = some (.b (gokB m L),[]) := by
 rw [call_k lf n_spec_GroupsOk _ (F := F_spec_GroupsOk) rfl rfl]
 have I := gs_outer m L hb L 0 0 0 (by omega) (by omega) rfl (by simp)
 unfold stGo at I
 simp only [Int.natCast_zero,Nat.zero_add] at I
 have e1 : nOk m = decide (1 ≤ m ∧ m ≤ 5) := rfl
 rw [gSp_eq] at I
 unfold gokB orOk
 rw [e1]
 by_cases hm : 1 ≤ m ∧ m ≤ 5
 ·have h1 : decide (1 ≤ m ∧ m ≤ 5) = true := decide_eq_true hm
  have e5 : min m 5 = m := by omega
  rw [e5] at I
  rw [h1]
  cases h3 : (L.all (fun r => !r.isEmpty) && orS m 0 L.flatten) with
  | false =>
   rw [h3] at I
   simp at I
   have e : (L.all (fun r => !r.isEmpty) && (true && decide ((L.flatten.length : Int) = m) && orS m 0 L.flatten)) = false := by
    rw [Bool.true_and,← Bool.and_assoc,Bool.and_right_comm,h3]; rfl
   rw [e]
   simp [F_spec_GroupsOk,I]
  | true =>
   rw [h3,if_pos rfl] at I
   rw [Bool.and_eq_true] at h3
   rw [h3.1,h3.2]
   generalize L.flatten.length = z at *
   simp [F_spec_GroupsOk,I,c_spec_l1In,h1,Bool.beq_eq_decide_eq]
 ·have h1 : decide (1 ≤ m ∧ m ≤ 5) = false := decide_eq_false hm
  rw [h1]
  cases h3 : (L.all (fun r => !r.isEmpty) && orS (min m 5) 0 L.flatten) with
  | false =>
   rw [h3] at I
   simp at I
   simp [F_spec_GroupsOk,I]
  | true =>
   rw [h3,if_pos rfl] at I
   generalize L.flatten.length = z at *
   simp [F_spec_GroupsOk,I,c_spec_l1In,h1]
end
section
attribute [-simp] DV.cells
attribute [local simp] sliceD cells_st cells_sl cells_i cells_y cells_b cells_s cells_w
attribute [local simp] lend_eR al_eR
theorem c_szIntS (r : List Int) (left : Int) (hl : 0 ≤ left ∧ left ≤ 1048576) (hr : r.length ≤ Go.maxLen) : call lf n_laws_szIntS [.sl 0 (r.map .i),.i left] = some (.i (if (r.length : Int) ≤ left then left - r.length else -1),[]) := by
 rw [call_k lf n_laws_szIntS _ (F := F_laws_szIntS) rfl rfl]
 have hm : Go.maxLen = 9223372036854775807 := rfl
 have w1 : wr (left - r.length) = left - r.length := wr_id (by omega) (by omega)
 by_cases h : (r.length : Int) ≤ left
 ·have n0 : ¬ left - (r.length : Int) < 0 := by omega
  simp [F_laws_szIntS,w1,h,n0]
 ·have n0 : left - (r.length : Int) < 0 := by omega
  simp [F_laws_szIntS,w1,h,n0]
def szL (left : Int) : List (List Int) → Int
 | [] => left
 | r :: L => if (r.length : Int) ≤ left then szL (left - r.length) L else -1
theorem szL_ge : ∀ {L : List (List Int)} {left : Int},0 ≤ szL left L → (L.flatten.length : Int) ≤ left
 | [],left,h => by simpa [szL] using h
 | r :: L,left,h => by
  simp only [szL] at h
  split at h
  ·have := szL_ge h
   simp only [List.flatten_cons,List.length_append]; omega
  ·omega
def stSz (A : List (List Int)) (left : Int) (k : Nat) : LS := ⟨[(0,.sl 0 (A.map eR)),(1,.i left),(5,.i k)],[]⟩
theorem sz_loop (A : List (List Int)) (hA : A.length ≤ 1048576) : ∀ (L : List (List Int)) (k : Nat) (left : Int),(∀ r ∈ L,r.length ≤ Go.maxLen) → 0 ≤ left ∧ left ≤ 1048576 → A.drop k = L → k + L.length = A.length →
  (szL left L < 0 → ex lf F_laws_szIntSS_W0 (stSz A left k) = some (.ret,⟨[(4,.i (-1))],[]⟩)) ∧ (0 ≤ szL left L → ex lf F_laws_szIntSS_W0 (stSz A left k) = some (.exit 0,stSz A (szL left L) A.length)) := by
 intro L
 induction L with
 | nil =>
  intro k left hr hl hd hk
  have e : k = A.length := by simpa using hk
  subst e
  refine ⟨fun h => by simp only [szL] at h; omega,fun h => ?_⟩
  rw [w_laws_szIntSS_0]
  simp [stSz,F_laws_szIntSS_L0,szL]
 | cons r L ih0 =>
  intro k left hr hl hd hk
  obtain ⟨k1,k2,k3⟩ := drop_cons hd
  have k1' : (k : Int) < A.length := by omega
  have at1 := at_eR k2
  simp only [List.length_cons] at hk
  have w1 := wr_succ (k := k) (by omega)
  have C := c_szIntS r left hl (hr r (by simp))
  simp only [szL]
  unfold stSz at *
  by_cases h : (r.length : Int) ≤ left
  ·have ih := ih0 (k + 1) (left - r.length) (fun x hx => hr x (by simp [hx])) (by omega) k3 (by omega)
   rw [if_pos h] at C ⊢
   have n0 : ¬ left - (r.length : Int) < 0 := by omega
   refine ⟨fun hs => ?_,fun hs => ?_⟩
   ·rw [w_laws_szIntSS_0]
    have ih := ih.1 hs
    simp [F_laws_szIntSS_L0,k1,k1',at1,C,n0,w1,ih,-Int.natCast_add]
   ·rw [w_laws_szIntSS_0]
    have ih := ih.2 hs
    simp [F_laws_szIntSS_L0,k1,k1',at1,C,n0,w1,ih,-Int.natCast_add]
  ·rw [if_neg h] at C ⊢
   refine ⟨fun hs => ?_,fun hs => by omega⟩
   rw [w_laws_szIntSS_0]
   simp [F_laws_szIntSS_L0,k1,k1',at1,C]
/-- either it is too large,or this is what it says -/
theorem c_szIntSS (L : List (List Int)) (left : Int) (hl : 0 ≤ left ∧ left ≤ 1048576) (hL : L.length ≤ Go.maxLen) (hr : ∀ r ∈ L,r.length ≤ Go.maxLen) :
  call lf n_laws_szIntSS [.sl 0 (L.map eR),.i left] = some (.i (-1),[]) ∨ ∃ z : Int,0 ≤ z ∧ z ≤ left ∧ (L.length : Int) ≤ left ∧ (L.flatten.length : Int) ≤ left ∧ call lf n_laws_szIntSS [.sl 0 (L.map eR),.i left] = some (.i z,[]) := by
 have hm : Go.maxLen = 9223372036854775807 := rfl
 have w1 : wr (left - L.length) = left - L.length := wr_id (by omega) (by omega)
 rw [call_k lf n_laws_szIntSS _ (F := F_laws_szIntSS) rfl rfl]
 by_cases h : (L.length : Int) ≤ left
 ·have I := sz_loop L (by omega) L 0 (left - L.length) hr (by omega) rfl (by simp)
  unfold stSz at I
  simp only [Int.natCast_zero] at I
  have n0 : ¬ left - (L.length : Int) < 0 := by omega
  by_cases hs : 0 ≤ szL (left - L.length) L
  ·have I := I.2 hs
   have g := szL_ge hs
   have u : ∀ (L : List (List Int)) (a : Int),szL a L ≤ a ∨ szL a L = -1 := by
    intro L
    induction L with
    | nil => intro a; left; simp [szL]
    | cons r L ih =>
     intro a
     simp only [szL]
     split
     ·rcases ih (a - r.length) with h | h
      ·left; omega
      ·right; exact h
     ·right; rfl
   refine .inr ⟨szL (left - L.length) L,hs,?_,h,by omega,?_⟩
   ·rcases u L (left - L.length) with h | h <;> omega
   ·simp [F_laws_szIntSS,w1,n0,I]
  ·have I := I.1 (by omega)
   left
   simp [F_laws_szIntSS,w1,n0,I]
 ·left
  have n0 : left - (L.length : Int) < 0 := by omega
  simp [F_laws_szIntSS,w1,n0]
/-- rows that are new -/
def eN (r : List Int) : DV := .sl 1 (r.map .i)
theorem lend_eN (L : List (List Int)) : lendL (L.map eN) = L.map eR := by
 rw [lendL_map,List.map_map]
 apply List.map_congr_left
 intro r _
 simp [eN,eR,DV.lend]
theorem adopt_eN (o : Bool) (L : List (List Int)) : adoptL o (L.map eN) = L.map eN := by
 rw [adoptL_map,List.map_map]
 apply List.map_congr_left
 intro r _
 simp [eN,DV.adopt,adoptP]
theorem new_eN (L : List (List Int)) : allNewL (L.map eN) = true := by
 rw [allNewL_all,List.all_map,List.all_eq_true]
 intro r _
 simp [eN,DV.allNew,newP]
attribute [local simp] lend_eN adopt_eN new_eN
def cN (A : List (List Int)) (i : Nat) : List DV := (A.take i).map eN ++ List.replicate (A.length - i) (.sl 1 [])
theorem cN_len {A : List (List Int)} {i : Nat} (hi : i ≤ A.length) : (cN A i).length = A.length := by simp [cN]; omega
theorem cN_set {A : List (List Int)} {i : Nat} {r : List Int} (hi : i < A.length) (h : A[i]? = some r) : (cN A i).set i (.sl 1 (r.map .i)) = cN A (i + 1) := by
 have e : ((A.take i).map eN).length = i := by simp; omega
 unfold cN
 rw [List.set_append_right _ _ (by omega),e,Nat.sub_self,List.take_add_one,h,show A.length - i = (A.length - (i + 1)) + 1 by omega,List.replicate_succ,List.set_cons_zero,Option.toList_some,List.map_append,List.append_assoc]
 rfl
theorem cN_get {A : List (List Int)} {i : Nat} (hi : i < A.length) : atN (cN A i) i = some (.sl 1 []) := by
 show (cN A i)[i]? = _
 have : ((A.take i).map eN).length = i := by simp; omega
 unfold cN
 rw [List.getElem?_append_right (by omega),this,Nat.sub_self,List.getElem?_replicate]
 simp; omega
theorem cN_zero (A : List (List Int)) : cN A 0 = List.replicate A.length (.sl 1 []) := by simp [cN]
theorem cN_all (A : List (List Int)) : cN A A.length = A.map eN := by simp [cN]
theorem c_toIntSS (A : List (List Int)) (hA : (A.length : Int) ≤ 1048576) (hr : ∀ r ∈ A,(r.length : Int) ≤ 1048576) : call lf n_laws_toIntSS [.sl 0 (A.map eR)] = some (.fr 1 (A.map eN),[]) := by
 rw [call_k lf n_laws_toIntSS _ (F := F_laws_toIntSS) rfl rfl]
 have L : ex lf F_laws_toIntSS_W0 ⟨[(0,.sl 0 (A.map eR)),(3,.own 3592 A.length 0 A.length),(4,.i 0)],[(3592,cN A 0)]⟩ =
   some (.exit 0,⟨[(0,.sl 0 (A.map eR)),(3,.own 3592 A.length 0 A.length),(4,.i A.length)],[(3592,cN A A.length)]⟩) := by
  refine loop_count A.length (fun i => ⟨[(0,.sl 0 (A.map eR)),(3,.own 3592 A.length 0 A.length),(4,.i i)],[(3592,cN A i)]⟩) (fun i hi => ?_) ?_ (by simp)
  ·have hi' : (i : Int) < A.length := by omega
   have k2 : A[i]? = some A[i] := List.getElem?_eq_getElem hi
   have at1 := at_eR k2
   have T := c_toIntS A[i] (hr _ (List.getElem_mem hi))
   have w1 : wr ((i : Int) + 1) = (i : Int) + 1 := wr_id (by omega) (by omega)
   have c1 := cN_len (A := A) (i := i) (by omega)
   have c2 := cN_get hi
   have c3 := cN_set hi k2
   have tk : List.take A[i].length (A[i].map DV.i) = A[i].map .i := List.take_of_length_le (by simp)
   generalize A[i] = r at *
   simp [F_laws_toIntSS_L0,hi,hi',at1,T,w1,c1,c2,c3,tk]
  ·simp [F_laws_toIntSS_L0]
 have b1 : (A.length : Int) ≤ bound := by unfold bound; omega
 rw [cN_zero,cN_all] at L
 simp [F_laws_toIntSS,b1,L]
theorem c_eqIntSS_self (A : List (List Int)) (hA : (A.length : Int) ≤ 1048576) (hr : ∀ r ∈ A,(r.length : Int) ≤ 1048576) : call lf n_laws_eqIntSS [.sl 0 (A.map eR),.sl 0 (A.map eR)] = some (.b true,[]) := by
 rw [call_k lf n_laws_eqIntSS _ (F := F_laws_eqIntSS) rfl rfl]
 have L : ex lf F_laws_eqIntSS_W0 ⟨[(0,.sl 0 (A.map eR)),(1,.sl 0 (A.map eR)),(5,.i 0)],[]⟩ = some (.exit 0,⟨[(0,.sl 0 (A.map eR)),(1,.sl 0 (A.map eR)),(5,.i A.length)],[]⟩) := by
  refine loop_count A.length (fun i => ⟨[(0,.sl 0 (A.map eR)),(1,.sl 0 (A.map eR)),(5,.i i)],[]⟩) (fun i hi => ?_) ?_ (by simp)
  ·have hi' : (i : Int) < A.length := by omega
   have k2 : A[i]? = some A[i] := List.getElem?_eq_getElem hi
   have at1 := at_eR k2
   have T := c_eqIntS_self A[i] (hr _ (List.getElem_mem hi))
   have w1 : wr ((i : Int) + 1) = (i : Int) + 1 := wr_id (by omega) (by omega)
   generalize A[i] = r at *
   simp [F_laws_eqIntSS_L0,hi,hi',at1,T,w1]
  ·simp [F_laws_eqIntSS_L0]
 simp [F_laws_eqIntSS,L]
end
section
attribute [-simp] DV.cells
attribute [local simp] sliceD cells_st cells_sl cells_i cells_y cells_b cells_s cells_w
attribute [local simp] lend_eR al_eR lend_eN adopt_eN new_eN
theorem mk1_marks (k : Int) (n : Nat) : mk1 k n = (marksI k n).map .i := by simp [mk1,marksI]
set_option maxHeartbeats 4000000 in
theorem cut_markIntS (xs : List Int) (n : Nat) (k : Int) (k0 : 0 ≤ k) (k1 : k ≤ 1000000000) (hn : n ≤ 1048576) (hl : n ≤ xs.length) : ∃ S,ex lf F_laws_markIntS.body ⟨[(0,.own 15 xs.length 0 n),(1,.i k)],[(15,xs.map .i)]⟩ = some (.ret,S) ∧ resV S F_laws_markIntS.results = some [.i (k + n)] ∧ lookO S.ob 15 = some ((marksI k n ++ xs.drop n).map .i) := by
 have L := loop_count (lf := lf) (L := F_laws_markIntS_L0) n (fun i => ⟨[(0,.own 15 xs.length 0 n),(1,.i (k + i)),(5,.i i)],[(15,mk1 k i ++ (xs.map .i).drop i)]⟩) (x := .exit 0) (R := ⟨[(0,.own 15 xs.length 0 n),(1,.i (k + n)),(5,.i n)],[(15,mk1 k n ++ (xs.map .i).drop n)]⟩) (fun i hi => by
  have w1 : wr ((i : Int) + 1) = (i : Int) + 1 := wr_id (by omega) (by omega)
  have w2 : wr (k + i + 1) = k + (i + 1 : Nat) := by rw [wr_id (by omega) (by omega)]; omega
  have hi' : (i : Int) < n := by omega
  have hix : i < xs.length := by omega
  have hix' : (i : Int) < xs.length := by omega
  have e := split_at (es := xs.map DV.i) (i := i) (by simpa using hix)
  rw [List.getElem_map] at e
  rw [mk1_succ,e]
  have hA := mk1_len k i
  have lB : (List.drop (i + 1) (xs.map DV.i)).length = xs.length - (i + 1) := by simp
  generalize xs[i] = x at *
  generalize List.drop (i + 1) (xs.map DV.i) = B at *
  generalize mk1 k i = A at *
  have q1 := mid_at (B := B) hA
  have q2 := mid_set (B := B) hA
  have q3 : ∀ x : DV,(A ++ x :: B).length = xs.length := fun x => by simp [hA,lB]; omega
  rw [show A ++ [DV.i (k + ↑i)] ++ B = A ++ DV.i (k + ↑i) :: B by simp]
  have tl : (List.take n (A ++ DV.i x :: B)).length = n := by rw [List.length_take,q3]; omega
  simp [F_laws_markIntS_L0,hi,hi',hix,hix',hl,w1,w2,q1,q2,q3,tl,-List.length_append,-List.length_cons]) (by
  have lm : (mk1 k n ++ List.drop n (xs.map DV.i)).length = xs.length := by rw [List.length_append,mk1_len,List.length_drop,List.length_map]; omega
  have tl : (List.take n (mk1 k n ++ List.drop n (xs.map DV.i))).length = n := by rw [List.length_take,lm]; omega
  generalize mk1 k n ++ List.drop n (xs.map DV.i) = Z at *
  simp [F_laws_markIntS_L0,lm,tl,hl]) (by simp)
 have z : mk1 k 0 ++ (xs.map DV.i).drop 0 = xs.map .i := by simp [mk1]
 rw [z] at L
 have L' : ex lf F_laws_markIntS_W0 ⟨[(0,.own 15 xs.length 0 n),(1,.i k),(5,.i 0)],[(15,xs.map .i)]⟩ = some (.exit 0,⟨[(0,.own 15 xs.length 0 n),(1,.i (k + n)),(5,.i n)],[(15,mk1 k n ++ (xs.map .i).drop n)]⟩) := by
  have := L
  simp only [Int.natCast_zero,Int.add_zero] at this
  exact this
 have fin : mk1 k n ++ (xs.map DV.i).drop n = (marksI k n ++ xs.drop n).map .i := by rw [mk1_marks,List.map_append,List.map_drop]
 rw [fin] at L'
 generalize (marksI k n ++ xs.drop n).map DV.i = Z at *
 simp [F_laws_markIntS,L',resV]
theorem nil_markIntS (k : Int) : call lf n_laws_markIntS [.sl 0 [],.i k] = some (.i k,[]) := by
 rw [call_k lf n_laws_markIntS _ (F := F_laws_markIntS) rfl rfl]
 have L : ex lf F_laws_markIntS_W0 ⟨[(0,.sl 0 []),(1,.i k),(5,.i 0)],[]⟩ = some (.exit 0,⟨[(0,.sl 0 []),(1,.i k),(5,.i 0)],[]⟩) := by
  rw [w_laws_markIntS_0]
  simp [F_laws_markIntS_L0]
 simp [F_laws_markIntS,L]
theorem body_of {P : Go.Program} {dc : Array Go.Oper → Bool} (hok : ∀ f F,lf f = some F → OkF P dc f F) (hD : ∀ Γ,FnSound P Γ → DrawOk P Γ dc) (hB : BackSound P) {f : Nat} {args : List DV} {r : DV × List DV} (h : call lf f args = some r) : hasBody P f = true := by
 obtain ⟨n,hn⟩ := call_iff.1 h
 exact (callN_sound hok hD hB n f args r hn).1
theorem row_markIntS {P : Go.Program} {dc : Array Go.Oper → Bool} (hok : ∀ f F,lf f = some F → OkF P dc f F) (hD : ∀ Γ,FnSound P Γ → DrawOk P Γ dc) (hB : BackSound P) (k : Int) (n : Nat) (k0 : 0 ≤ k) (k1 : k ≤ 1000000000) (hn : n ≤ 1048576) : MarksRow P n_laws_markIntS k n := by
 have hb := body_of hok hD hB (nil_markIntS k)
 exact ⟨hb,fun _ => marks_nil hb (call_sound hok hD hB (nil_markIntS k)),fun _ => marks_cut hok hD hB (F := F_laws_markIntS) rfl rfl rfl rfl (by omega) (fun rs hl => by
  obtain ⟨S,h1,h2,h3⟩ := cut_markIntS rs n k k0 k1 hn hl
  exact ⟨.ret,S,.inr rfl,h1,h2,h3⟩) hb⟩
theorem totR_flat : ∀ L : List (List Int),totR L = L.flatten.length
 | [] => rfl
 | r :: L => by simp only [totR,List.flatten_cons,List.length_append,totR_flat L]
theorem totR_take : ∀ (rs : List (List Int)) (i : Nat),totR (rs.take i) ≤ totR rs
 | [],i => by simp [totR]
 | r :: rs,0 => by simp [totR]
 | r :: rs,i + 1 => by
  have := totR_take rs i
  simp only [List.take_succ_cons,totR]
  omega
theorem totR_mem : ∀ (rs : List (List Int)) (i : Nat) (r : List Int),rs[i]? = some r → r.length ≤ totR rs
 | [],i,r,h => by simp at h
 | s :: rs,0,r,h => by
  simp only [List.getElem?_cons_zero,Option.some.injEq] at h
  subst h
  simp only [totR]
  omega
 | s :: rs,i + 1,r,h => by
  have := totR_mem rs i r (by simpa using h)
  simp only [totR]
  omega
/-- the marks of a row of rows -/
theorem rows_markIntSS {P : Go.Program} {dc : Array Go.Oper → Bool} (hok : ∀ f F,lf f = some F → OkF P dc f F) (hD : ∀ Γ,FnSound P Γ → DrawOk P Γ dc) (hB : BackSound P) (rs : List (List Int)) (k : Int) (k0 : 0 ≤ k) (k1 : k ≤ 100000000) (hn : rs.length ≤ 1048576) (ht : totR rs ≤ 1048576) :
  Marks P n_laws_markIntSS (dRs rs) k (fun d => ∃ ss,d = dRs ss ∧ ss.map List.length = rs.map List.length ∧ (Dst rs → ss = mrkR k rs)) (k + totR rs) :=
 marks_rows hok hD hB (F := F_laws_markIntSS) rfl rfl rfl rfl rfl hn (fun i r hr => row_markIntS hok hD hB _ _ (by omega) (by have := totR_take rs i; omega) (by have := totR_mem rs i r hr; omega))
theorem mrk_at : ∀ (k : Int) (rs : List (List Int)) (i : Nat) (r : List Int),rs[i]? = some r → (mrkR k rs)[i]? = some (marksI (k + totR (rs.take i)) r.length)
 | k,[],i,r,h => by simp at h
 | k,s :: rs,0,r,h => by
  simp only [List.getElem?_cons_zero,Option.some.injEq] at h
  subst h
  simp [mrkR,totR]
 | k,s :: rs,i + 1,r,h => by
  have := mrk_at (k + s.length) rs i r (by simpa using h)
  simp only [mrkR,List.getElem?_cons_succ,List.take_succ_cons,totR]
  rw [this]
  congr 2
  omega
/-- and what is found again -/
theorem c_heldIntSS (rs : List (List Int)) (k : Int) (k0 : 0 ≤ k) (k1 : k ≤ 100000000) (hn : rs.length ≤ 1048576) (ht : totR rs ≤ 1048576) : call lf n_laws_heldIntSS [.sl 0 ((mrkR k rs).map eR),.i k] = some (.i (k + totR rs),[]) := by
 rw [call_k lf n_laws_heldIntSS _ (F := F_laws_heldIntSS) rfl rfl]
 have ml := mrkR_len k rs
 have lA : ((mrkR k rs).map eR).length = rs.length := by simp [ml]
 have A : ∀ (i : Nat) (r : List Int),rs[i]? = some r → atI ((mrkR k rs).map eR) (i : Int) = some (.sl 0 (mk1 (k + totR (rs.take i)) r.length)) := fun i r hr => by
  have := at_eR (mrk_at k rs i r hr)
  rw [this,mk1_marks]
 generalize (mrkR k rs).map eR = es at *
 have L := loop_count (lf := lf) (L := F_laws_heldIntSS_L0) rs.length (fun i => ⟨[(0,.sl 0 es),(1,.i (k + totR (rs.take i))),(5,.i i)],[]⟩) (x := .exit 0) (R := ⟨[(0,.sl 0 es),(1,.i (k + totR rs)),(5,.i rs.length)],[]⟩) (fun i hi => by
  obtain ⟨r,hr⟩ : ∃ r,rs[i]? = some r := ⟨rs[i],List.getElem?_eq_getElem hi⟩
  have w1 : wr ((i : Int) + 1) = (i : Int) + 1 := wr_id (by omega) (by omega)
  have hi' : (i : Int) < rs.length := by omega
  have at1 := A i r hr
  have t1 := totR_take rs i
  have t2 := totR_mem rs i r hr
  have C := c_heldIntS r.length (k + totR (rs.take i)) (by omega) (by omega) (by omega)
  have n0 : ¬ k + (totR (rs.take i) : Int) + (r.length : Int) < 0 := by omega
  have e : (totR (rs.take (i + 1)) : Int) = totR (rs.take i) + r.length := by
   rw [List.take_add_one,hr,Option.toList_some,totR_app]
   simp [totR]
  rw [e,← Int.add_assoc]
  generalize (totR (rs.take i) : Int) = z at *
  have lk : lendL (mk1 (k + z) r.length) = mk1 (k + z) r.length := by rw [mk1_marks]; exact lend_i _
  simp [F_laws_heldIntSS_L0,hi,hi',lA,at1,lk,C,n0,w1]) (by
  rw [List.take_length]
  simp [F_laws_heldIntSS_L0,lA]) (by simp)
 have L' : ex lf F_laws_heldIntSS_W0 ⟨[(0,.sl 0 es),(1,.i k),(5,.i 0)],[]⟩ = some (.exit 0,⟨[(0,.sl 0 es),(1,.i (k + totR rs)),(5,.i rs.length)],[]⟩) := by
  have := L
  simp only [Int.natCast_zero,Int.add_zero,List.take_zero,totR] at this
  exact this
 simp [F_laws_heldIntSS,L']
end
section
structure CS where
 c : Nat → Int
 p : Nat → Int
 q : Nat → Int
 lA : Nat → Nat → Bool
 lB : Nat → Nat → Bool
 ch : List Nat → Nat → Nat
def rk (l : Nat → Nat → Bool) (S : List Nat) (i : Nat) : Nat := S.countP fun x => l x i
/-- what the rule costs -/
def vR (C : CS) : Nat → List Nat → Nat → Int
 | 0,_,_ => 0
 | f + 1,S,k => if k = 0 ∨ S.length < k then 0 else 6 ^ S.length * C.c (C.ch S k) + C.p (C.ch S k) * vR C f (S.erase (C.ch S k)) (k - 1) + C.q (C.ch S k) * vR C f (S.erase (C.ch S k)) k
def CS.V (C : CS) (S : List Nat) (k : Nat) : Int := vR C S.length S k
def CS.W (C : CS) (S : List Nat) (k i : Nat) : Int := 6 ^ S.length * C.c i + C.p i * C.V (S.erase i) (k - 1) + C.q i * C.V (S.erase i) k
end
section
/-- tests,the two orders by ratios,and the least test of both -/
def tltA (us : List T) (a b : Nat) : Bool := decide (cA us a * pA us b < cA us b * pA us a ∨ cA us b * pA us a = cA us a * pA us b ∧ a < b)
def tltB (us : List T) (a b : Nat) : Bool := decide (cA us a * (6 - pA us b) < cA us b * (6 - pA us a) ∨ cA us b * (6 - pA us a) = cA us a * (6 - pA us b) ∧ a < b)
def bothL (us : List T) (S : List Nat) (k : Nat) : List Nat := S.filter fun i => decide (rk (tltA us) S i < k) && decide (rk (tltB us) S i + k ≤ S.length)
def cs (us : List T) : CS := ⟨cA us,pA us,fun i => 6 - pA us i,tltA us,tltB us,fun S k => (bothL us S k).headD 0⟩
end
section
/-- what is not known,and how many yes -/
def unk (m : Nat) (ks : List Int) : List Nat := (List.range m).filter fun k => ks[k]? == some (-1)
end
section
def gS : List I3 → Int
 | [] => 1
 | x :: r => (x.2.2 - x.2.1) * gS r
/-- the parts in which a row ends -/
def gE (l : List I3) : Int := gM l - gS l
/-- cost less a ratio (x by y) times the parts that end -/
def gf (x y : Int) (l : List I3) : Int := y * gD l - x * gE l
theorem gf_nil (x y : Int) : gf x y [] = 0 := by simp [gf,gD,gE,gM,gS]
theorem gf_cons (x y : Int) (a : I3) (l : List I3) : gf x y (a :: l) = (y * a.1 - x * a.2.1) * gM l + (a.2.2 - a.2.1) * gf x y l := by
 unfold gf gE
 simp only [gD,gM,gS]
 grind
/-- what is carried along never falls below nothing -/
def Car (x y A s : Int) (l : List I3) : Prop := ∀ P Q,l = P ++ Q → 0 ≤ A * gM P + s * gf x y P
theorem Car.next {x y A s : Int} {a : I3} {l : List I3} (h : Car x y A s (a :: l)) : Car x y (A * a.2.2 + s * (y * a.1 - x * a.2.1)) (s * (a.2.2 - a.2.1)) l := fun P Q e => by
 have := h (a :: P) Q (by rw [e]; rfl)
 rw [gf_cons] at this
 simp only [gM] at this
 grind
theorem Car.head {x y A s : Int} {a : I3} {l : List I3} (h : Car x y A s (a :: l)) : 0 ≤ A * a.2.2 + s * (y * a.1 - x * a.2.1) := by
 have := h [a] l rfl
 rw [gf_cons,gf_nil] at this
 simp only [gM] at this
 grind
end
section
attribute [-simp] DV.cells
attribute [local simp] sliceD cells_st cells_sl cells_i cells_y cells_b cells_s cells_w
attribute [local simp] lend_eR al_eR
def ni (l : List Nat) : List Int := l.map fun k : Nat => (k : Int)
theorem ni_len (l : List Nat) : (ni l).length = l.length := by simp [ni]
theorem ni_toNat (l : List Nat) : (ni l).map Int.toNat = l := by
 unfold ni
 rw [List.map_map]
 conv => rhs; rw [← List.map_id l]
 apply List.map_congr_left
 intro k _
 simp
theorem ni_app (p q : List Nat) : ni (p ++ q) = ni p ++ ni q := by simp [ni]
theorem cA_bd {us : List T} (h : us.all tOk = true) {k : Nat} (hk : k < us.length) : 1 ≤ cA us k ∧ cA us k ≤ 9 := by
 have := tOk_iff.1 (List.all_eq_true.1 h us[k] (List.getElem_mem hk))
 unfold cA
 simp only [List.getD,List.getElem?_eq_getElem hk,Option.getD_some]
 exact this.1
end
section
/-- a test in the row of all -/
def itC (us : List T) (k : Nat) : I3 := (6 * cA us k,6 - pA us k,6)
def mnO (f : Nat → Option Int) : Nat → Int
 | 0 => -1
 | i + 1 => match f i with
  | none => mnO f i
  | some n => if mnO f i < 0 ∨ n < mnO f i then n else mnO f i
end
section
def c9 (us : List T) (l : List Nat) : Int := gD (l.map (itC us))
def e9 (us : List T) (l : List Nat) : Int := gE (l.map (itC us))
abbrev LN := List (List Nat)
/-- chains of tests that are there -/
def LOk (us : List T) (L : LN) : Prop := ∀ c ∈ L,∀ x ∈ c,x < us.length
end
section
def gLA (us : List T) (L : LN) (f : Nat) (v : LN → Int) (i : Nat) : Option Int := match L.getD i [] with
 | [] => none
 | k :: c => some (cA us k * 6 ^ (f + 1) + pA us k * v (L.set i c))
def m0 (g : Nat → Option Int) (i : Nat) : Int := if mnO g i < 0 then 0 else mnO g i
def lA (us : List T) : Nat → LN → Int
 | 0,_ => 0
 | f + 1,L => m0 (gLA us L f (lA us f)) L.length
theorem p6_pos (n : Nat) : (0 : Int) < 6 ^ n := Int.pow_pos (by decide)
end
section
attribute [-simp] DV.cells
attribute [local simp] sliceD cells_st cells_sl cells_i cells_y cells_b cells_s cells_w
attribute [local simp] lend_eR al_eR
theorem gok_of {m : Nat} (hm : 1 ≤ m ∧ m ≤ 5) {L : List (List Int)} (h : gokB m L = true) : ∃ N : List (List Nat),L = N.map ni ∧ Gok m N := by
 unfold gokB at h
 rw [Bool.and_eq_true] at h
 obtain ⟨h1,h2⟩ := h
 obtain ⟨o1,o2,o3⟩ := orOk_iff.1 h2
 obtain ⟨o4,o5⟩ := orS_nodup.1 o3
 have e : L = (L.map (List.map Int.toNat)).map ni := by
  rw [List.map_map]
  conv => lhs; rw [← List.map_id L]
  apply List.map_congr_left
  intro r hr
  show r = ni (r.map Int.toNat)
  unfold ni
  rw [List.map_map]
  conv => lhs; rw [← List.map_id r]
  apply List.map_congr_left
  intro a ha
  have := (o4 a (List.mem_flatten.2 ⟨r,hr,ha⟩)).1
  show a = ((a.toNat : Nat) : Int)
  omega
 have ef : (L.map (List.map Int.toNat)).flatten = L.flatten.map Int.toNat := by rw [List.map_flatten]
 have lt : ∀ g ∈ L.map (List.map Int.toNat),∀ k ∈ g,k < m := by
  intro g hg k hk
  obtain ⟨r,hr,rfl⟩ := List.mem_map.1 hg
  obtain ⟨a,ha,rfl⟩ := List.mem_map.1 hk
  have := (o4 a (List.mem_flatten.2 ⟨r,hr,ha⟩)).1
  omega
 have nd : (L.map (List.map Int.toNat)).flatten.Nodup := by
  rw [ef,List.nodup_iff_pairwise_ne,List.pairwise_map]
  refine List.Pairwise.imp_of_mem (fun {a b} ha hb hab h => hab ?_) (List.nodup_iff_pairwise_ne.1 o5)
  have := (o4 a ha).1
  have := (o4 b hb).1
  omega
 refine ⟨_,e,lt,nd,fun k hk => ?_,?_⟩
 ·rw [ef,List.mem_map]
  have p := (or_perm h2).mem_iff.2 (mem_rng.2 (show 0 ≤ (k : Int) ∧ (k : Int) < ((m : Int).toNat : Nat) by omega))
  exact ⟨(k : Int),p,by simp⟩
 ·intro g hg
  obtain ⟨r,hr,rfl⟩ := List.mem_map.1 hg
  have := List.all_eq_true.1 h1 r hr
  simpa using this
theorem gok_to {m : Nat} (hm : 1 ≤ m ∧ m ≤ 5) {N : List (List Nat)} (G : Gok m N) : gokB m (N.map ni) = true := by
 unfold gokB
 rw [Bool.and_eq_true]
 have ef : (N.map ni).flatten = ni N.flatten := by unfold ni; rw [List.map_flatten]
 refine ⟨?_,?_⟩
 ·rw [List.all_map,List.all_eq_true]
  intro g hg
  have := G.ne g hg
  cases g with
  | nil => exact absurd rfl this
  | cons a g => rfl
 ·rw [ef,orOk_iff,orS_nodup]
  refine ⟨by omega,by rw [ni_len,gok_len G],fun o ho => ?_,?_⟩
  ·obtain ⟨k,hk,rfl⟩ := List.mem_map.1 ho
   obtain ⟨g,h1,h2⟩ := List.mem_flatten.1 hk
   have := G.lt g h1 k h2
   exact ⟨by omega,by simp⟩
  ·unfold ni
   rw [List.nodup_iff_pairwise_ne,List.pairwise_map]
   exact List.Pairwise.imp (fun {a b} (hab : a ≠ b) h => hab (Int.ofNat_inj.1 h)) (List.nodup_iff_pairwise_ne.1 G.nd)
end
section
attribute [-simp] DV.cells
attribute [local simp] sliceD cells_st cells_sl cells_i cells_y cells_b cells_s cells_w
attribute [local simp] lend_eR al_eR
/-- how many of a chain are asked -/
def inP (p c : List Nat) : Nat := (p.map fun o => c.count o).sum
def left (C : LN) (p : List Nat) : LN := C.map fun c => c.drop (inP p c)
theorem flat_ge9 : ∀ {C : LN},(∀ c ∈ C,c ≠ []) → C.length ≤ C.flatten.length
 | [],_ => by simp
 | c :: C,h => by
  have := flat_ge9 (C := C) fun d hd => h d (List.mem_cons_of_mem _ hd)
  have c0 : 0 < c.length := List.length_pos_iff.2 (h c List.mem_cons_self)
  simp only [List.length_cons,List.flatten_cons,List.length_append]
  omega
end
section
attribute [-simp] DV.cells
attribute [local simp] sliceD cells_st cells_sl cells_i cells_y cells_b cells_s cells_w
attribute [local simp] lend_eR al_eR
def natL (L : List (List Int)) : LN := L.map fun r => r.map Int.toNat
theorem natL_ni (N : LN) : natL (N.map ni) = N := by
 unfold natL
 rw [List.map_map]
 conv => rhs; rw [← List.map_id N]
 apply List.map_congr_left
 intro r _
 exact ni_toNat r
end
section
attribute [-simp] DV.cells
attribute [local simp] sliceD cells_st cells_sl cells_i cells_y cells_b cells_s cells_w
theorem ni_flat (N : LN) : (N.map ni).flatten = ni N.flatten := by unfold ni; rw [List.map_flatten]
end
section
def rC (us : List T) : List Nat → Int
 | [] => 0
 | k :: r => cA us k + rC us r
def rP (us : List T) : List Nat → Int
 | [] => 1
 | k :: r => pA us k * rP us r
/-- what rounds cost,in parts of their own -/
def rD (us : List T) (fee : Int) : LN → Int
 | [] => 0
 | g :: r => (fee + rC us g) * 6 ^ (g.length + r.flatten.length) + rP us g * rD us fee r
theorem rC_app (us : List T) : ∀ p q : List Nat,rC us (p ++ q) = rC us p + rC us q
 | [],q => by simp [rC]
 | k :: p,q => by simp only [List.cons_append,rC]; rw [rC_app us p q]; omega
theorem rP_app (us : List T) : ∀ p q : List Nat,rP us (p ++ q) = rP us p * rP us q
 | [],q => by simp [rP]
 | k :: p,q => by simp only [List.cons_append,rP]; rw [rP_app us p q,Int.mul_assoc]
theorem rC_bd {us : List T} (h : us.all tOk = true) : ∀ {g : List Nat},(∀ k ∈ g,k < us.length) → (g.length : Int) ≤ rC us g ∧ rC us g ≤ 9 * g.length
 | [],_ => by simp [rC]
 | k :: r,hg => by
  have a := rC_bd h (g := r) fun x hx => hg x (List.mem_cons_of_mem _ hx)
  have b := cA_bd h (hg k List.mem_cons_self)
  simp only [rC,List.length_cons]
  omega
theorem rP_bd {us : List T} (h : us.all tOk = true) : ∀ {g : List Nat},(∀ k ∈ g,k < us.length) → 0 < rP us g ∧ rP us g ≤ 6 ^ g.length
 | [],_ => by simp [rP]
 | k :: r,hg => by
  have a := rP_bd h (g := r) fun x hx => hg x (List.mem_cons_of_mem _ hx)
  have b := pA_bd h (hg k List.mem_cons_self)
  simp only [rP,List.length_cons]
  refine ⟨Int.mul_pos (by omega) a.1,?_⟩
  rw [Int.pow_succ,Int.mul_comm (6 ^ r.length)]
  exact Int.mul_le_mul (by omega) a.2 (by omega) (by omega)
/-- joined rounds ask in vain -/
theorem rD_join {us : List T} (h : us.all tOk = true) : ∀ (A : LN) {x y : List Nat} {B : LN},LOk us (A ++ x :: y :: B) → rD us 0 (A ++ x :: y :: B) ≤ rD us 0 (A ++ (x ++ y) :: B)
 | [],x,y,B,hN => by
  have hx := hN x (by simp)
  have hy := hN y (by simp)
  have px := rP_bd h hx
  have cy := rC_bd h hy
  simp only [List.nil_append,rD]
  rw [rC_app,rP_app,List.length_append,List.flatten_cons,List.length_append]
  simp only [Int.zero_add]
  have e : (6 : Int) ^ (x.length + (y.length + B.flatten.length)) = 6 ^ x.length * 6 ^ (y.length + B.flatten.length) := Int.pow_add ..
  rw [Nat.add_assoc,e]
  have p := p6_pos (y.length + B.flatten.length)
  generalize (6 : Int) ^ (y.length + B.flatten.length) = P at *
  generalize (6 : Int) ^ x.length = Q at *
  generalize rD us 0 B = D at *
  generalize rP us x = a at *
  generalize rP us y = b at *
  generalize rC us x = c at *
  generalize rC us y = d at *
  have m : a * (d * P) ≤ Q * (d * P) := Int.mul_le_mul_of_nonneg_right px.2 (Int.mul_nonneg (by omega) (by omega))
  have e1 : a * (d * P + b * D) = a * (d * P) + a * b * D := by grind
  have e2 : (c + d) * (Q * P) = c * (Q * P) + Q * (d * P) := by grind
  rw [e1,e2]
  omega
 | g :: A,x,y,B,hN => by
  have ih := rD_join h A (x := x) (y := y) (B := B) fun c hc => hN c (List.mem_cons_of_mem _ hc)
  have c := rP_bd h (hN g List.mem_cons_self)
  have m := Int.mul_le_mul_of_nonneg_left ih (Int.le_of_lt c.1)
  simp only [List.cons_append,rD]
  have e : (A ++ x :: y :: B).flatten.length = (A ++ (x ++ y) :: B).flatten.length := by simp
  rw [e]
  omega
end
section
attribute [-simp] DV.cells
attribute [local simp] sliceD cells_st cells_sl cells_i cells_y cells_b cells_s cells_w
attribute [local simp] lend_eR al_eR
/-- weights stay small -/
theorem wt_le {X p : Int} {n d q : Nat} (h0 : 0 ≤ X) (hx : X * 6 ^ (d + n + q) ≤ 7776) (p0 : 0 < p) (p1 : p ≤ 6 ^ d) : 0 ≤ X * p * 6 ^ (n + q) ∧ X * p * 6 ^ (n + q) ≤ 7776 := by
 have a := p6_pos (n + q)
 refine ⟨Int.mul_nonneg (Int.mul_nonneg h0 (by omega)) (by omega),Int.le_trans ?_ hx⟩
 have e : (6 : Int) ^ (d + n + q) = 6 ^ d * 6 ^ (n + q) := by rw [Nat.add_assoc,Int.pow_add]
 rw [e,← Int.mul_assoc]
 exact Int.mul_le_mul_of_nonneg_right (Int.mul_le_mul_of_nonneg_left p1 h0) (by omega)
set_option maxHeartbeats 4000000 in
def rdO (us : List T) (L : List (List Int)) (fee : Int) : Bool := tsOk us && gokB us.length L && decide (0 ≤ fee ∧ fee ≤ 20)
def rdV (us : List T) (L : List (List Int)) (fee : Int) : Int := if rdO us L fee then rD us fee (L.map fun r => r.map Int.toNat) else -1
end
section
/-- one more of the first ones -/
def stpF (so n a k : Nat) : Nat := if pc a < n ∧ so.testBit k = true then a ||| 2 ^ k else a
def fF (so n : Nat) (l : List Nat) : Nat := l.foldl (stpF so n) 0
/-- what is left,in ascending order -/
def Sl (m so : Nat) : List Nat := (List.range m).filter fun k => so.testBit k
/-- the next one -/
def nx (us : List T) (so k : Nat) : Nat := (cs us).ch (Sl us.length so) k
end
section
attribute [-simp] DV.cells sliceD
attribute [local simp] cells_st cells_sl cells_i cells_y cells_b cells_s cells_w
/-- how many bits are ones,one by one -/
def hb : Nat → Nat → Nat
 | 0,_ => 0
 | f + 1,n => n % 2 + hb f (n / 2)
def ctOk (us : List T) (k : Int) : Bool := tsOk us && decide (1 ≤ k ∧ k ≤ us.length)
end
section
attribute [-simp] DV.cells
attribute [local simp] sliceD cells_st cells_sl cells_i cells_y cells_b cells_s cells_w
attribute [local simp] lend_eR al_eR lend_eN adopt_eN new_eN
theorem cells_cel (k n : Nat) : (DV.cel k n).cells = [.cel k n] := rfl
theorem noc_i (xs : List Int) : noCelL (xs.map DV.i) = true := by rw [noCelL_all,List.all_map,List.all_eq_true]; intro x _; rfl
theorem noc_y (xs : List Nat) : noCelL (xs.map DV.y) = true := by rw [noCelL_all,List.all_map,List.all_eq_true]; intro x _; rfl
theorem noc_eN (L : List (List Int)) : noCelL (L.map eN) = true := by
 rw [noCelL_all,List.all_map,List.all_eq_true]
 intro x _
 show noCelL (x.map DV.i) = true
 exact noc_i x
end
section
attribute [-simp] DV.cells
attribute [local simp] sliceD cells_st cells_sl cells_i cells_y cells_b cells_s cells_w
attribute [local simp] lend_eR al_eR lend_eN adopt_eN new_eN
attribute [local simp] cells_cel noc_i noc_y noc_eN noCelE noCelO noCelL DV.noCel
def jnF (a : Nat) : Nat → LN → List Nat → LN → LN
 | _,init,last,[] => init ++ [last]
 | k,init,last,g :: r => if k = a + 1 then jnF a (k + 1) init (last ++ g) r else jnF a (k + 1) (init ++ [last]) g r
def jdR (L : LN) (a : Nat) : LN := match L with
 | [] => []
 | g :: r => jnF a 1 [] g r
theorem jnF_past {a : Nat} : ∀ (r : LN) (k : Nat) (init : LN) (last : List Nat),a + 1 < k → jnF a k init last r = init ++ last :: r
 | [],k,init,last,_ => rfl
 | g :: r,k,init,last,h => by
  simp only [jnF]
  rw [if_neg (by omega),jnF_past r (k + 1) _ g (by omega)]
  simp
theorem jnF_spec {a : Nat} : ∀ (r : LN) (k : Nat) (init : LN) (last : List Nat),k ≤ a + 1 → k = init.length + 1 → a + 1 < k + r.length → ∃ A x y B,init ++ last :: r = A ++ x :: y :: B ∧ A.length = a ∧ jnF a k init last r = A ++ (x ++ y) :: B
 | [],k,init,last,h1,h2,h3 => by simp at h3; omega
 | g :: r,k,init,last,h1,h2,h3 => by
  simp only [jnF]
  by_cases e : k = a + 1
  ·rw [if_pos e,jnF_past r (k + 1) init (last ++ g) (by omega)]
   exact ⟨init,last,g,r,rfl,by omega,rfl⟩
  ·rw [if_neg e]
   obtain ⟨A,x,y,B,e1,e2,e3⟩ := jnF_spec (a := a) r (k + 1) (init ++ [last]) g (by omega) (by rw [List.length_append,List.length_singleton]; omega) (by rw [List.length_cons] at h3; omega)
   exact ⟨A,x,y,B,by rw [← e1]; simp,e2,e3⟩
theorem jdR_spec {L : LN} {a : Nat} (h : a + 1 < L.length) : ∃ A x y B,L = A ++ x :: y :: B ∧ A.length = a ∧ jdR L a = A ++ (x ++ y) :: B := by
 cases L with
 | nil => simp at h
 | cons g r =>
  obtain ⟨A,x,y,B,e1,e2,e3⟩ := jnF_spec (a := a) r 1 [] g (by omega) rfl (by simp at h; omega)
  exact ⟨A,x,y,B,by rw [← e1]; rfl,e2,e3⟩
theorem noc_eR (L : List (List Int)) : noCelL (L.map eR) = true := by
 rw [noCelL_all,List.all_map,List.all_eq_true]
 intro x _
 show noCelL (x.map DV.i) = true
 exact noc_i x
attribute [local simp] noc_eR
def stJn (L : LN) (a : Nat) (init : LN) (last : List Nat) (k : Nat) : LS :=
 ⟨[(1,.sl 0 ((L.map ni).map eR)),(2,.i a),(8,.own 12808 (init.length + 1) 0 (init.length + 1)),(9,.i k)],[(12808,(init.map ni).map eN ++ [.cel 16397 last.length]),(16397,(ni last).map .i)]⟩
set_option maxHeartbeats 8000000 in
theorem jn_step {L : LN} {a k : Nat} {g : List Nat} (hk : L[k]? = some g) (k1 : 1 ≤ k) (ha : a ≤ 5) (init : LN) (last : List Nat) (ln : L.length ≤ 5) (li : init.length ≤ 5) (ll : last.length ≤ 5) (gl : g.length ≤ 5) :
  ex lf F_spec_JoinedRounds_L0 (stJn L a init last k) = some (.normal,if k = a + 1 then stJn L a init (last ++ g) (k + 1) else stJn L a (init ++ [last]) g (k + 1)) := by
 have A : atI ((L.map ni).map eR) (k : Int) = some (.sl 0 ((ni g).map .i)) := at_eR (by rw [List.getElem?_map,hk]; rfl)
 have kl : k < L.length := (List.getElem?_eq_some_iff.1 hk).1
 have kl' : (k : Int) < L.length := by omega
 have lL : (L.map ni).length = L.length := by simp
 have w1 := wr_succ (k := k) (by omega)
 have w2 : wr ((a : Int) + 1) = ((a + 1 : Nat) : Int) := by rw [wr_id (by omega) (by omega)]; omega
 have ng := ni_len g
 have nl := ni_len last
 have cb : g.length ≤ bound := by unfold bound; omega
 have r3 : ∀ (I : LN) (x : DV),atN ((I.map ni).map eN ++ [x]) I.length = some x := fun I x => by
  show ((I.map ni).map eN ++ [x])[I.length]? = _
  rw [List.getElem?_append_right (by simp)]
  simp
 have s3 : ∀ (I : LN) (x y : DV),((I.map ni).map eN ++ [x]).set I.length y = (I.map ni).map eN ++ [y] := fun I x y => by
  rw [List.set_append_right _ _ (by simp)]
  simp
 have tkg : List.take g.length ((ni g).map DV.i) = (ni g).map .i := List.take_of_length_le (by simp [ng])
 by_cases e : k = a + 1
 ·rw [if_pos e]
  have e' : ((k : Int) == ((a + 1 : Nat) : Int)) = true := by rw [e]; simp
  have w3 : wr (((init.length + 1 : Nat) : Int) - 1) = (init.length : Nat) := by rw [wr_id (by omega) (by omega)]; omega
  have ap := ni_app last g
  have la : (last ++ g).length = last.length + g.length := by simp
  have cb2 : last.length + g.length ≤ bound := by unfold bound; omega
  have ri := r3 init
  have si := s3 init
  have lM : ((init.map ni).map eN).length = init.length := by simp
  unfold stJn
  rw [ap,la]
  generalize hA1 : a + 1 = a1 at *
  generalize (init.map ni).map eN = M at *
  generalize L.map ni = L' at *
  simp [F_spec_JoinedRounds_L0,A,kl,kl',lL,w1,w2,w3,ng,nl,cb,cb2,tkg,e',ri,si,lM,-Int.natCast_add,-List.map_map]
 ·rw [if_neg e]
  have e' : ((k : Int) == ((a + 1 : Nat) : Int)) = false := beq_false_of_ne (by omega)
  have sh : (init.map ni).map eN ++ [DV.sl 1 ((ni last).map .i)] = ((init ++ [last]).map ni).map eN := by simp [eN]
  have ln2 : (init ++ [last]).length = init.length + 1 := by simp
  have lM : (((init ++ [last]).map ni).map eN).length = init.length + 1 := by simp
  have nM := noc_eN ((init ++ [last]).map ni)
  have nM0 := noc_eN (init.map ni)
  have cb2 : init.length + 1 + 1 ≤ bound := by unfold bound; omega
  unfold stJn
  rw [ln2]
  generalize hA1 : a + 1 = a1 at *
  generalize hM : ((init ++ [last]).map ni).map eN = M at *
  generalize L.map ni = L' at *
  simp [F_spec_JoinedRounds_L0,A,kl,kl',lL,w1,w2,ng,nl,cb,cb2,tkg,e',sh,lM,nM,nM0,-Int.natCast_add,-List.map_map]
set_option maxHeartbeats 8000000 in
theorem jn_first {L : LN} {a : Nat} {g : List Nat} (hk : L[0]? = some g) (ha : a ≤ 5) (gl : g.length ≤ 5) :
  ex lf F_spec_JoinedRounds_L0 ⟨[(1,.sl 0 ((L.map ni).map eR)),(2,.i a),(8,.own 12808 0 0 0),(9,.i 0)],[(12808,[])]⟩ = some (.normal,stJn L a [] g 1) := by
 have A : atI ((L.map ni).map eR) 0 = some (.sl 0 ((ni g).map .i)) := by
  show ((L.map ni).map eR)[0]? = _
  rw [List.getElem?_map,List.getElem?_map,hk]; rfl
 have kl : 0 < L.length := (List.getElem?_eq_some_iff.1 hk).1
 have kl' : (0 : Int) < L.length := by omega
 have lL : (L.map ni).length = L.length := by simp
 have w1 : wr (0 + 1 : Int) = 1 := wr_id (by omega) (by omega)
 have w1' : wr (1 : Int) = 1 := wr_id (by omega) (by omega)
 have w2 : wr ((a : Int) + 1) = ((a + 1 : Nat) : Int) := by rw [wr_id (by omega) (by omega)]; omega
 have ng := ni_len g
 have cb : g.length ≤ bound := by unfold bound; omega
 have cb1 : 1 ≤ bound := by unfold bound; omega
 have tkg : List.take g.length ((ni g).map DV.i) = (ni g).map .i := List.take_of_length_le (by simp [ng])
 have e' : ((0 : Int) == ((a + 1 : Nat) : Int)) = false := beq_false_of_ne (by omega)
 unfold stJn
 generalize hA1 : a + 1 = a1 at *
 generalize L.map ni = L' at *
 simp [F_spec_JoinedRounds_L0,A,kl,kl',lL,w1,w1',w2,ng,cb,cb1,tkg,e',-Int.natCast_add,-List.map_map]
theorem jn_loop {L : LN} {a : Nat} (ha : a ≤ 5) (ln : L.length ≤ 5) (fl : L.flatten.length ≤ 5) : ∀ (r : LN) (k : Nat) (init : LN) (last : List Nat),L.drop k = r → k + r.length = L.length → 1 ≤ k → init.length ≤ k → last.length + r.flatten.length ≤ 5 →
  ∃ init' last',init' ++ [last'] = jnF a k init last r ∧ ex lf F_spec_JoinedRounds_W0 (stJn L a init last k) = some (.exit 0,stJn L a init' last' L.length) := by
 have lL : (L.map ni).length = L.length := by simp
 intro r
 induction r with
 | nil =>
  intro k init last hd hk k1 li hl
  have e : k = L.length := by simpa using hk
  subst e
  refine ⟨init,last,rfl,?_⟩
  rw [w_spec_JoinedRounds_0]
  unfold stJn
  generalize (init.map ni).map eN = M at *
  generalize L.map ni = L' at *
  simp [F_spec_JoinedRounds_L0,lL]
 | cons g r ih =>
  intro k init last hd hk k1 li hl
  obtain ⟨q1,q2,q3⟩ := drop_cons hd
  simp only [List.length_cons] at hk
  rw [List.flatten_cons,List.length_append] at hl
  have S := jn_step q2 k1 ha init last ln (by omega) (by omega) (by omega)
  simp only [jnF]
  rw [w_spec_JoinedRounds_0,S]
  by_cases e : k = a + 1
  ·rw [if_pos e,if_pos e]
   exact ih (k + 1) init (last ++ g) q3 (by omega) (by omega) (by omega) (by rw [List.length_append]; omega)
  ·rw [if_neg e,if_neg e]
   exact ih (k + 1) (init ++ [last]) g q3 (by omega) (by omega) (by rw [List.length_append,List.length_singleton]; omega) (by omega)
def jdO (m : Int) (L : List (List Int)) (at_ : Int) : Bool := gokB m L && decide (0 ≤ at_ ∧ at_ ≤ (L.length : Int) - 2)
def jdL (m : Int) (L : List (List Int)) (at_ : Int) : LN := if jdO m L at_ then jdR (L.map fun r => r.map Int.toNat) at_.toNat else []
set_option maxHeartbeats 4000000 in
theorem c_spec_JoinedRounds (m : Int) (L : List (List Int)) (at_ : Int) (hb : (L.length : Int) < 1099511627776) (hf : (L.flatten.length : Int) < 1099511627776) :
  call lf n_spec_JoinedRounds [.i m,.sl 0 (L.map eR),.i at_] = some (.tup [.fr 1 (((jdL m L at_).map ni).map eN),.b (jdO m L at_)],[]) := by
 rw [call_k lf n_spec_JoinedRounds _ (F := F_spec_JoinedRounds) rfl rfl]
 have C2 := c_spec_GroupsOk m L hb hf
 have w1 : wr ((L.length : Int) - 2) = L.length - 2 := wr_id (by omega) (by omega)
 have C3 := c_spec_l1In at_ 0 (L.length - 2)
 have z : ((([] : LN).map ni).map eN) = [] := rfl
 unfold jdL jdO
 cases h2 : gokB m L with
 | false => rw [h2] at C2; simp [F_spec_JoinedRounds,C2]
 | true =>
  rw [h2] at C2
  cases h3 : decide (0 ≤ at_ ∧ at_ ≤ (L.length : Int) - 2) with
  | false => rw [h3] at C3; simp [F_spec_JoinedRounds,C2,C3,w1]
  | true =>
   rw [h3] at C3
   have h4 := of_decide_eq_true h3
   have hm : 1 ≤ m ∧ m ≤ 5 := by
    have h2' := h2
    unfold gokB at h2'
    rw [Bool.and_eq_true] at h2'
    exact (orOk_iff.1 h2'.2).1
   obtain ⟨n,rfl⟩ := Int.eq_ofNat_of_zero_le (show 0 ≤ m by omega)
   obtain ⟨a,rfl⟩ := Int.eq_ofNat_of_zero_le h4.1
   obtain ⟨N,rfl,G⟩ := gok_of (m := n) (by omega) h2
   have gl := gok_len G
   have cn : N.length ≤ 5 := by have := flat_ge9 G.ne; omega
   have lN : (N.map ni).length = N.length := by simp
   rw [lN] at h4
   obtain ⟨g,r,hN⟩ : ∃ g r,N = g :: r := by
    cases N with
    | nil => simp at h4; omega
    | cons g r => exact ⟨g,r,rfl⟩
   have fl : g.length + r.flatten.length ≤ 5 := by
    rw [hN,List.flatten_cons,List.length_append] at gl
    omega
   have S := jn_first (L := N) (a := a) (g := g) (by rw [hN]; rfl) (by omega) (by omega)
   obtain ⟨I,l,e1,J⟩ := jn_loop (L := N) (a := a) (by omega) cn (by omega) r 1 [] g (by rw [hN]; rfl) (by rw [hN]; simp; omega) (by omega) (by simp) fl
   have nt : ((N.map ni).map fun r => r.map Int.toNat) = N := natL_ni N
   have ej : jdR N a = I ++ [l] := by rw [hN]; exact e1.symm
   have W : ex lf F_spec_JoinedRounds_W0 ⟨[(1,.sl 0 ((N.map ni).map eR)),(2,.i a),(8,.own 12808 0 0 0),(9,.i 0)],[(12808,[])]⟩ = some (.exit 0,stJn N a I l N.length) := by
    rw [w_spec_JoinedRounds_0,S]
    exact J
   rw [nt,Int.toNat_natCast,ej,Bool.true_and,if_pos rfl]
   have sh : (I.map ni).map eN ++ [DV.sl 1 ((ni l).map .i)] = ((I ++ [l]).map ni).map eN := by simp [eN]
   have lM : (((I ++ [l]).map ni).map eN).length = I.length + 1 := by simp
   have nM0 := noc_eN (I.map ni)
   have lI : ((I.map ni).map eN).length = I.length := by simp
   have tk : List.take (I.length + 1) (((I ++ [l]).map ni).map eN) = ((I ++ [l]).map ni).map eN := List.take_of_length_le (by simp)
   have nl := ni_len l
   unfold stJn at W
   rw [lN] at w1 C3
   generalize ((I ++ [l]).map ni).map eN = M at *
   generalize (I.map ni).map eN = M0 at *
   generalize N.map ni = L' at *
   simp [F_spec_JoinedRounds,C2,C3,w1,W,sh,lM,lI,nM0,lN,tk,nl,-List.map_map]
end
section
attribute [-simp] DV.cells
attribute [local simp] sliceD cells_st cells_sl cells_i cells_y cells_b cells_s cells_w
theorem rdV_ok {us : List T} (h : tsOk us = true) {N : LN} (G : Gok us.length N) {fee : Int} (hf : 0 ≤ fee ∧ fee ≤ 20) : rdO us (N.map ni) fee = true ∧ rdV us (N.map ni) fee = rD us fee N := by
 have h' := tsOk_iff.1 h
 have o : rdO us (N.map ni) fee = true := by
  unfold rdO
  rw [h,gok_to (by omega) G]
  simpa using hf
 refine ⟨o,?_⟩
 have nt : ((N.map ni).map fun r => r.map Int.toNat) = N := natL_ni N
 unfold rdV
 rw [o,if_pos rfl,nt]
theorem rdV_bad {us : List T} {L : List (List Int)} {fee : Int} (h : rdO us L fee = false) : rdV us L fee = -1 := by unfold rdV; rw [h]; rfl
theorem jd_law {m : Nat} {L : List (List Int)} {a : Int} (hm : 1 ≤ m ∧ m ≤ 5) (h : jdO m L a = true) : gokB m ((jdL m L a).map ni) = true ∧ ((jdL m L a).length : Int) = L.length - 1 ∧ ∀ us : List T,us.length = m → (rdV us L 0 < 0 ∨ rdV us L 0 ≤ rdV us ((jdL m L a).map ni) 0) := by
 have h0 := h
 unfold jdO at h
 rw [Bool.and_eq_true,decide_eq_true_eq] at h
 obtain ⟨N,rfl,G⟩ := gok_of hm h.1
 obtain ⟨k,rfl⟩ := Int.eq_ofNat_of_zero_le h.2.1
 have h4 := h.2.2
 rw [List.length_map] at h4
 obtain ⟨A,x,y,B,e1,e2,e3⟩ := jdR_spec (L := N) (a := k) (by omega)
 have nt : ((N.map ni).map fun r => r.map Int.toNat) = N := natL_ni N
 have ej : jdL m (N.map ni) k = A ++ (x ++ y) :: B := by unfold jdL; rw [h0,if_pos rfl,nt,Int.toNat_natCast,e3]
 have ef : (A ++ (x ++ y) :: B).flatten = N.flatten := by rw [e1]; simp
 have G2 : Gok m (A ++ (x ++ y) :: B) := by
  refine ⟨fun g hg k hk => ?_,by rw [ef]; exact G.nd,fun k hk => by rw [ef]; exact G.all k hk,fun g hg => ?_⟩
  ·have : k ∈ N.flatten := by rw [← ef]; exact List.mem_flatten.2 ⟨g,hg,hk⟩
   obtain ⟨c,c1,c2⟩ := List.mem_flatten.1 this
   exact G.lt c c1 k c2
  ·rcases List.mem_append.1 hg with q | q
   ·exact G.ne g (by rw [e1]; exact List.mem_append_left _ q)
   ·rcases List.mem_cons.1 q with q | q
    ·rw [q]
     have := G.ne x (by rw [e1]; simp)
     simp [this]
    ·exact G.ne g (by rw [e1]; simp [q])
 rw [ej]
 refine ⟨gok_to hm G2,by rw [List.length_map,e1]; simp; omega,fun us hu => ?_⟩
 subst hu
 cases ht : tsOk us with
 | false => exact .inl (by rw [rdV_bad (by unfold rdO; rw [ht]; rfl)]; omega)
 | true =>
  rw [(rdV_ok ht G (fee := 0) ⟨by omega,by omega⟩).2,(rdV_ok ht G2 (fee := 0) ⟨by omega,by omega⟩).2,e1]
  exact .inr (rD_join (tsOk_iff.1 ht).2 A (by rw [← e1]; exact G.lt))
end
section
theorem dst_gok {L : LN} (nd : L.flatten.Nodup) : Dst (L.map ni) := by
 intro i j r s hij hi hj hr hs he
 rw [List.getElem?_map,Option.map_eq_some_iff] at hi hj
 obtain ⟨g,hg,rfl⟩ := hi
 obtain ⟨f,hf,rfl⟩ := hj
 cases g with
 | nil => exact hr rfl
 | cons x g =>
  cases f with
  | nil => exact hs rfl
  | cons y f =>
   have e : x = y := by
    simp only [ni,List.map_cons,List.head?_cons,Option.some.injEq] at he
    omega
   subst e
   obtain ⟨il,hi'⟩ := List.getElem?_eq_some_iff.1 hg
   obtain ⟨jl,hj'⟩ := List.getElem?_eq_some_iff.1 hf
   have key : ∀ {i j : Nat} (il : i < L.length) (jl : j < L.length),i < j → (∃ g,L[i] = x :: g) → (∃ f,L[j] = x :: f) → False := by
    rintro i j il jl hlt ⟨g,hg⟩ ⟨f,hf⟩
    have h1 := (List.pairwise_flatten.1 nd).2
    have h2 := List.pairwise_iff_getElem.1 h1 i j il jl hlt
    rw [hg,hf] at h2
    exact h2 x (List.mem_cons_self ..) x (List.mem_cons_self ..) rfl
   rcases Nat.lt_or_gt_of_ne hij with h | h
   ·exact key il jl h ⟨g,hi'⟩ ⟨f,hj'⟩
   ·exact key jl il h ⟨f,hj'⟩ ⟨g,hi'⟩
theorem jdL_dst (m : Int) (L : List (List Int)) (a : Int) : ((jdL m L a).map ni).length ≤ 100 ∧ totR ((jdL m L a).map ni) ≤ 100 ∧ Dst ((jdL m L a).map ni) := by
 cases h : jdO m L a with
 | false =>
  have e : jdL m L a = [] := by unfold jdL; rw [h]; rfl
  rw [e]
  refine ⟨by simp,by simp [totR],?_⟩
  intro i j r s _ hi
  simp at hi
 | true =>
  have hm : 1 ≤ m ∧ m ≤ 5 := by
   unfold jdO at h
   simp only [Bool.and_eq_true] at h
   have := h.1
   unfold gokB at this
   simp only [Bool.and_eq_true] at this
   obtain ⟨g1,_,_⟩ := orOk_iff.1 this.2
   omega
  obtain ⟨n,rfl⟩ := Int.eq_ofNat_of_zero_le (a := m) (by omega)
  have hm' : 1 ≤ n ∧ n ≤ 5 := by omega
  have g := (jd_law hm' h).1
  obtain ⟨N,e,G⟩ := gok_of hm' g
  have e2 : N = jdL n L a := by
   have := congrArg natL e
   rw [natL_ni,natL_ni] at this
   exact this.symm
  rw [← e2]
  have h1 := flat_ge9 G.ne
  have h2 := gok_len G
  exact ⟨by rw [List.length_map]; omega,by rw [totR_flat,ni_flat,ni_len]; omega,dst_gok G.nd⟩
end
section
attribute [-simp] DV.cells
attribute [local simp] sliceD cells_st cells_sl cells_i cells_y cells_b cells_s cells_w
attribute [local simp] lend_eR al_eR lend_eN adopt_eN new_eN
attribute [local simp] cells_cel noc_i noc_y noc_eN noCelE noCelO noCelL DV.noCel noc_eR
def stJm (L : LN) (a : Nat) (init : LN) (last : List Nat) (k : Nat) : LS :=
 ⟨[(2,.i a),(8,.own 4104 (init.length + 1) 0 (init.length + 1)),(23,.sl 0 ((L.map ni).map eR)),(24,.i L.length),(25,.i k)],[(4104,(init.map ni).map eN ++ [.cel 23565 last.length]),(23565,(ni last).map .i)]⟩
set_option maxHeartbeats 8000000 in
theorem jm_step {L : LN} {a k : Nat} {g : List Nat} (hk : L[k]? = some g) (k1 : 1 ≤ k) (ha : a ≤ 5) (init : LN) (last : List Nat) (ln : L.length ≤ 5) (li : init.length ≤ 5) (ll : last.length ≤ 5) (gl : g.length ≤ 5) (g0 : g ≠ []) (hka : k ≤ a + 1 → k = init.length + 1) :
  ex lf F_impl_JoinedRounds_L0 (stJm L a init last k) = some (.normal,if k = a + 1 then stJm L a init (last ++ g) (k + 1) else stJm L a (init ++ [last]) g (k + 1)) := by
 have A : atI ((L.map ni).map eR) (k : Int) = some (.sl 0 ((ni g).map .i)) := at_eR (by rw [List.getElem?_map,hk]; rfl)
 have kl : k < L.length := (List.getElem?_eq_some_iff.1 hk).1
 have kl' : (k : Int) < L.length := by omega
 have lL : (L.map ni).length = L.length := by simp
 have w1 := wr_succ (k := k) (by omega)
 have w2 : wr ((a : Int) + 1) = ((a + 1 : Nat) : Int) := by rw [wr_id (by omega) (by omega)]; omega
 have ng := ni_len g
 have nl := ni_len last
 have cb : g.length ≤ bound := by unfold bound; omega
 have r3 : ∀ (I : LN) (x : DV),atN ((I.map ni).map eN ++ [x]) I.length = some x := fun I x => by
  show ((I.map ni).map eN ++ [x])[I.length]? = _
  rw [List.getElem?_append_right (by simp)]
  simp
 have s3 : ∀ (I : LN) (x y : DV),((I.map ni).map eN ++ [x]).set I.length y = (I.map ni).map eN ++ [y] := fun I x y => by
  rw [List.set_append_right _ _ (by simp)]
  simp
 have tkg : List.take g.length ((ni g).map DV.i) = (ni g).map .i := List.take_of_length_le (by simp [ng])
 have Cl := c_clone (os := ni g) (by unfold ni; simpa using g0) (by omega)
 by_cases e : k = a + 1
 ·rw [if_pos e]
  have e' : ((k : Int) == ((a + 1 : Nat) : Int)) = true := by rw [e]; simp
  have ai : a = init.length := by have := hka (by omega); omega
  have ap := ni_app last g
  have la : (last ++ g).length = last.length + g.length := by simp
  have cb2 : last.length + g.length ≤ bound := by unfold bound; omega
  have ri := r3 init
  have si := s3 init
  have lM : ((init.map ni).map eN).length = init.length := by simp
  unfold stJm
  rw [ap,la]
  generalize hA1 : a + 1 = a1 at *
  rw [ai] at w2 ⊢
  generalize (init.map ni).map eN = M at *
  generalize L.map ni = L' at *
  simp [F_impl_JoinedRounds_L0,A,kl,kl',lL,w1,w2,ng,nl,cb,cb2,tkg,e',ri,si,lM,-Int.natCast_add,-List.map_map]
 ·rw [if_neg e]
  have e' : ((k : Int) == ((a + 1 : Nat) : Int)) = false := beq_false_of_ne (by omega)
  have sh : (init.map ni).map eN ++ [DV.sl 1 ((ni last).map .i)] = ((init ++ [last]).map ni).map eN := by simp [eN]
  have ln2 : (init ++ [last]).length = init.length + 1 := by simp
  have lM : (((init ++ [last]).map ni).map eN).length = init.length + 1 := by simp
  have nM := noc_eN ((init ++ [last]).map ni)
  have nM0 := noc_eN (init.map ni)
  have cb2 : init.length + 1 + 1 ≤ bound := by unfold bound; omega
  unfold stJm
  rw [ln2]
  generalize hA1 : a + 1 = a1 at *
  generalize hM : ((init ++ [last]).map ni).map eN = M at *
  generalize L.map ni = L' at *
  simp [F_impl_JoinedRounds_L0,A,kl,kl',lL,w1,w2,ng,nl,cb,cb2,tkg,e',sh,lM,nM,nM0,Cl,-Int.natCast_add,-List.map_map]
set_option maxHeartbeats 8000000 in
theorem jm_first {L : LN} {a : Nat} {g : List Nat} (hk : L[0]? = some g) (ha : a ≤ 5) (gl : g.length ≤ 5) (g0 : g ≠ []) :
  ex lf F_impl_JoinedRounds_L0 ⟨[(2,.i a),(8,.own 4104 0 0 0),(23,.sl 0 ((L.map ni).map eR)),(24,.i L.length),(25,.i 0)],[(4104,[])]⟩ = some (.normal,stJm L a [] g 1) := by
 have A : atI ((L.map ni).map eR) 0 = some (.sl 0 ((ni g).map .i)) := by
  show ((L.map ni).map eR)[0]? = _
  rw [List.getElem?_map,List.getElem?_map,hk]; rfl
 have kl : 0 < L.length := (List.getElem?_eq_some_iff.1 hk).1
 have kl' : (0 : Int) < L.length := by omega
 have lL : (L.map ni).length = L.length := by simp
 have w1 : wr (0 + 1 : Int) = 1 := wr_id (by omega) (by omega)
 have w1' : wr (1 : Int) = 1 := wr_id (by omega) (by omega)
 have w2 : wr ((a : Int) + 1) = ((a + 1 : Nat) : Int) := by rw [wr_id (by omega) (by omega)]; omega
 have ng := ni_len g
 have cb : g.length ≤ bound := by unfold bound; omega
 have cb1 : 1 ≤ bound := by unfold bound; omega
 have tkg : List.take g.length ((ni g).map DV.i) = (ni g).map .i := List.take_of_length_le (by simp [ng])
 have Cl := c_clone (os := ni g) (by unfold ni; simpa using g0) (by omega)
 have e' : ((0 : Int) == ((a + 1 : Nat) : Int)) = false := beq_false_of_ne (by omega)
 unfold stJm
 generalize hA1 : a + 1 = a1 at *
 generalize L.map ni = L' at *
 simp [F_impl_JoinedRounds_L0,A,kl,kl',lL,w1,w1',w2,ng,cb,cb1,tkg,e',Cl,-Int.natCast_add,-List.map_map]
theorem jm_loop {L : LN} {a : Nat} (ha : a ≤ 5) (ln : L.length ≤ 5) (ne : ∀ g ∈ L,g ≠ []) : ∀ (r : LN) (k : Nat) (init : LN) (last : List Nat),L.drop k = r → k + r.length = L.length → 1 ≤ k → init.length ≤ k → last.length + r.flatten.length ≤ 5 → (k ≤ a + 1 → k = init.length + 1) →
  ∃ init' last',init' ++ [last'] = jnF a k init last r ∧ ex lf F_impl_JoinedRounds_W0 (stJm L a init last k) = some (.exit 0,stJm L a init' last' L.length) := by
 have lL : (L.map ni).length = L.length := by simp
 intro r
 induction r with
 | nil =>
  intro k init last hd hk k1 li hl _
  have e : k = L.length := by simpa using hk
  subst e
  refine ⟨init,last,rfl,?_⟩
  rw [w_impl_JoinedRounds_0]
  unfold stJm
  generalize (init.map ni).map eN = M at *
  generalize L.map ni = L' at *
  simp [F_impl_JoinedRounds_L0,lL]
 | cons g r ih =>
  intro k init last hd hk k1 li hl hka
  obtain ⟨q1,q2,q3⟩ := drop_cons hd
  simp only [List.length_cons] at hk
  rw [List.flatten_cons,List.length_append] at hl
  have S := jm_step q2 k1 ha init last ln (by omega) (by omega) (by omega) (ne g (List.mem_of_getElem? q2)) hka
  simp only [jnF]
  rw [w_impl_JoinedRounds_0,S]
  by_cases e : k = a + 1
  ·rw [if_pos e,if_pos e]
   exact ih (k + 1) init (last ++ g) q3 (by omega) (by omega) (by omega) (by rw [List.length_append]; omega) (by omega)
  ·rw [if_neg e,if_neg e]
   exact ih (k + 1) (init ++ [last]) g q3 (by omega) (by omega) (by rw [List.length_append,List.length_singleton]; omega) (by omega) (fun h => by rw [List.length_append,List.length_singleton]; have := hka (by omega); omega)
set_option maxHeartbeats 4000000 in
theorem c_impl_JoinedRounds (m : Int) (L : List (List Int)) (at_ : Int) (hb : (L.length : Int) < 1099511627776) (hf : (L.flatten.length : Int) < 1099511627776) :
  call lf n_impl_JoinedRounds [.i m,.sl 0 (L.map eR),.i at_] = some (.tup [.fr 1 (((jdL m L at_).map ni).map eN),.b (jdO m L at_)],[]) := by
 rw [call_k lf n_impl_JoinedRounds _ (F := F_impl_JoinedRounds) rfl rfl]
 have C2 := c_impl_GroupsOk m L hb
 have w1 : wr ((L.length : Int) - 2) = L.length - 2 := wr_id (by omega) (by omega)
 have C3 := c_impl_isWithin at_ 0 (L.length - 2)
 have z : ((([] : LN).map ni).map eN) = [] := rfl
 unfold jdL jdO
 cases h2 : gokB m L with
 | false => rw [h2] at C2; simp [F_impl_JoinedRounds,C2]
 | true =>
  rw [h2] at C2
  cases h3 : decide (0 ≤ at_ ∧ at_ ≤ (L.length : Int) - 2) with
  | false => rw [h3] at C3; simp [F_impl_JoinedRounds,C2,C3,w1]
  | true =>
   rw [h3] at C3
   have h4 := of_decide_eq_true h3
   have hm : 1 ≤ m ∧ m ≤ 5 := by
    have h2' := h2
    unfold gokB at h2'
    rw [Bool.and_eq_true] at h2'
    exact (orOk_iff.1 h2'.2).1
   obtain ⟨n,rfl⟩ := Int.eq_ofNat_of_zero_le (show 0 ≤ m by omega)
   obtain ⟨a,rfl⟩ := Int.eq_ofNat_of_zero_le h4.1
   obtain ⟨N,rfl,G⟩ := gok_of (m := n) (by omega) h2
   have gl := gok_len G
   have cn : N.length ≤ 5 := by have := flat_ge9 G.ne; omega
   have lN : (N.map ni).length = N.length := by simp
   rw [lN] at h4
   obtain ⟨g,r,hN⟩ : ∃ g r,N = g :: r := by
    cases N with
    | nil => simp at h4; omega
    | cons g r => exact ⟨g,r,rfl⟩
   have fl : g.length + r.flatten.length ≤ 5 := by
    rw [hN,List.flatten_cons,List.length_append] at gl
    omega
   have S := jm_first (L := N) (a := a) (g := g) (by rw [hN]; rfl) (by omega) (by omega) (G.ne g (by rw [hN]; exact List.mem_cons_self))
   obtain ⟨I,l,e1,J⟩ := jm_loop (L := N) (a := a) (by omega) cn G.ne r 1 [] g (by rw [hN]; rfl) (by rw [hN]; simp; omega) (by omega) (by simp) fl (fun _ => rfl)
   have nt : ((N.map ni).map fun r => r.map Int.toNat) = N := natL_ni N
   have ej : jdR N a = I ++ [l] := by rw [hN]; exact e1.symm
   have W : ex lf F_impl_JoinedRounds_W0 ⟨[(2,.i a),(8,.own 4104 0 0 0),(23,.sl 0 ((N.map ni).map eR)),(24,.i N.length),(25,.i 0)],[(4104,[])]⟩ = some (.exit 0,stJm N a I l N.length) := by
    rw [w_impl_JoinedRounds_0,S]
    exact J
   rw [nt,Int.toNat_natCast,ej,Bool.true_and,if_pos rfl]
   have sh : (I.map ni).map eN ++ [DV.sl 1 ((ni l).map .i)] = ((I ++ [l]).map ni).map eN := by simp [eN]
   have lM : (((I ++ [l]).map ni).map eN).length = I.length + 1 := by simp
   have nM0 := noc_eN (I.map ni)
   have lI : ((I.map ni).map eN).length = I.length := by simp
   have tk : List.take (I.length + 1) (((I ++ [l]).map ni).map eN) = ((I ++ [l]).map ni).map eN := List.take_of_length_le (by simp)
   have nl := ni_len l
   unfold stJm at W
   rw [lN] at w1 C3
   generalize ((I ++ [l]).map ni).map eN = M at *
   generalize (I.map ni).map eN = M0 at *
   generalize N.map ni = L' at *
   simp [F_impl_JoinedRounds,C2,C3,w1,W,sh,lM,lI,nM0,lN,tk,nl,-List.map_map]
end
section
attribute [-simp] DV.cells
attribute [local simp] sliceD cells_st cells_sl cells_i cells_y cells_b cells_s cells_w
attribute [local simp] lend_eR al_eR lend_eN adopt_eN new_eN adopt_e2 new_e2
theorem lend_ints_ (ts : List Int) : lendL (ts.map .i) = ts.map .i := lend_i ts
def IJoinedRounds_0 : LC := (.region false [⟨some 6,.mv,[.c (.b false)],none⟩] [6])
def IJoinedRounds_1 : LC := (.region false [⟨some 7,.mv,[.c (.i 1048576)],none⟩] [])
def IJoinedRounds_2 : LC := (.region false [⟨some 18,.mv,[.t 1],none⟩,
      ⟨some 19,.mv,[.t 7],none⟩,
      ⟨some 20,.call n_laws_szIntSS 10240,[.t 18,.t 19],none⟩,
      ⟨some 7,.mv,[.t 20],none⟩] [18,19,20])
def IJoinedRounds_3 : LC := (.seq
       (.region false [⟨some 21,.mv,[.t 7],none⟩,
        ⟨some 22,.bin .lss,[.t 21,.c (.i 0)],none⟩] [7,21])
       (.cond (.t 22) [22]
        (.seq
         (.region false [⟨some 6,.mv,[.c (.b true)],none⟩] [0,1,2])
         .ret)
        .skip))
def IJoinedRounds_4 : LC := (.region false [⟨some 24,.mv,[.t 0],none⟩,
        ⟨some 25,.mv,[.t 1],none⟩,
        ⟨some 26,.call n_laws_toIntSS 13312,[.t 25],none⟩,
        ⟨some 27,.mv,[.t 2],none⟩,
        ⟨some 28,.call n_spec_JoinedRounds 14336,[.t 24,.t 26,.t 27],none⟩,
        ⟨some 23,.mv,[.t 28],none⟩,
        ⟨some 29,.ext 0,[.t 23],none⟩,
        ⟨some 30,.ext 1,[.t 23],none⟩,
        ⟨some 8,.mv,[.t 29],none⟩,
        ⟨some 9,.mv,[.t 30],none⟩] [23,24,25,26,27,28,29,30])
def IJoinedRounds_5 : LC := (.region false [⟨some 31,.mv,[.t 1],none⟩,
         ⟨some 32,.call n_laws_toIntSS 16384,[.t 31],none⟩,
         ⟨some 10,.mv,[.t 32],none⟩] [31,32])
def IJoinedRounds_6 : LC := (.region false [⟨some 34,.mv,[.t 0],none⟩,
          ⟨some 35,.mv,[.t 10],none⟩,
          ⟨some 36,.mv,[.t 2],none⟩,
          ⟨some 37,.call n_impl_JoinedRounds 18944,[.t 34,.t 35,.t 36],none⟩,
          ⟨some 33,.mv,[.t 37],none⟩,
          ⟨some 38,.ext 0,[.t 33],none⟩,
          ⟨some 39,.ext 1,[.t 33],none⟩,
          ⟨some 11,.mv,[.t 38],none⟩,
          ⟨some 12,.mv,[.t 39],none⟩] [33,34,35,36,37,38,39])
def IJoinedRounds_7 : LC := (.seq
           (.region false [⟨some 40,.mv,[.t 11],none⟩,
            ⟨some 41,.mv,[.t 8],none⟩,
            ⟨some 42,.call n_laws_eqIntSS 21504,[.t 40,.t 41],none⟩,
            ⟨some 43,.un .not,[.t 42],none⟩,
            ⟨some 44,.mv,[.t 43],none⟩,
            ⟨some 45,.mv,[.t 12],some (44,false)⟩,
            ⟨some 46,.mv,[.t 9],some (44,false)⟩,
            ⟨some 47,.eqb true,[.t 45,.t 46],some (44,false)⟩,
            ⟨some 48,.pick,[.t 44,.c (.b true),.t 47],none⟩] [40,41,42,43,44,45,46,47])
           (.cond (.t 48) [48]
            (.seq
             (.region false [⟨some 6,.mv,[.c (.b false)],none⟩] [0,1,2,8,9,10,11,12])
             .ret)
            .skip))
def IJoinedRounds_8 : LC := (.seq
            (.region false [⟨some 49,.mv,[.t 10],none⟩,
             ⟨some 50,.mv,[.t 1],none⟩,
             ⟨some 51,.call n_laws_toIntSS 26112,[.t 50],none⟩,
             ⟨some 52,.call n_laws_eqIntSS 26624,[.t 49,.t 51],none⟩,
             ⟨some 53,.un .not,[.t 52],none⟩] [49,50,51,52])
            (.cond (.t 53) [53]
             (.seq
              (.region false [⟨some 6,.mv,[.c (.b false)],none⟩] [0,1,2,8,9,10,11,12])
              .ret)
             .skip))
def IJoinedRounds_9 : LC := (.region false [⟨some 13,.mv,[.c (.i 1)],none⟩] [])
def IJoinedRounds_10 : LC := (.region false [⟨some 54,.mv,[.t 10],none⟩,
              ⟨some 55,.mv,[.t 13],none⟩,
              ⟨some 56,.call n_laws_markIntSS 28676,[.t 54,.t 55],none⟩,
              ⟨some 13,.mv,[.t 56],none⟩] [10,54,55,56])
def IJoinedRounds_11 : LC := (.seq
               (.region false [⟨some 57,.mv,[.t 13],none⟩,
                ⟨some 58,.bin .lss,[.t 57,.c (.i 0)],none⟩,
                ⟨some 59,.mv,[.t 58],none⟩,
                ⟨some 60,.mv,[.t 11],some (59,false)⟩,
                ⟨some 61,.mv,[.t 8],some (59,false)⟩,
                ⟨some 62,.call n_laws_eqIntSS 31744,[.t 60,.t 61],some (59,false)⟩,
                ⟨some 63,.un .not,[.t 62],some (59,false)⟩,
                ⟨some 64,.pick,[.t 59,.c (.b true),.t 63],none⟩,
                ⟨some 65,.mv,[.t 64],none⟩,
                ⟨some 66,.mv,[.t 12],some (65,false)⟩,
                ⟨some 67,.mv,[.t 9],some (65,false)⟩,
                ⟨some 68,.eqb true,[.t 66,.t 67],some (65,false)⟩,
                ⟨some 69,.pick,[.t 65,.c (.b true),.t 68],none⟩] [12,13,57,58,59,60,61,62,63,64,65,66,67,68])
               (.cond (.t 69) [69]
                (.seq
                 (.region false [⟨some 6,.mv,[.c (.b false)],none⟩] [0,1,2,8,9,11])
                 .ret)
                .skip))
def IJoinedRounds_12 : LC := (.region false [⟨some 14,.mv,[.c (.i 1)],none⟩] [])
def IJoinedRounds_13 : LC := (.region false [⟨some 70,.mv,[.t 11],none⟩,
                 ⟨some 71,.mv,[.t 14],none⟩,
                 ⟨some 72,.call n_laws_markIntSS 36868,[.t 70,.t 71],none⟩,
                 ⟨some 14,.mv,[.t 72],none⟩] [70,71,72])
def IJoinedRounds_14 : LC := (.region false [⟨some 15,.mv,[.c (.i 1)],none⟩] [])
def IJoinedRounds_15 : LC := (.region false [⟨some 73,.mv,[.t 11],none⟩,
                   ⟨some 74,.mv,[.t 15],none⟩,
                   ⟨some 75,.call n_laws_heldIntSS 38400,[.t 73,.t 74],none⟩,
                   ⟨some 15,.mv,[.t 75],none⟩] [73,74,75])
def IJoinedRounds_16 : LC := (.seq
                    (.region false [⟨some 76,.mv,[.t 15],none⟩,
                     ⟨some 77,.bin .lss,[.t 76,.c (.i 0)],none⟩] [76])
                    (.cond (.t 77) [77]
                     (.seq
                      (.region false [⟨some 6,.mv,[.c (.b false)],none⟩] [0,1,2,8,9,11,14,15])
                      .ret)
                     .skip))
def IJoinedRounds_17 : LC := (.seq
                     (.region false [⟨some 78,.mv,[.t 15],none⟩,
                      ⟨some 79,.mv,[.t 14],none⟩,
                      ⟨some 80,.bin .neq,[.t 78,.t 79],none⟩] [15,78,79])
                     (.cond (.t 80) [80]
                      (.seq
                       (.region false [⟨some 6,.mv,[.c (.b false)],none⟩] [0,1,2,8,9,11,14])
                       .ret)
                      .skip))
def IJoinedRounds_18 : LC := (.region false [⟨some 82,.mv,[.t 0],none⟩,
                      ⟨some 83,.mv,[.t 1],none⟩,
                      ⟨some 84,.call n_laws_toIntSS 43008,[.t 83],none⟩,
                      ⟨some 85,.mv,[.t 2],none⟩,
                      ⟨some 86,.call n_impl_JoinedRounds 44032,[.t 82,.t 84,.t 85],none⟩,
                      ⟨some 81,.mv,[.t 86],none⟩,
                      ⟨some 87,.ext 0,[.t 81],none⟩,
                      ⟨some 88,.ext 1,[.t 81],none⟩,
                      ⟨some 16,.mv,[.t 87],none⟩,
                      ⟨some 17,.mv,[.t 88],none⟩] [0,1,2,81,82,83,84,85,86,87,88])
def IJoinedRounds_19 : LC := (.seq
                       (.region false [⟨some 89,.mv,[.t 16],none⟩,
                        ⟨some 90,.mv,[.t 8],none⟩,
                        ⟨some 91,.call n_laws_eqIntSS 46592,[.t 89,.t 90],none⟩,
                        ⟨some 92,.un .not,[.t 91],none⟩,
                        ⟨some 93,.mv,[.t 92],none⟩,
                        ⟨some 94,.mv,[.t 17],some (93,false)⟩,
                        ⟨some 95,.mv,[.t 9],some (93,false)⟩,
                        ⟨some 96,.eqb true,[.t 94,.t 95],some (93,false)⟩,
                        ⟨some 97,.pick,[.t 93,.c (.b true),.t 96],none⟩] [8,9,16,17,89,90,91,92,93,94,95,96])
                       (.cond (.t 97) [97]
                        (.seq
                         (.region false [⟨some 6,.mv,[.c (.b false)],none⟩] [11,14])
                         .ret)
                        .skip))
def IJoinedRounds_20 : LC := (.region false [⟨some 15,.mv,[.c (.i 1)],none⟩] [])
def IJoinedRounds_21 : LC := (.region false [⟨some 98,.mv,[.t 11],none⟩,
                         ⟨some 99,.mv,[.t 15],none⟩,
                         ⟨some 100,.call n_laws_heldIntSS 51200,[.t 98,.t 99],none⟩,
                         ⟨some 15,.mv,[.t 100],none⟩] [11,98,99,100])
def IJoinedRounds_22 : LC := (.seq
                          (.region false [⟨some 101,.mv,[.t 15],none⟩,
                           ⟨some 102,.bin .lss,[.t 101,.c (.i 0)],none⟩] [101])
                          (.cond (.t 102) [102]
                           (.seq
                            (.region false [⟨some 6,.mv,[.c (.b false)],none⟩] [14,15])
                            .ret)
                           .skip))
def IJoinedRounds_23 : LC := (.seq
                           (.region false [⟨some 103,.mv,[.t 15],none⟩,
                            ⟨some 104,.mv,[.t 14],none⟩,
                            ⟨some 105,.bin .neq,[.t 103,.t 104],none⟩] [14,15,103,104])
                           (.cond (.t 105) [105]
                            (.seq
                             (.region false [⟨some 6,.mv,[.c (.b false)],none⟩] [])
                             .ret)
                            .skip))
def IJoinedRounds_24 : LC := (.region false [⟨some 6,.mv,[.c (.b true)],none⟩] [])
def RJoinedRounds_25 : LC := .ret
def RJoinedRounds_24 : LC := .seq IJoinedRounds_24 RJoinedRounds_25
def RJoinedRounds_23 : LC := .seq IJoinedRounds_23 RJoinedRounds_24
def RJoinedRounds_22 : LC := .seq IJoinedRounds_22 RJoinedRounds_23
def RJoinedRounds_21 : LC := .seq IJoinedRounds_21 RJoinedRounds_22
def RJoinedRounds_20 : LC := .seq IJoinedRounds_20 RJoinedRounds_21
def RJoinedRounds_19 : LC := .seq IJoinedRounds_19 RJoinedRounds_20
def RJoinedRounds_18 : LC := .seq IJoinedRounds_18 RJoinedRounds_19
def RJoinedRounds_17 : LC := .seq IJoinedRounds_17 RJoinedRounds_18
def RJoinedRounds_16 : LC := .seq IJoinedRounds_16 RJoinedRounds_17
def RJoinedRounds_15 : LC := .seq IJoinedRounds_15 RJoinedRounds_16
def RJoinedRounds_14 : LC := .seq IJoinedRounds_14 RJoinedRounds_15
def RJoinedRounds_13 : LC := .seq IJoinedRounds_13 RJoinedRounds_14
def RJoinedRounds_12 : LC := .seq IJoinedRounds_12 RJoinedRounds_13
def RJoinedRounds_11 : LC := .seq IJoinedRounds_11 RJoinedRounds_12
def RJoinedRounds_10 : LC := .seq IJoinedRounds_10 RJoinedRounds_11
def RJoinedRounds_9 : LC := .seq IJoinedRounds_9 RJoinedRounds_10
def RJoinedRounds_8 : LC := .seq IJoinedRounds_8 RJoinedRounds_9
def RJoinedRounds_7 : LC := .seq IJoinedRounds_7 RJoinedRounds_8
def RJoinedRounds_6 : LC := .seq IJoinedRounds_6 RJoinedRounds_7
def RJoinedRounds_5 : LC := .seq IJoinedRounds_5 RJoinedRounds_6
def RJoinedRounds_4 : LC := .seq IJoinedRounds_4 RJoinedRounds_5
def RJoinedRounds_3 : LC := .seq IJoinedRounds_3 RJoinedRounds_4
def RJoinedRounds_2 : LC := .seq IJoinedRounds_2 RJoinedRounds_3
def RJoinedRounds_1 : LC := .seq IJoinedRounds_1 RJoinedRounds_2
def RJoinedRounds_0 : LC := .seq IJoinedRounds_0 RJoinedRounds_1
theorem body_JoinedRounds : F_laws_FnExactJoinedRounds.body = RJoinedRounds_0 := rfl
set_option maxHeartbeats 4000000 in
theorem sJoinedRounds_0 {m a z : Int} {v : Bool} {L G : List (List Int)} (z0 : 0 ≤ z) (hL : L.length ≤ 1048576) (hT : totR L ≤ 1048576) (hR : ∀ r ∈ L,(r.length : Int) ≤ 1048576) (hG : G.length ≤ 100) (hTG : totR G ≤ 100) (hRG : ∀ r ∈ G,(r.length : Int) ≤ 1048576) (S : call lf n_laws_szIntSS [.sl 0 (L.map eR),.i 1048576] = some (.i z,[])) (C1 : call lf n_impl_JoinedRounds [.i m,.sl 0 (L.map eR),.i a] = some (.tup [.fr 1 (G.map eN),.b v],[])) (C2 : call lf n_spec_JoinedRounds [.i m,.sl 0 (L.map eR),.i a] = some (.tup [.fr 1 (G.map eN),.b v],[])) : ∃ S1,ex lf IJoinedRounds_0 ⟨[(0,.i (m)),(1,.sl 0 (L.map eR)),(2,.i (a))],[]⟩ = some (.normal,S1) ∧ ∀ g ∈ ([] : List (Nat × DV)),made S1 g := by
 have n0 : ¬ z < 0 := by omega
 have A := c_toIntSS L (by omega) hR
 have Q := c_eqIntSS_self L (by omega) hR
 have Q1 := c_eqIntSS_self G (by omega) hRG
 have HH := c_heldIntSS G 1 (by omega) (by omega) (by omega) (by omega)
 have n3 : ¬ 1 + (totR L : Int) < 0 := by omega
 have n4 : ¬ 1 + (totR G : Int) < 0 := by omega
 have tk : List.take L.length (L.map eN) = L.map eN := List.take_of_length_le (by simp)
 have tk2 : List.take G.length (G.map eN) = G.map eN := List.take_of_length_le (by simp)
 simp (config := { maxSteps := 2000000 }) [IJoinedRounds_0,made,settle,elems,wholeP,DV.allNew,DV.adopt,adoptP,newP,S,n0,A,Q,Q1,HH,n3,n4,tk,tk2,C1,C2]
set_option maxHeartbeats 4000000 in
theorem sJoinedRounds_1 {m a z : Int} {v : Bool} {L G : List (List Int)} (z0 : 0 ≤ z) (hL : L.length ≤ 1048576) (hT : totR L ≤ 1048576) (hR : ∀ r ∈ L,(r.length : Int) ≤ 1048576) (hG : G.length ≤ 100) (hTG : totR G ≤ 100) (hRG : ∀ r ∈ G,(r.length : Int) ≤ 1048576) (S : call lf n_laws_szIntSS [.sl 0 (L.map eR),.i 1048576] = some (.i z,[])) (C1 : call lf n_impl_JoinedRounds [.i m,.sl 0 (L.map eR),.i a] = some (.tup [.fr 1 (G.map eN),.b v],[])) (C2 : call lf n_spec_JoinedRounds [.i m,.sl 0 (L.map eR),.i a] = some (.tup [.fr 1 (G.map eN),.b v],[])) : ∃ S1,ex lf IJoinedRounds_1 ⟨[(0,.i (m)),(1,.sl 0 (L.map eR)),(2,.i (a))],[]⟩ = some (.normal,S1) ∧ ∀ g ∈ ([(7,.i (1048576))] : List (Nat × DV)),made S1 g := by
 have n0 : ¬ z < 0 := by omega
 have A := c_toIntSS L (by omega) hR
 have Q := c_eqIntSS_self L (by omega) hR
 have Q1 := c_eqIntSS_self G (by omega) hRG
 have HH := c_heldIntSS G 1 (by omega) (by omega) (by omega) (by omega)
 have n3 : ¬ 1 + (totR L : Int) < 0 := by omega
 have n4 : ¬ 1 + (totR G : Int) < 0 := by omega
 have tk : List.take L.length (L.map eN) = L.map eN := List.take_of_length_le (by simp)
 have tk2 : List.take G.length (G.map eN) = G.map eN := List.take_of_length_le (by simp)
 simp (config := { maxSteps := 2000000 }) [IJoinedRounds_1,made,settle,elems,wholeP,DV.allNew,DV.adopt,adoptP,newP,S,n0,A,Q,Q1,HH,n3,n4,tk,tk2,C1,C2]
set_option maxHeartbeats 4000000 in
theorem sJoinedRounds_2 {m a z : Int} {v : Bool} {L G : List (List Int)} (z0 : 0 ≤ z) (hL : L.length ≤ 1048576) (hT : totR L ≤ 1048576) (hR : ∀ r ∈ L,(r.length : Int) ≤ 1048576) (hG : G.length ≤ 100) (hTG : totR G ≤ 100) (hRG : ∀ r ∈ G,(r.length : Int) ≤ 1048576) (S : call lf n_laws_szIntSS [.sl 0 (L.map eR),.i 1048576] = some (.i z,[])) (C1 : call lf n_impl_JoinedRounds [.i m,.sl 0 (L.map eR),.i a] = some (.tup [.fr 1 (G.map eN),.b v],[])) (C2 : call lf n_spec_JoinedRounds [.i m,.sl 0 (L.map eR),.i a] = some (.tup [.fr 1 (G.map eN),.b v],[])) : ∃ S1,ex lf IJoinedRounds_2 ⟨[(0,.i (m)),(1,.sl 0 (L.map eR)),(2,.i (a)),(7,.i (1048576))],[]⟩ = some (.normal,S1) ∧ ∀ g ∈ ([(7,.i (z))] : List (Nat × DV)),made S1 g := by
 have n0 : ¬ z < 0 := by omega
 have A := c_toIntSS L (by omega) hR
 have Q := c_eqIntSS_self L (by omega) hR
 have Q1 := c_eqIntSS_self G (by omega) hRG
 have HH := c_heldIntSS G 1 (by omega) (by omega) (by omega) (by omega)
 have n3 : ¬ 1 + (totR L : Int) < 0 := by omega
 have n4 : ¬ 1 + (totR G : Int) < 0 := by omega
 have tk : List.take L.length (L.map eN) = L.map eN := List.take_of_length_le (by simp)
 have tk2 : List.take G.length (G.map eN) = G.map eN := List.take_of_length_le (by simp)
 simp (config := { maxSteps := 2000000 }) [IJoinedRounds_2,made,settle,elems,wholeP,DV.allNew,DV.adopt,adoptP,newP,S,n0,A,Q,Q1,HH,n3,n4,tk,tk2,C1,C2]
set_option maxHeartbeats 4000000 in
theorem sJoinedRounds_3 {m a z : Int} {v : Bool} {L G : List (List Int)} (z0 : 0 ≤ z) (hL : L.length ≤ 1048576) (hT : totR L ≤ 1048576) (hR : ∀ r ∈ L,(r.length : Int) ≤ 1048576) (hG : G.length ≤ 100) (hTG : totR G ≤ 100) (hRG : ∀ r ∈ G,(r.length : Int) ≤ 1048576) (S : call lf n_laws_szIntSS [.sl 0 (L.map eR),.i 1048576] = some (.i z,[])) (C1 : call lf n_impl_JoinedRounds [.i m,.sl 0 (L.map eR),.i a] = some (.tup [.fr 1 (G.map eN),.b v],[])) (C2 : call lf n_spec_JoinedRounds [.i m,.sl 0 (L.map eR),.i a] = some (.tup [.fr 1 (G.map eN),.b v],[])) : ∃ S1,ex lf IJoinedRounds_3 ⟨[(0,.i (m)),(1,.sl 0 (L.map eR)),(2,.i (a)),(7,.i (z))],[]⟩ = some (.normal,S1) ∧ ∀ g ∈ ([] : List (Nat × DV)),made S1 g := by
 have n0 : ¬ z < 0 := by omega
 have A := c_toIntSS L (by omega) hR
 have Q := c_eqIntSS_self L (by omega) hR
 have Q1 := c_eqIntSS_self G (by omega) hRG
 have HH := c_heldIntSS G 1 (by omega) (by omega) (by omega) (by omega)
 have n3 : ¬ 1 + (totR L : Int) < 0 := by omega
 have n4 : ¬ 1 + (totR G : Int) < 0 := by omega
 have tk : List.take L.length (L.map eN) = L.map eN := List.take_of_length_le (by simp)
 have tk2 : List.take G.length (G.map eN) = G.map eN := List.take_of_length_le (by simp)
 simp (config := { maxSteps := 2000000 }) [IJoinedRounds_3,made,settle,elems,wholeP,DV.allNew,DV.adopt,adoptP,newP,S,n0,A,Q,Q1,HH,n3,n4,tk,tk2,C1,C2]
set_option maxHeartbeats 4000000 in
theorem sJoinedRounds_4 {m a z : Int} {v : Bool} {L G : List (List Int)} (z0 : 0 ≤ z) (hL : L.length ≤ 1048576) (hT : totR L ≤ 1048576) (hR : ∀ r ∈ L,(r.length : Int) ≤ 1048576) (hG : G.length ≤ 100) (hTG : totR G ≤ 100) (hRG : ∀ r ∈ G,(r.length : Int) ≤ 1048576) (S : call lf n_laws_szIntSS [.sl 0 (L.map eR),.i 1048576] = some (.i z,[])) (C1 : call lf n_impl_JoinedRounds [.i m,.sl 0 (L.map eR),.i a] = some (.tup [.fr 1 (G.map eN),.b v],[])) (C2 : call lf n_spec_JoinedRounds [.i m,.sl 0 (L.map eR),.i a] = some (.tup [.fr 1 (G.map eN),.b v],[])) : ∃ S1,ex lf IJoinedRounds_4 ⟨[(0,.i (m)),(1,.sl 0 (L.map eR)),(2,.i (a))],[]⟩ = some (.normal,S1) ∧ ∀ g ∈ ([(8,.sl 1 (G.map eN)),(9,.b v)] : List (Nat × DV)),made S1 g := by
 have n0 : ¬ z < 0 := by omega
 have A := c_toIntSS L (by omega) hR
 have Q := c_eqIntSS_self L (by omega) hR
 have Q1 := c_eqIntSS_self G (by omega) hRG
 have HH := c_heldIntSS G 1 (by omega) (by omega) (by omega) (by omega)
 have n3 : ¬ 1 + (totR L : Int) < 0 := by omega
 have n4 : ¬ 1 + (totR G : Int) < 0 := by omega
 have tk : List.take L.length (L.map eN) = L.map eN := List.take_of_length_le (by simp)
 have tk2 : List.take G.length (G.map eN) = G.map eN := List.take_of_length_le (by simp)
 simp (config := { maxSteps := 2000000 }) [IJoinedRounds_4,made,settle,elems,wholeP,DV.allNew,DV.adopt,adoptP,newP,S,n0,A,Q,Q1,HH,n3,n4,tk,tk2,C1,C2]
set_option maxHeartbeats 4000000 in
theorem sJoinedRounds_5 {m a z : Int} {v : Bool} {L G : List (List Int)} (z0 : 0 ≤ z) (hL : L.length ≤ 1048576) (hT : totR L ≤ 1048576) (hR : ∀ r ∈ L,(r.length : Int) ≤ 1048576) (hG : G.length ≤ 100) (hTG : totR G ≤ 100) (hRG : ∀ r ∈ G,(r.length : Int) ≤ 1048576) (S : call lf n_laws_szIntSS [.sl 0 (L.map eR),.i 1048576] = some (.i z,[])) (C1 : call lf n_impl_JoinedRounds [.i m,.sl 0 (L.map eR),.i a] = some (.tup [.fr 1 (G.map eN),.b v],[])) (C2 : call lf n_spec_JoinedRounds [.i m,.sl 0 (L.map eR),.i a] = some (.tup [.fr 1 (G.map eN),.b v],[])) : ∃ S1,ex lf IJoinedRounds_5 ⟨[(0,.i (m)),(1,.sl 0 (L.map eR)),(2,.i (a)),(8,.sl 0 (G.map eR)),(9,.b v)],[]⟩ = some (.normal,S1) ∧ ∀ g ∈ ([(10,.sl 1 (L.map eN))] : List (Nat × DV)),made S1 g := by
 have n0 : ¬ z < 0 := by omega
 have A := c_toIntSS L (by omega) hR
 have Q := c_eqIntSS_self L (by omega) hR
 have Q1 := c_eqIntSS_self G (by omega) hRG
 have HH := c_heldIntSS G 1 (by omega) (by omega) (by omega) (by omega)
 have n3 : ¬ 1 + (totR L : Int) < 0 := by omega
 have n4 : ¬ 1 + (totR G : Int) < 0 := by omega
 have tk : List.take L.length (L.map eN) = L.map eN := List.take_of_length_le (by simp)
 have tk2 : List.take G.length (G.map eN) = G.map eN := List.take_of_length_le (by simp)
 simp (config := { maxSteps := 2000000 }) [IJoinedRounds_5,made,settle,elems,wholeP,DV.allNew,DV.adopt,adoptP,newP,S,n0,A,Q,Q1,HH,n3,n4,tk,tk2,C1,C2]
set_option maxHeartbeats 4000000 in
theorem sJoinedRounds_6 {m a z : Int} {v : Bool} {L G : List (List Int)} (z0 : 0 ≤ z) (hL : L.length ≤ 1048576) (hT : totR L ≤ 1048576) (hR : ∀ r ∈ L,(r.length : Int) ≤ 1048576) (hG : G.length ≤ 100) (hTG : totR G ≤ 100) (hRG : ∀ r ∈ G,(r.length : Int) ≤ 1048576) (S : call lf n_laws_szIntSS [.sl 0 (L.map eR),.i 1048576] = some (.i z,[])) (C1 : call lf n_impl_JoinedRounds [.i m,.sl 0 (L.map eR),.i a] = some (.tup [.fr 1 (G.map eN),.b v],[])) (C2 : call lf n_spec_JoinedRounds [.i m,.sl 0 (L.map eR),.i a] = some (.tup [.fr 1 (G.map eN),.b v],[])) : ∃ S1,ex lf IJoinedRounds_6 ⟨[(0,.i (m)),(1,.sl 0 (L.map eR)),(2,.i (a)),(8,.sl 0 (G.map eR)),(9,.b v),(10,.sl 0 (L.map eR))],[]⟩ = some (.normal,S1) ∧ ∀ g ∈ ([(11,.sl 1 (G.map eN)),(12,.b v)] : List (Nat × DV)),made S1 g := by
 have n0 : ¬ z < 0 := by omega
 have A := c_toIntSS L (by omega) hR
 have Q := c_eqIntSS_self L (by omega) hR
 have Q1 := c_eqIntSS_self G (by omega) hRG
 have HH := c_heldIntSS G 1 (by omega) (by omega) (by omega) (by omega)
 have n3 : ¬ 1 + (totR L : Int) < 0 := by omega
 have n4 : ¬ 1 + (totR G : Int) < 0 := by omega
 have tk : List.take L.length (L.map eN) = L.map eN := List.take_of_length_le (by simp)
 have tk2 : List.take G.length (G.map eN) = G.map eN := List.take_of_length_le (by simp)
 simp (config := { maxSteps := 2000000 }) [IJoinedRounds_6,made,settle,elems,wholeP,DV.allNew,DV.adopt,adoptP,newP,S,n0,A,Q,Q1,HH,n3,n4,tk,tk2,C1,C2]
set_option maxHeartbeats 4000000 in
theorem sJoinedRounds_7 {m a z : Int} {v : Bool} {L G : List (List Int)} (z0 : 0 ≤ z) (hL : L.length ≤ 1048576) (hT : totR L ≤ 1048576) (hR : ∀ r ∈ L,(r.length : Int) ≤ 1048576) (hG : G.length ≤ 100) (hTG : totR G ≤ 100) (hRG : ∀ r ∈ G,(r.length : Int) ≤ 1048576) (S : call lf n_laws_szIntSS [.sl 0 (L.map eR),.i 1048576] = some (.i z,[])) (C1 : call lf n_impl_JoinedRounds [.i m,.sl 0 (L.map eR),.i a] = some (.tup [.fr 1 (G.map eN),.b v],[])) (C2 : call lf n_spec_JoinedRounds [.i m,.sl 0 (L.map eR),.i a] = some (.tup [.fr 1 (G.map eN),.b v],[])) : ∃ S1,ex lf IJoinedRounds_7 ⟨[(0,.i (m)),(1,.sl 0 (L.map eR)),(2,.i (a)),(8,.sl 0 (G.map eR)),(9,.b v),(10,.sl 0 (L.map eR)),(11,.sl 0 (G.map eR)),(12,.b v)],[]⟩ = some (.normal,S1) ∧ ∀ g ∈ ([] : List (Nat × DV)),made S1 g := by
 have n0 : ¬ z < 0 := by omega
 have A := c_toIntSS L (by omega) hR
 have Q := c_eqIntSS_self L (by omega) hR
 have Q1 := c_eqIntSS_self G (by omega) hRG
 have HH := c_heldIntSS G 1 (by omega) (by omega) (by omega) (by omega)
 have n3 : ¬ 1 + (totR L : Int) < 0 := by omega
 have n4 : ¬ 1 + (totR G : Int) < 0 := by omega
 have tk : List.take L.length (L.map eN) = L.map eN := List.take_of_length_le (by simp)
 have tk2 : List.take G.length (G.map eN) = G.map eN := List.take_of_length_le (by simp)
 simp (config := { maxSteps := 2000000 }) [IJoinedRounds_7,made,settle,elems,wholeP,DV.allNew,DV.adopt,adoptP,newP,S,n0,A,Q,Q1,HH,n3,n4,tk,tk2,C1,C2]
set_option maxHeartbeats 4000000 in
theorem sJoinedRounds_8 {m a z : Int} {v : Bool} {L G : List (List Int)} (z0 : 0 ≤ z) (hL : L.length ≤ 1048576) (hT : totR L ≤ 1048576) (hR : ∀ r ∈ L,(r.length : Int) ≤ 1048576) (hG : G.length ≤ 100) (hTG : totR G ≤ 100) (hRG : ∀ r ∈ G,(r.length : Int) ≤ 1048576) (S : call lf n_laws_szIntSS [.sl 0 (L.map eR),.i 1048576] = some (.i z,[])) (C1 : call lf n_impl_JoinedRounds [.i m,.sl 0 (L.map eR),.i a] = some (.tup [.fr 1 (G.map eN),.b v],[])) (C2 : call lf n_spec_JoinedRounds [.i m,.sl 0 (L.map eR),.i a] = some (.tup [.fr 1 (G.map eN),.b v],[])) : ∃ S1,ex lf IJoinedRounds_8 ⟨[(0,.i (m)),(1,.sl 0 (L.map eR)),(2,.i (a)),(8,.sl 0 (G.map eR)),(9,.b v),(10,.sl 0 (L.map eR)),(11,.sl 0 (G.map eR)),(12,.b v)],[]⟩ = some (.normal,S1) ∧ ∀ g ∈ ([] : List (Nat × DV)),made S1 g := by
 have n0 : ¬ z < 0 := by omega
 have A := c_toIntSS L (by omega) hR
 have Q := c_eqIntSS_self L (by omega) hR
 have Q1 := c_eqIntSS_self G (by omega) hRG
 have HH := c_heldIntSS G 1 (by omega) (by omega) (by omega) (by omega)
 have n3 : ¬ 1 + (totR L : Int) < 0 := by omega
 have n4 : ¬ 1 + (totR G : Int) < 0 := by omega
 have tk : List.take L.length (L.map eN) = L.map eN := List.take_of_length_le (by simp)
 have tk2 : List.take G.length (G.map eN) = G.map eN := List.take_of_length_le (by simp)
 simp (config := { maxSteps := 2000000 }) [IJoinedRounds_8,made,settle,elems,wholeP,DV.allNew,DV.adopt,adoptP,newP,S,n0,A,Q,Q1,HH,n3,n4,tk,tk2,C1,C2]
set_option maxHeartbeats 4000000 in
theorem sJoinedRounds_9 {m a z : Int} {v : Bool} {L G : List (List Int)} (z0 : 0 ≤ z) (hL : L.length ≤ 1048576) (hT : totR L ≤ 1048576) (hR : ∀ r ∈ L,(r.length : Int) ≤ 1048576) (hG : G.length ≤ 100) (hTG : totR G ≤ 100) (hRG : ∀ r ∈ G,(r.length : Int) ≤ 1048576) (S : call lf n_laws_szIntSS [.sl 0 (L.map eR),.i 1048576] = some (.i z,[])) (C1 : call lf n_impl_JoinedRounds [.i m,.sl 0 (L.map eR),.i a] = some (.tup [.fr 1 (G.map eN),.b v],[])) (C2 : call lf n_spec_JoinedRounds [.i m,.sl 0 (L.map eR),.i a] = some (.tup [.fr 1 (G.map eN),.b v],[])) : ∃ S1,ex lf IJoinedRounds_9 ⟨[(0,.i (m)),(1,.sl 0 (L.map eR)),(2,.i (a)),(8,.sl 0 (G.map eR)),(9,.b v),(10,.sl 0 (L.map eR)),(11,.sl 0 (G.map eR)),(12,.b v)],[]⟩ = some (.normal,S1) ∧ ∀ g ∈ ([(13,.i (1))] : List (Nat × DV)),made S1 g := by
 have n0 : ¬ z < 0 := by omega
 have A := c_toIntSS L (by omega) hR
 have Q := c_eqIntSS_self L (by omega) hR
 have Q1 := c_eqIntSS_self G (by omega) hRG
 have HH := c_heldIntSS G 1 (by omega) (by omega) (by omega) (by omega)
 have n3 : ¬ 1 + (totR L : Int) < 0 := by omega
 have n4 : ¬ 1 + (totR G : Int) < 0 := by omega
 have tk : List.take L.length (L.map eN) = L.map eN := List.take_of_length_le (by simp)
 have tk2 : List.take G.length (G.map eN) = G.map eN := List.take_of_length_le (by simp)
 simp (config := { maxSteps := 2000000 }) [IJoinedRounds_9,made,settle,elems,wholeP,DV.allNew,DV.adopt,adoptP,newP,S,n0,A,Q,Q1,HH,n3,n4,tk,tk2,C1,C2]
set_option maxHeartbeats 4000000 in
theorem sJoinedRounds_11 {m a z : Int} {v : Bool} {L G : List (List Int)} (z0 : 0 ≤ z) (hL : L.length ≤ 1048576) (hT : totR L ≤ 1048576) (hR : ∀ r ∈ L,(r.length : Int) ≤ 1048576) (hG : G.length ≤ 100) (hTG : totR G ≤ 100) (hRG : ∀ r ∈ G,(r.length : Int) ≤ 1048576) (S : call lf n_laws_szIntSS [.sl 0 (L.map eR),.i 1048576] = some (.i z,[])) (C1 : call lf n_impl_JoinedRounds [.i m,.sl 0 (L.map eR),.i a] = some (.tup [.fr 1 (G.map eN),.b v],[])) (C2 : call lf n_spec_JoinedRounds [.i m,.sl 0 (L.map eR),.i a] = some (.tup [.fr 1 (G.map eN),.b v],[])) : ∃ S1,ex lf IJoinedRounds_11 ⟨[(0,.i (m)),(1,.sl 0 (L.map eR)),(2,.i (a)),(8,.sl 0 (G.map eR)),(9,.b v),(11,.sl 0 (G.map eR)),(12,.b v),(13,.i (1 + (totR L : Int)))],[]⟩ = some (.normal,S1) ∧ ∀ g ∈ ([] : List (Nat × DV)),made S1 g := by
 have n0 : ¬ z < 0 := by omega
 have A := c_toIntSS L (by omega) hR
 have Q := c_eqIntSS_self L (by omega) hR
 have Q1 := c_eqIntSS_self G (by omega) hRG
 have HH := c_heldIntSS G 1 (by omega) (by omega) (by omega) (by omega)
 have n3 : ¬ 1 + (totR L : Int) < 0 := by omega
 have n4 : ¬ 1 + (totR G : Int) < 0 := by omega
 have tk : List.take L.length (L.map eN) = L.map eN := List.take_of_length_le (by simp)
 have tk2 : List.take G.length (G.map eN) = G.map eN := List.take_of_length_le (by simp)
 simp (config := { maxSteps := 2000000 }) [IJoinedRounds_11,made,settle,elems,wholeP,DV.allNew,DV.adopt,adoptP,newP,S,n0,A,Q,Q1,HH,n3,n4,tk,tk2,C1,C2]
set_option maxHeartbeats 4000000 in
theorem sJoinedRounds_12 {m a z : Int} {v : Bool} {L G : List (List Int)} (z0 : 0 ≤ z) (hL : L.length ≤ 1048576) (hT : totR L ≤ 1048576) (hR : ∀ r ∈ L,(r.length : Int) ≤ 1048576) (hG : G.length ≤ 100) (hTG : totR G ≤ 100) (hRG : ∀ r ∈ G,(r.length : Int) ≤ 1048576) (S : call lf n_laws_szIntSS [.sl 0 (L.map eR),.i 1048576] = some (.i z,[])) (C1 : call lf n_impl_JoinedRounds [.i m,.sl 0 (L.map eR),.i a] = some (.tup [.fr 1 (G.map eN),.b v],[])) (C2 : call lf n_spec_JoinedRounds [.i m,.sl 0 (L.map eR),.i a] = some (.tup [.fr 1 (G.map eN),.b v],[])) : ∃ S1,ex lf IJoinedRounds_12 ⟨[(0,.i (m)),(1,.sl 0 (L.map eR)),(2,.i (a)),(8,.sl 0 (G.map eR)),(9,.b v),(11,.sl 0 (G.map eR))],[]⟩ = some (.normal,S1) ∧ ∀ g ∈ ([(14,.i (1))] : List (Nat × DV)),made S1 g := by
 have n0 : ¬ z < 0 := by omega
 have A := c_toIntSS L (by omega) hR
 have Q := c_eqIntSS_self L (by omega) hR
 have Q1 := c_eqIntSS_self G (by omega) hRG
 have HH := c_heldIntSS G 1 (by omega) (by omega) (by omega) (by omega)
 have n3 : ¬ 1 + (totR L : Int) < 0 := by omega
 have n4 : ¬ 1 + (totR G : Int) < 0 := by omega
 have tk : List.take L.length (L.map eN) = L.map eN := List.take_of_length_le (by simp)
 have tk2 : List.take G.length (G.map eN) = G.map eN := List.take_of_length_le (by simp)
 simp (config := { maxSteps := 2000000 }) [IJoinedRounds_12,made,settle,elems,wholeP,DV.allNew,DV.adopt,adoptP,newP,S,n0,A,Q,Q1,HH,n3,n4,tk,tk2,C1,C2]
set_option maxHeartbeats 4000000 in
theorem sJoinedRounds_14 {m a z : Int} {v : Bool} {L G : List (List Int)} (z0 : 0 ≤ z) (hL : L.length ≤ 1048576) (hT : totR L ≤ 1048576) (hR : ∀ r ∈ L,(r.length : Int) ≤ 1048576) (hG : G.length ≤ 100) (hTG : totR G ≤ 100) (hRG : ∀ r ∈ G,(r.length : Int) ≤ 1048576) (S : call lf n_laws_szIntSS [.sl 0 (L.map eR),.i 1048576] = some (.i z,[])) (C1 : call lf n_impl_JoinedRounds [.i m,.sl 0 (L.map eR),.i a] = some (.tup [.fr 1 (G.map eN),.b v],[])) (C2 : call lf n_spec_JoinedRounds [.i m,.sl 0 (L.map eR),.i a] = some (.tup [.fr 1 (G.map eN),.b v],[])) : ∃ S1,ex lf IJoinedRounds_14 ⟨[(0,.i (m)),(1,.sl 0 (L.map eR)),(2,.i (a)),(8,.sl 0 (G.map eR)),(9,.b v),(11,.sl 0 ((mrkR 1 G).map eR)),(14,.i (1 + (totR G : Int)))],[]⟩ = some (.normal,S1) ∧ ∀ g ∈ ([(15,.i (1))] : List (Nat × DV)),made S1 g := by
 have n0 : ¬ z < 0 := by omega
 have A := c_toIntSS L (by omega) hR
 have Q := c_eqIntSS_self L (by omega) hR
 have Q1 := c_eqIntSS_self G (by omega) hRG
 have HH := c_heldIntSS G 1 (by omega) (by omega) (by omega) (by omega)
 have n3 : ¬ 1 + (totR L : Int) < 0 := by omega
 have n4 : ¬ 1 + (totR G : Int) < 0 := by omega
 have tk : List.take L.length (L.map eN) = L.map eN := List.take_of_length_le (by simp)
 have tk2 : List.take G.length (G.map eN) = G.map eN := List.take_of_length_le (by simp)
 simp (config := { maxSteps := 2000000 }) [IJoinedRounds_14,made,settle,elems,wholeP,DV.allNew,DV.adopt,adoptP,newP,S,n0,A,Q,Q1,HH,n3,n4,tk,tk2,C1,C2]
set_option maxHeartbeats 4000000 in
theorem sJoinedRounds_15 {m a z : Int} {v : Bool} {L G : List (List Int)} (z0 : 0 ≤ z) (hL : L.length ≤ 1048576) (hT : totR L ≤ 1048576) (hR : ∀ r ∈ L,(r.length : Int) ≤ 1048576) (hG : G.length ≤ 100) (hTG : totR G ≤ 100) (hRG : ∀ r ∈ G,(r.length : Int) ≤ 1048576) (S : call lf n_laws_szIntSS [.sl 0 (L.map eR),.i 1048576] = some (.i z,[])) (C1 : call lf n_impl_JoinedRounds [.i m,.sl 0 (L.map eR),.i a] = some (.tup [.fr 1 (G.map eN),.b v],[])) (C2 : call lf n_spec_JoinedRounds [.i m,.sl 0 (L.map eR),.i a] = some (.tup [.fr 1 (G.map eN),.b v],[])) : ∃ S1,ex lf IJoinedRounds_15 ⟨[(0,.i (m)),(1,.sl 0 (L.map eR)),(2,.i (a)),(8,.sl 0 (G.map eR)),(9,.b v),(11,.sl 0 ((mrkR 1 G).map eR)),(14,.i (1 + (totR G : Int))),(15,.i (1))],[]⟩ = some (.normal,S1) ∧ ∀ g ∈ ([(15,.i (1 + (totR G : Int)))] : List (Nat × DV)),made S1 g := by
 have n0 : ¬ z < 0 := by omega
 have A := c_toIntSS L (by omega) hR
 have Q := c_eqIntSS_self L (by omega) hR
 have Q1 := c_eqIntSS_self G (by omega) hRG
 have HH := c_heldIntSS G 1 (by omega) (by omega) (by omega) (by omega)
 have n3 : ¬ 1 + (totR L : Int) < 0 := by omega
 have n4 : ¬ 1 + (totR G : Int) < 0 := by omega
 have tk : List.take L.length (L.map eN) = L.map eN := List.take_of_length_le (by simp)
 have tk2 : List.take G.length (G.map eN) = G.map eN := List.take_of_length_le (by simp)
 simp (config := { maxSteps := 2000000 }) [IJoinedRounds_15,made,settle,elems,wholeP,DV.allNew,DV.adopt,adoptP,newP,S,n0,A,Q,Q1,HH,n3,n4,tk,tk2,C1,C2]
set_option maxHeartbeats 4000000 in
theorem sJoinedRounds_16 {m a z : Int} {v : Bool} {L G : List (List Int)} (z0 : 0 ≤ z) (hL : L.length ≤ 1048576) (hT : totR L ≤ 1048576) (hR : ∀ r ∈ L,(r.length : Int) ≤ 1048576) (hG : G.length ≤ 100) (hTG : totR G ≤ 100) (hRG : ∀ r ∈ G,(r.length : Int) ≤ 1048576) (S : call lf n_laws_szIntSS [.sl 0 (L.map eR),.i 1048576] = some (.i z,[])) (C1 : call lf n_impl_JoinedRounds [.i m,.sl 0 (L.map eR),.i a] = some (.tup [.fr 1 (G.map eN),.b v],[])) (C2 : call lf n_spec_JoinedRounds [.i m,.sl 0 (L.map eR),.i a] = some (.tup [.fr 1 (G.map eN),.b v],[])) : ∃ S1,ex lf IJoinedRounds_16 ⟨[(0,.i (m)),(1,.sl 0 (L.map eR)),(2,.i (a)),(8,.sl 0 (G.map eR)),(9,.b v),(11,.sl 0 ((mrkR 1 G).map eR)),(14,.i (1 + (totR G : Int))),(15,.i (1 + (totR G : Int)))],[]⟩ = some (.normal,S1) ∧ ∀ g ∈ ([] : List (Nat × DV)),made S1 g := by
 have n0 : ¬ z < 0 := by omega
 have A := c_toIntSS L (by omega) hR
 have Q := c_eqIntSS_self L (by omega) hR
 have Q1 := c_eqIntSS_self G (by omega) hRG
 have HH := c_heldIntSS G 1 (by omega) (by omega) (by omega) (by omega)
 have n3 : ¬ 1 + (totR L : Int) < 0 := by omega
 have n4 : ¬ 1 + (totR G : Int) < 0 := by omega
 have tk : List.take L.length (L.map eN) = L.map eN := List.take_of_length_le (by simp)
 have tk2 : List.take G.length (G.map eN) = G.map eN := List.take_of_length_le (by simp)
 simp (config := { maxSteps := 2000000 }) [IJoinedRounds_16,made,settle,elems,wholeP,DV.allNew,DV.adopt,adoptP,newP,S,n0,A,Q,Q1,HH,n3,n4,tk,tk2,C1,C2]
set_option maxHeartbeats 4000000 in
theorem sJoinedRounds_17 {m a z : Int} {v : Bool} {L G : List (List Int)} (z0 : 0 ≤ z) (hL : L.length ≤ 1048576) (hT : totR L ≤ 1048576) (hR : ∀ r ∈ L,(r.length : Int) ≤ 1048576) (hG : G.length ≤ 100) (hTG : totR G ≤ 100) (hRG : ∀ r ∈ G,(r.length : Int) ≤ 1048576) (S : call lf n_laws_szIntSS [.sl 0 (L.map eR),.i 1048576] = some (.i z,[])) (C1 : call lf n_impl_JoinedRounds [.i m,.sl 0 (L.map eR),.i a] = some (.tup [.fr 1 (G.map eN),.b v],[])) (C2 : call lf n_spec_JoinedRounds [.i m,.sl 0 (L.map eR),.i a] = some (.tup [.fr 1 (G.map eN),.b v],[])) : ∃ S1,ex lf IJoinedRounds_17 ⟨[(0,.i (m)),(1,.sl 0 (L.map eR)),(2,.i (a)),(8,.sl 0 (G.map eR)),(9,.b v),(11,.sl 0 ((mrkR 1 G).map eR)),(14,.i (1 + (totR G : Int))),(15,.i (1 + (totR G : Int)))],[]⟩ = some (.normal,S1) ∧ ∀ g ∈ ([] : List (Nat × DV)),made S1 g := by
 have n0 : ¬ z < 0 := by omega
 have A := c_toIntSS L (by omega) hR
 have Q := c_eqIntSS_self L (by omega) hR
 have Q1 := c_eqIntSS_self G (by omega) hRG
 have HH := c_heldIntSS G 1 (by omega) (by omega) (by omega) (by omega)
 have n3 : ¬ 1 + (totR L : Int) < 0 := by omega
 have n4 : ¬ 1 + (totR G : Int) < 0 := by omega
 have tk : List.take L.length (L.map eN) = L.map eN := List.take_of_length_le (by simp)
 have tk2 : List.take G.length (G.map eN) = G.map eN := List.take_of_length_le (by simp)
 simp (config := { maxSteps := 2000000 }) [IJoinedRounds_17,made,settle,elems,wholeP,DV.allNew,DV.adopt,adoptP,newP,S,n0,A,Q,Q1,HH,n3,n4,tk,tk2,C1,C2]
set_option maxHeartbeats 4000000 in
theorem sJoinedRounds_18 {m a z : Int} {v : Bool} {L G : List (List Int)} (z0 : 0 ≤ z) (hL : L.length ≤ 1048576) (hT : totR L ≤ 1048576) (hR : ∀ r ∈ L,(r.length : Int) ≤ 1048576) (hG : G.length ≤ 100) (hTG : totR G ≤ 100) (hRG : ∀ r ∈ G,(r.length : Int) ≤ 1048576) (S : call lf n_laws_szIntSS [.sl 0 (L.map eR),.i 1048576] = some (.i z,[])) (C1 : call lf n_impl_JoinedRounds [.i m,.sl 0 (L.map eR),.i a] = some (.tup [.fr 1 (G.map eN),.b v],[])) (C2 : call lf n_spec_JoinedRounds [.i m,.sl 0 (L.map eR),.i a] = some (.tup [.fr 1 (G.map eN),.b v],[])) : ∃ S1,ex lf IJoinedRounds_18 ⟨[(0,.i (m)),(1,.sl 0 (L.map eR)),(2,.i (a)),(8,.sl 0 (G.map eR)),(9,.b v),(11,.sl 0 ((mrkR 1 G).map eR)),(14,.i (1 + (totR G : Int)))],[]⟩ = some (.normal,S1) ∧ ∀ g ∈ ([(16,.sl 1 (G.map eN)),(17,.b v)] : List (Nat × DV)),made S1 g := by
 have n0 : ¬ z < 0 := by omega
 have A := c_toIntSS L (by omega) hR
 have Q := c_eqIntSS_self L (by omega) hR
 have Q1 := c_eqIntSS_self G (by omega) hRG
 have HH := c_heldIntSS G 1 (by omega) (by omega) (by omega) (by omega)
 have n3 : ¬ 1 + (totR L : Int) < 0 := by omega
 have n4 : ¬ 1 + (totR G : Int) < 0 := by omega
 have tk : List.take L.length (L.map eN) = L.map eN := List.take_of_length_le (by simp)
 have tk2 : List.take G.length (G.map eN) = G.map eN := List.take_of_length_le (by simp)
 simp (config := { maxSteps := 2000000 }) [IJoinedRounds_18,made,settle,elems,wholeP,DV.allNew,DV.adopt,adoptP,newP,S,n0,A,Q,Q1,HH,n3,n4,tk,tk2,C1,C2]
set_option maxHeartbeats 4000000 in
theorem sJoinedRounds_19 {m a z : Int} {v : Bool} {L G : List (List Int)} (z0 : 0 ≤ z) (hL : L.length ≤ 1048576) (hT : totR L ≤ 1048576) (hR : ∀ r ∈ L,(r.length : Int) ≤ 1048576) (hG : G.length ≤ 100) (hTG : totR G ≤ 100) (hRG : ∀ r ∈ G,(r.length : Int) ≤ 1048576) (S : call lf n_laws_szIntSS [.sl 0 (L.map eR),.i 1048576] = some (.i z,[])) (C1 : call lf n_impl_JoinedRounds [.i m,.sl 0 (L.map eR),.i a] = some (.tup [.fr 1 (G.map eN),.b v],[])) (C2 : call lf n_spec_JoinedRounds [.i m,.sl 0 (L.map eR),.i a] = some (.tup [.fr 1 (G.map eN),.b v],[])) : ∃ S1,ex lf IJoinedRounds_19 ⟨[(8,.sl 0 (G.map eR)),(9,.b v),(11,.sl 0 ((mrkR 1 G).map eR)),(14,.i (1 + (totR G : Int))),(16,.sl 0 (G.map eR)),(17,.b v)],[]⟩ = some (.normal,S1) ∧ ∀ g ∈ ([] : List (Nat × DV)),made S1 g := by
 have n0 : ¬ z < 0 := by omega
 have A := c_toIntSS L (by omega) hR
 have Q := c_eqIntSS_self L (by omega) hR
 have Q1 := c_eqIntSS_self G (by omega) hRG
 have HH := c_heldIntSS G 1 (by omega) (by omega) (by omega) (by omega)
 have n3 : ¬ 1 + (totR L : Int) < 0 := by omega
 have n4 : ¬ 1 + (totR G : Int) < 0 := by omega
 have tk : List.take L.length (L.map eN) = L.map eN := List.take_of_length_le (by simp)
 have tk2 : List.take G.length (G.map eN) = G.map eN := List.take_of_length_le (by simp)
 simp (config := { maxSteps := 2000000 }) [IJoinedRounds_19,made,settle,elems,wholeP,DV.allNew,DV.adopt,adoptP,newP,S,n0,A,Q,Q1,HH,n3,n4,tk,tk2,C1,C2]
set_option maxHeartbeats 4000000 in
theorem sJoinedRounds_20 {m a z : Int} {v : Bool} {L G : List (List Int)} (z0 : 0 ≤ z) (hL : L.length ≤ 1048576) (hT : totR L ≤ 1048576) (hR : ∀ r ∈ L,(r.length : Int) ≤ 1048576) (hG : G.length ≤ 100) (hTG : totR G ≤ 100) (hRG : ∀ r ∈ G,(r.length : Int) ≤ 1048576) (S : call lf n_laws_szIntSS [.sl 0 (L.map eR),.i 1048576] = some (.i z,[])) (C1 : call lf n_impl_JoinedRounds [.i m,.sl 0 (L.map eR),.i a] = some (.tup [.fr 1 (G.map eN),.b v],[])) (C2 : call lf n_spec_JoinedRounds [.i m,.sl 0 (L.map eR),.i a] = some (.tup [.fr 1 (G.map eN),.b v],[])) : ∃ S1,ex lf IJoinedRounds_20 ⟨[(11,.sl 0 ((mrkR 1 G).map eR)),(14,.i (1 + (totR G : Int)))],[]⟩ = some (.normal,S1) ∧ ∀ g ∈ ([(15,.i (1))] : List (Nat × DV)),made S1 g := by
 have n0 : ¬ z < 0 := by omega
 have A := c_toIntSS L (by omega) hR
 have Q := c_eqIntSS_self L (by omega) hR
 have Q1 := c_eqIntSS_self G (by omega) hRG
 have HH := c_heldIntSS G 1 (by omega) (by omega) (by omega) (by omega)
 have n3 : ¬ 1 + (totR L : Int) < 0 := by omega
 have n4 : ¬ 1 + (totR G : Int) < 0 := by omega
 have tk : List.take L.length (L.map eN) = L.map eN := List.take_of_length_le (by simp)
 have tk2 : List.take G.length (G.map eN) = G.map eN := List.take_of_length_le (by simp)
 simp (config := { maxSteps := 2000000 }) [IJoinedRounds_20,made,settle,elems,wholeP,DV.allNew,DV.adopt,adoptP,newP,S,n0,A,Q,Q1,HH,n3,n4,tk,tk2,C1,C2]
set_option maxHeartbeats 4000000 in
theorem sJoinedRounds_21 {m a z : Int} {v : Bool} {L G : List (List Int)} (z0 : 0 ≤ z) (hL : L.length ≤ 1048576) (hT : totR L ≤ 1048576) (hR : ∀ r ∈ L,(r.length : Int) ≤ 1048576) (hG : G.length ≤ 100) (hTG : totR G ≤ 100) (hRG : ∀ r ∈ G,(r.length : Int) ≤ 1048576) (S : call lf n_laws_szIntSS [.sl 0 (L.map eR),.i 1048576] = some (.i z,[])) (C1 : call lf n_impl_JoinedRounds [.i m,.sl 0 (L.map eR),.i a] = some (.tup [.fr 1 (G.map eN),.b v],[])) (C2 : call lf n_spec_JoinedRounds [.i m,.sl 0 (L.map eR),.i a] = some (.tup [.fr 1 (G.map eN),.b v],[])) : ∃ S1,ex lf IJoinedRounds_21 ⟨[(11,.sl 0 ((mrkR 1 G).map eR)),(14,.i (1 + (totR G : Int))),(15,.i (1))],[]⟩ = some (.normal,S1) ∧ ∀ g ∈ ([(15,.i (1 + (totR G : Int)))] : List (Nat × DV)),made S1 g := by
 have n0 : ¬ z < 0 := by omega
 have A := c_toIntSS L (by omega) hR
 have Q := c_eqIntSS_self L (by omega) hR
 have Q1 := c_eqIntSS_self G (by omega) hRG
 have HH := c_heldIntSS G 1 (by omega) (by omega) (by omega) (by omega)
 have n3 : ¬ 1 + (totR L : Int) < 0 := by omega
 have n4 : ¬ 1 + (totR G : Int) < 0 := by omega
 have tk : List.take L.length (L.map eN) = L.map eN := List.take_of_length_le (by simp)
 have tk2 : List.take G.length (G.map eN) = G.map eN := List.take_of_length_le (by simp)
 simp (config := { maxSteps := 2000000 }) [IJoinedRounds_21,made,settle,elems,wholeP,DV.allNew,DV.adopt,adoptP,newP,S,n0,A,Q,Q1,HH,n3,n4,tk,tk2,C1,C2]
set_option maxHeartbeats 4000000 in
theorem sJoinedRounds_22 {m a z : Int} {v : Bool} {L G : List (List Int)} (z0 : 0 ≤ z) (hL : L.length ≤ 1048576) (hT : totR L ≤ 1048576) (hR : ∀ r ∈ L,(r.length : Int) ≤ 1048576) (hG : G.length ≤ 100) (hTG : totR G ≤ 100) (hRG : ∀ r ∈ G,(r.length : Int) ≤ 1048576) (S : call lf n_laws_szIntSS [.sl 0 (L.map eR),.i 1048576] = some (.i z,[])) (C1 : call lf n_impl_JoinedRounds [.i m,.sl 0 (L.map eR),.i a] = some (.tup [.fr 1 (G.map eN),.b v],[])) (C2 : call lf n_spec_JoinedRounds [.i m,.sl 0 (L.map eR),.i a] = some (.tup [.fr 1 (G.map eN),.b v],[])) : ∃ S1,ex lf IJoinedRounds_22 ⟨[(14,.i (1 + (totR G : Int))),(15,.i (1 + (totR G : Int)))],[]⟩ = some (.normal,S1) ∧ ∀ g ∈ ([] : List (Nat × DV)),made S1 g := by
 have n0 : ¬ z < 0 := by omega
 have A := c_toIntSS L (by omega) hR
 have Q := c_eqIntSS_self L (by omega) hR
 have Q1 := c_eqIntSS_self G (by omega) hRG
 have HH := c_heldIntSS G 1 (by omega) (by omega) (by omega) (by omega)
 have n3 : ¬ 1 + (totR L : Int) < 0 := by omega
 have n4 : ¬ 1 + (totR G : Int) < 0 := by omega
 have tk : List.take L.length (L.map eN) = L.map eN := List.take_of_length_le (by simp)
 have tk2 : List.take G.length (G.map eN) = G.map eN := List.take_of_length_le (by simp)
 simp (config := { maxSteps := 2000000 }) [IJoinedRounds_22,made,settle,elems,wholeP,DV.allNew,DV.adopt,adoptP,newP,S,n0,A,Q,Q1,HH,n3,n4,tk,tk2,C1,C2]
set_option maxHeartbeats 4000000 in
theorem sJoinedRounds_23 {m a z : Int} {v : Bool} {L G : List (List Int)} (z0 : 0 ≤ z) (hL : L.length ≤ 1048576) (hT : totR L ≤ 1048576) (hR : ∀ r ∈ L,(r.length : Int) ≤ 1048576) (hG : G.length ≤ 100) (hTG : totR G ≤ 100) (hRG : ∀ r ∈ G,(r.length : Int) ≤ 1048576) (S : call lf n_laws_szIntSS [.sl 0 (L.map eR),.i 1048576] = some (.i z,[])) (C1 : call lf n_impl_JoinedRounds [.i m,.sl 0 (L.map eR),.i a] = some (.tup [.fr 1 (G.map eN),.b v],[])) (C2 : call lf n_spec_JoinedRounds [.i m,.sl 0 (L.map eR),.i a] = some (.tup [.fr 1 (G.map eN),.b v],[])) : ∃ S1,ex lf IJoinedRounds_23 ⟨[(14,.i (1 + (totR G : Int))),(15,.i (1 + (totR G : Int)))],[]⟩ = some (.normal,S1) ∧ ∀ g ∈ ([] : List (Nat × DV)),made S1 g := by
 have n0 : ¬ z < 0 := by omega
 have A := c_toIntSS L (by omega) hR
 have Q := c_eqIntSS_self L (by omega) hR
 have Q1 := c_eqIntSS_self G (by omega) hRG
 have HH := c_heldIntSS G 1 (by omega) (by omega) (by omega) (by omega)
 have n3 : ¬ 1 + (totR L : Int) < 0 := by omega
 have n4 : ¬ 1 + (totR G : Int) < 0 := by omega
 have tk : List.take L.length (L.map eN) = L.map eN := List.take_of_length_le (by simp)
 have tk2 : List.take G.length (G.map eN) = G.map eN := List.take_of_length_le (by simp)
 simp (config := { maxSteps := 2000000 }) [IJoinedRounds_23,made,settle,elems,wholeP,DV.allNew,DV.adopt,adoptP,newP,S,n0,A,Q,Q1,HH,n3,n4,tk,tk2,C1,C2]
set_option maxHeartbeats 4000000 in
theorem sJoinedRounds_24 {m a z : Int} {v : Bool} {L G : List (List Int)} (z0 : 0 ≤ z) (hL : L.length ≤ 1048576) (hT : totR L ≤ 1048576) (hR : ∀ r ∈ L,(r.length : Int) ≤ 1048576) (hG : G.length ≤ 100) (hTG : totR G ≤ 100) (hRG : ∀ r ∈ G,(r.length : Int) ≤ 1048576) (S : call lf n_laws_szIntSS [.sl 0 (L.map eR),.i 1048576] = some (.i z,[])) (C1 : call lf n_impl_JoinedRounds [.i m,.sl 0 (L.map eR),.i a] = some (.tup [.fr 1 (G.map eN),.b v],[])) (C2 : call lf n_spec_JoinedRounds [.i m,.sl 0 (L.map eR),.i a] = some (.tup [.fr 1 (G.map eN),.b v],[])) : ∃ S1,ex lf IJoinedRounds_24 ⟨[],[]⟩ = some (.normal,S1) ∧ ∀ g ∈ ([(6,.b true)] : List (Nat × DV)),made S1 g := by
 have n0 : ¬ z < 0 := by omega
 have A := c_toIntSS L (by omega) hR
 have Q := c_eqIntSS_self L (by omega) hR
 have Q1 := c_eqIntSS_self G (by omega) hRG
 have HH := c_heldIntSS G 1 (by omega) (by omega) (by omega) (by omega)
 have n3 : ¬ 1 + (totR L : Int) < 0 := by omega
 have n4 : ¬ 1 + (totR G : Int) < 0 := by omega
 have tk : List.take L.length (L.map eN) = L.map eN := List.take_of_length_le (by simp)
 have tk2 : List.take G.length (G.map eN) = G.map eN := List.take_of_length_le (by simp)
 simp (config := { maxSteps := 2000000 }) [IJoinedRounds_24,made,settle,elems,wholeP,DV.allNew,DV.adopt,adoptP,newP,S,n0,A,Q,Q1,HH,n3,n4,tk,tk2,C1,C2]
section
variable {P : Go.Program} {dc : Array Go.Oper → Bool}
set_option maxHeartbeats 4000000 in
theorem law_FnExactJoinedRounds (hok : ∀ f F,lf f = some F → OkF P dc f F) (hD : ∀ Γ,FnSound P Γ → DrawOk P Γ dc) (hB : BackSound P) (m : Int) (_ : -9223372036854775808 ≤ m ∧ m ≤ 9223372036854775807) (L : List (List Int)) (hL0 : L.length ≤ Go.maxLen ∧ ∀ r ∈ L,r.length ≤ Go.maxLen) (a : Int) (_ : -9223372036854775808 ≤ a ∧ a ≤ 9223372036854775807) {w : Go.World} (hg : GlobC ⟨w,fun _ => True,[]⟩) {v1 : Go.Value} (h1 : CR w w.heap.size (okb (fun _ => True) w.heap.size fun _ => none) (rss L) v1) :
  Go.Calls P n_laws_FnExactJoinedRounds #[.int .i64 m,v1,.int .i64 a] w fun e w' => e = .returned (.bool true) ∧ Go.RowKit.Below w.heap.size w w' := by
 have hS : ∀ n,CallOk P (callN lf n) := fun n => callOk_of (callN_sound hok hD hB n)
 rcases c_szIntSS L 1048576 (by omega) hL0.1 hL0.2 with S | ⟨z,z0,z1,zL,zF,S⟩
 ·have C : call lf n_laws_FnExactJoinedRounds [.i m,rss L,.i a] = some (.b true,[]) := by
   show call lf n_laws_FnExactJoinedRounds [.i m,.sl 0 (L.map eR),.i a] = _
   rw [call_k lf n_laws_FnExactJoinedRounds _ (F := F_laws_FnExactJoinedRounds) rfl rfl]
   simp [F_laws_FnExactJoinedRounds,S]
  exact law_calls (call_sound hok hD hB C) (entry_top hg rfl (by simp [rs2,rss,refW]) (fun j d u hd hu => by
   match j,hd,hu with
   | 0,hd,hu => simp at hd hu; subst hd; subst hu; exact .cr _ _ (.i _)
   | 1,hd,hu => simp at hd hu; subst hd; subst hu; exact .cr _ _ h1
   | 2,hd,hu => simp at hd hu; subst hd; subst hu; exact .cr _ _ (.i _)
   | j + 3,hd,hu => simp at hd))
 have hT : totR L ≤ 1048576 := by rw [totR_flat]; omega
 have hL : L.length ≤ 1048576 := by omega
 have hR : ∀ r ∈ L,(r.length : Int) ≤ 1048576 := fun r hr => by
  obtain ⟨i,hi⟩ := List.mem_iff_getElem?.1 hr
  have := totR_mem L i r hi
  omega
 have C1 := c_impl_JoinedRounds m L a (by omega) (by omega)
 have C2 := c_spec_JoinedRounds m L a (by omega) (by omega)
 obtain ⟨hG,hTG,hDst⟩ := jdL_dst m L a
 generalize (jdL m L a).map ni = G at *
 generalize jdO m L a = v at *
 have hRG : ∀ r ∈ G,(r.length : Int) ≤ 1048576 := fun r hr => by
  obtain ⟨i,hi⟩ := List.mem_iff_getElem?.1 hr
  have := totR_mem G i r hi
  omega
 refine law_start hok (F := F_laws_FnExactJoinedRounds) rfl rfl rfl rfl hg (fs := [⟨0,w.heap.size,fun b => b < w.heap.size,.i (m)⟩,⟨1,w.heap.size,fun b => b < w.heap.size,rss L⟩,⟨2,w.heap.size,fun b => b < w.heap.size,.i (a)⟩]) (by
  intro f hf
  simp only [List.mem_cons,List.not_mem_nil,or_false] at hf
  rcases hf with rfl | rfl | rfl
  ·exact ⟨.inl (.i _),by show (0 : Nat) < 3; omega⟩
  ·exact ⟨in_fact h1 (by simp [rss,DV.allOld,al_eR]),by show (1 : Nat) < 3; omega⟩
  ·exact ⟨.inl (.i _),by show (2 : Nat) < 3; omega⟩) (fun N code a0 hv hc hs0 => ?_)
 rw [body_JoinedRounds] at hv
 refine hs0.base hS (l1 := IJoinedRounds_0) (l2 := RJoinedRounds_1) hv hc rfl [⟨0,w.heap.size,fun b => b < w.heap.size,.i (m)⟩,⟨1,w.heap.size,fun b => b < w.heap.size,rss L⟩,⟨2,w.heap.size,fun b => b < w.heap.size,.i (a)⟩] (by
  intro f hf
  simp only [List.mem_cons,List.not_mem_nil,or_false] at hf
  rcases hf with rfl | rfl | rfl <;> exact ⟨by simp,by dsimp only; decide⟩) [] (by
  simp only [envF,List.map_cons,List.map_nil,DV.lend,rs2,rss,lend_e2,lend_eN,lend_eR,lend_e3,lend_ints_]
  exact sJoinedRounds_0 z0 hL hT hR hG hTG hRG S C1 C2) (fun c1 a1 w1 hv1 hc1 hz1 hs1 => ?_)
 replace hs1 := hs1.sub (gs := [⟨0,w.heap.size,fun b => b < w.heap.size,.i (m)⟩,⟨1,w.heap.size,fun b => b < w.heap.size,rss L⟩,⟨2,w.heap.size,fun b => b < w.heap.size,.i (a)⟩]) (by
  intro g hg
  refine hs1.so g ?_
  simp only [List.cons_append,List.nil_append,List.map_cons,List.map_nil,newF]
  simp only [List.mem_cons,List.not_mem_nil,or_false] at hg ⊢
  rcases hg with rfl | rfl | rfl <;> simp)
 refine hs1.base hS (l1 := IJoinedRounds_1) (l2 := RJoinedRounds_2) hv1 hc1 rfl [⟨0,w.heap.size,fun b => b < w.heap.size,.i (m)⟩,⟨1,w.heap.size,fun b => b < w.heap.size,rss L⟩,⟨2,w.heap.size,fun b => b < w.heap.size,.i (a)⟩] (by
  intro f hf
  simp only [List.mem_cons,List.not_mem_nil,or_false] at hf
  rcases hf with rfl | rfl | rfl <;> exact ⟨by simp,by dsimp only; decide⟩) [(7,.i (1048576))] (by
  simp only [envF,List.map_cons,List.map_nil,DV.lend,rs2,rss,lend_e2,lend_eN,lend_eR,lend_e3,lend_ints_]
  exact sJoinedRounds_1 z0 hL hT hR hG hTG hRG S C1 C2) (fun c2 a2 w2 hv2 hc2 hz2 hs2 => ?_)
 replace hs2 := hs2.sub (gs := [⟨0,w.heap.size,fun b => b < w.heap.size,.i (m)⟩,⟨1,w.heap.size,fun b => b < w.heap.size,rss L⟩,⟨2,w.heap.size,fun b => b < w.heap.size,.i (a)⟩,⟨7,w1.heap.size,fun b => w1.heap.size ≤ b ∧ b < w2.heap.size,.i (1048576)⟩]) (by
  intro g hg
  refine hs2.so g ?_
  simp only [List.cons_append,List.nil_append,List.map_cons,List.map_nil,newF]
  simp only [List.mem_cons,List.not_mem_nil,or_false] at hg ⊢
  rcases hg with rfl | rfl | rfl | rfl <;> simp)
 refine hs2.base hS (l1 := IJoinedRounds_2) (l2 := RJoinedRounds_3) hv2 hc2 rfl [⟨0,w.heap.size,fun b => b < w.heap.size,.i (m)⟩,⟨1,w.heap.size,fun b => b < w.heap.size,rss L⟩,⟨2,w.heap.size,fun b => b < w.heap.size,.i (a)⟩] (by
  intro f hf
  simp only [List.mem_cons,List.not_mem_nil,or_false] at hf
  rcases hf with rfl | rfl | rfl <;> exact ⟨by simp,by dsimp only; decide⟩) [(7,.i (z))] (by
  simp only [envF,List.map_cons,List.map_nil,DV.lend,rs2,rss,lend_e2,lend_eN,lend_eR,lend_e3,lend_ints_]
  exact sJoinedRounds_2 z0 hL hT hR hG hTG hRG S C1 C2) (fun c3 a3 w3 hv3 hc3 hz3 hs3 => ?_)
 replace hs3 := hs3.sub (gs := [⟨0,w.heap.size,fun b => b < w.heap.size,.i (m)⟩,⟨1,w.heap.size,fun b => b < w.heap.size,rss L⟩,⟨2,w.heap.size,fun b => b < w.heap.size,.i (a)⟩,⟨7,w2.heap.size,fun b => w2.heap.size ≤ b ∧ b < w3.heap.size,.i (z)⟩]) (by
  intro g hg
  refine hs3.so g ?_
  simp only [List.cons_append,List.nil_append,List.map_cons,List.map_nil,newF]
  simp only [List.mem_cons,List.not_mem_nil,or_false] at hg ⊢
  rcases hg with rfl | rfl | rfl | rfl <;> simp)
 refine hs3.base hS (l1 := IJoinedRounds_3) (l2 := RJoinedRounds_4) hv3 hc3 rfl [⟨0,w.heap.size,fun b => b < w.heap.size,.i (m)⟩,⟨1,w.heap.size,fun b => b < w.heap.size,rss L⟩,⟨2,w.heap.size,fun b => b < w.heap.size,.i (a)⟩] (by
  intro f hf
  simp only [List.mem_cons,List.not_mem_nil,or_false] at hf
  rcases hf with rfl | rfl | rfl <;> exact ⟨by simp,by dsimp only; decide⟩) [] (by
  simp only [envF,List.map_cons,List.map_nil,DV.lend,rs2,rss,lend_e2,lend_eN,lend_eR,lend_e3,lend_ints_]
  exact sJoinedRounds_3 z0 hL hT hR hG hTG hRG S C1 C2) (fun c4 a4 w4 hv4 hc4 hz4 hs4 => ?_)
 replace hs4 := hs4.sub (gs := [⟨0,w.heap.size,fun b => b < w.heap.size,.i (m)⟩,⟨1,w.heap.size,fun b => b < w.heap.size,rss L⟩,⟨2,w.heap.size,fun b => b < w.heap.size,.i (a)⟩]) (by
  intro g hg
  refine hs4.so g ?_
  simp only [List.cons_append,List.nil_append,List.map_cons,List.map_nil,newF]
  simp only [List.mem_cons,List.not_mem_nil,or_false] at hg ⊢
  rcases hg with rfl | rfl | rfl <;> simp)
 refine hs4.base hS (l1 := IJoinedRounds_4) (l2 := RJoinedRounds_5) hv4 hc4 rfl [⟨0,w.heap.size,fun b => b < w.heap.size,.i (m)⟩,⟨1,w.heap.size,fun b => b < w.heap.size,rss L⟩,⟨2,w.heap.size,fun b => b < w.heap.size,.i (a)⟩] (by
  intro f hf
  simp only [List.mem_cons,List.not_mem_nil,or_false] at hf
  rcases hf with rfl | rfl | rfl <;> exact ⟨by simp,by dsimp only; decide⟩) [(8,.sl 1 (G.map eN)),(9,.b v)] (by
  simp only [envF,List.map_cons,List.map_nil,DV.lend,rs2,rss,lend_e2,lend_eN,lend_eR,lend_e3,lend_ints_]
  exact sJoinedRounds_4 z0 hL hT hR hG hTG hRG S C1 C2) (fun c5 a5 w5 hv5 hc5 hz5 hs5 => ?_)
 replace hs5 := hs5.sub (gs := [⟨0,w.heap.size,fun b => b < w.heap.size,.i (m)⟩,⟨1,w.heap.size,fun b => b < w.heap.size,rss L⟩,⟨2,w.heap.size,fun b => b < w.heap.size,.i (a)⟩,⟨8,w4.heap.size,fun b => w4.heap.size ≤ b ∧ b < w5.heap.size,.sl 1 (G.map eN)⟩,⟨9,w4.heap.size,fun b => w4.heap.size ≤ b ∧ b < w5.heap.size,.b v⟩]) (by
  intro g hg
  refine hs5.so g ?_
  simp only [List.cons_append,List.nil_append,List.map_cons,List.map_nil,newF]
  simp only [List.mem_cons,List.not_mem_nil,or_false] at hg ⊢
  rcases hg with rfl | rfl | rfl | rfl | rfl <;> simp)
 refine hs5.base hS (l1 := IJoinedRounds_5) (l2 := RJoinedRounds_6) hv5 hc5 rfl [⟨0,w.heap.size,fun b => b < w.heap.size,.i (m)⟩,⟨1,w.heap.size,fun b => b < w.heap.size,rss L⟩,⟨2,w.heap.size,fun b => b < w.heap.size,.i (a)⟩,⟨8,w4.heap.size,fun b => w4.heap.size ≤ b ∧ b < w5.heap.size,.sl 1 (G.map eN)⟩,⟨9,w4.heap.size,fun b => w4.heap.size ≤ b ∧ b < w5.heap.size,.b v⟩] (by
  intro f hf
  simp only [List.mem_cons,List.not_mem_nil,or_false] at hf
  rcases hf with rfl | rfl | rfl | rfl | rfl <;> exact ⟨by simp,by dsimp only; decide⟩) [(10,.sl 1 (L.map eN))] (by
  simp only [envF,List.map_cons,List.map_nil,DV.lend,rs2,rss,lend_e2,lend_eN,lend_eR,lend_e3,lend_ints_]
  exact sJoinedRounds_5 z0 hL hT hR hG hTG hRG S C1 C2) (fun c6 a6 w6 hv6 hc6 hz6 hs6 => ?_)
 replace hs6 := hs6.sub (gs := [⟨0,w.heap.size,fun b => b < w.heap.size,.i (m)⟩,⟨1,w.heap.size,fun b => b < w.heap.size,rss L⟩,⟨2,w.heap.size,fun b => b < w.heap.size,.i (a)⟩,⟨8,w4.heap.size,fun b => w4.heap.size ≤ b ∧ b < w5.heap.size,.sl 1 (G.map eN)⟩,⟨9,w4.heap.size,fun b => w4.heap.size ≤ b ∧ b < w5.heap.size,.b v⟩,⟨10,w5.heap.size,fun b => w5.heap.size ≤ b ∧ b < w6.heap.size,.sl 1 (L.map eN)⟩]) (by
  intro g hg
  refine hs6.so g ?_
  simp only [List.cons_append,List.nil_append,List.map_cons,List.map_nil,newF]
  simp only [List.mem_cons,List.not_mem_nil,or_false] at hg ⊢
  rcases hg with rfl | rfl | rfl | rfl | rfl | rfl <;> simp)
 refine hs6.base hS (l1 := IJoinedRounds_6) (l2 := RJoinedRounds_7) hv6 hc6 rfl [⟨0,w.heap.size,fun b => b < w.heap.size,.i (m)⟩,⟨1,w.heap.size,fun b => b < w.heap.size,rss L⟩,⟨2,w.heap.size,fun b => b < w.heap.size,.i (a)⟩,⟨8,w4.heap.size,fun b => w4.heap.size ≤ b ∧ b < w5.heap.size,.sl 1 (G.map eN)⟩,⟨9,w4.heap.size,fun b => w4.heap.size ≤ b ∧ b < w5.heap.size,.b v⟩,⟨10,w5.heap.size,fun b => w5.heap.size ≤ b ∧ b < w6.heap.size,.sl 1 (L.map eN)⟩] (by
  intro f hf
  simp only [List.mem_cons,List.not_mem_nil,or_false] at hf
  rcases hf with rfl | rfl | rfl | rfl | rfl | rfl <;> exact ⟨by simp,by dsimp only; decide⟩) [(11,.sl 1 (G.map eN)),(12,.b v)] (by
  simp only [envF,List.map_cons,List.map_nil,DV.lend,rs2,rss,lend_e2,lend_eN,lend_eR,lend_e3,lend_ints_]
  exact sJoinedRounds_6 z0 hL hT hR hG hTG hRG S C1 C2) (fun c7 a7 w7 hv7 hc7 hz7 hs7 => ?_)
 replace hs7 := hs7.sub (gs := [⟨0,w.heap.size,fun b => b < w.heap.size,.i (m)⟩,⟨1,w.heap.size,fun b => b < w.heap.size,rss L⟩,⟨2,w.heap.size,fun b => b < w.heap.size,.i (a)⟩,⟨8,w4.heap.size,fun b => w4.heap.size ≤ b ∧ b < w5.heap.size,.sl 1 (G.map eN)⟩,⟨9,w4.heap.size,fun b => w4.heap.size ≤ b ∧ b < w5.heap.size,.b v⟩,⟨10,w5.heap.size,fun b => w5.heap.size ≤ b ∧ b < w6.heap.size,.sl 1 (L.map eN)⟩,⟨11,w6.heap.size,fun b => w6.heap.size ≤ b ∧ b < w7.heap.size,.sl 1 (G.map eN)⟩,⟨12,w6.heap.size,fun b => w6.heap.size ≤ b ∧ b < w7.heap.size,.b v⟩]) (by
  intro g hg
  refine hs7.so g ?_
  simp only [List.cons_append,List.nil_append,List.map_cons,List.map_nil,newF]
  simp only [List.mem_cons,List.not_mem_nil,or_false] at hg ⊢
  rcases hg with rfl | rfl | rfl | rfl | rfl | rfl | rfl | rfl <;> simp)
 refine hs7.base hS (l1 := IJoinedRounds_7) (l2 := RJoinedRounds_8) hv7 hc7 rfl [⟨0,w.heap.size,fun b => b < w.heap.size,.i (m)⟩,⟨1,w.heap.size,fun b => b < w.heap.size,rss L⟩,⟨2,w.heap.size,fun b => b < w.heap.size,.i (a)⟩,⟨8,w4.heap.size,fun b => w4.heap.size ≤ b ∧ b < w5.heap.size,.sl 1 (G.map eN)⟩,⟨9,w4.heap.size,fun b => w4.heap.size ≤ b ∧ b < w5.heap.size,.b v⟩,⟨10,w5.heap.size,fun b => w5.heap.size ≤ b ∧ b < w6.heap.size,.sl 1 (L.map eN)⟩,⟨11,w6.heap.size,fun b => w6.heap.size ≤ b ∧ b < w7.heap.size,.sl 1 (G.map eN)⟩,⟨12,w6.heap.size,fun b => w6.heap.size ≤ b ∧ b < w7.heap.size,.b v⟩] (by
  intro f hf
  simp only [List.mem_cons,List.not_mem_nil,or_false] at hf
  rcases hf with rfl | rfl | rfl | rfl | rfl | rfl | rfl | rfl <;> exact ⟨by simp,by dsimp only; decide⟩) [] (by
  simp only [envF,List.map_cons,List.map_nil,DV.lend,rs2,rss,lend_e2,lend_eN,lend_eR,lend_e3,lend_ints_]
  exact sJoinedRounds_7 z0 hL hT hR hG hTG hRG S C1 C2) (fun c8 a8 w8 hv8 hc8 hz8 hs8 => ?_)
 replace hs8 := hs8.sub (gs := [⟨0,w.heap.size,fun b => b < w.heap.size,.i (m)⟩,⟨1,w.heap.size,fun b => b < w.heap.size,rss L⟩,⟨2,w.heap.size,fun b => b < w.heap.size,.i (a)⟩,⟨8,w4.heap.size,fun b => w4.heap.size ≤ b ∧ b < w5.heap.size,.sl 1 (G.map eN)⟩,⟨9,w4.heap.size,fun b => w4.heap.size ≤ b ∧ b < w5.heap.size,.b v⟩,⟨10,w5.heap.size,fun b => w5.heap.size ≤ b ∧ b < w6.heap.size,.sl 1 (L.map eN)⟩,⟨11,w6.heap.size,fun b => w6.heap.size ≤ b ∧ b < w7.heap.size,.sl 1 (G.map eN)⟩,⟨12,w6.heap.size,fun b => w6.heap.size ≤ b ∧ b < w7.heap.size,.b v⟩]) (by
  intro g hg
  refine hs8.so g ?_
  simp only [List.cons_append,List.nil_append,List.map_cons,List.map_nil,newF]
  simp only [List.mem_cons,List.not_mem_nil,or_false] at hg ⊢
  rcases hg with rfl | rfl | rfl | rfl | rfl | rfl | rfl | rfl <;> simp)
 refine hs8.base hS (l1 := IJoinedRounds_8) (l2 := RJoinedRounds_9) hv8 hc8 rfl [⟨0,w.heap.size,fun b => b < w.heap.size,.i (m)⟩,⟨1,w.heap.size,fun b => b < w.heap.size,rss L⟩,⟨2,w.heap.size,fun b => b < w.heap.size,.i (a)⟩,⟨8,w4.heap.size,fun b => w4.heap.size ≤ b ∧ b < w5.heap.size,.sl 1 (G.map eN)⟩,⟨9,w4.heap.size,fun b => w4.heap.size ≤ b ∧ b < w5.heap.size,.b v⟩,⟨10,w5.heap.size,fun b => w5.heap.size ≤ b ∧ b < w6.heap.size,.sl 1 (L.map eN)⟩,⟨11,w6.heap.size,fun b => w6.heap.size ≤ b ∧ b < w7.heap.size,.sl 1 (G.map eN)⟩,⟨12,w6.heap.size,fun b => w6.heap.size ≤ b ∧ b < w7.heap.size,.b v⟩] (by
  intro f hf
  simp only [List.mem_cons,List.not_mem_nil,or_false] at hf
  rcases hf with rfl | rfl | rfl | rfl | rfl | rfl | rfl | rfl <;> exact ⟨by simp,by dsimp only; decide⟩) [] (by
  simp only [envF,List.map_cons,List.map_nil,DV.lend,rs2,rss,lend_e2,lend_eN,lend_eR,lend_e3,lend_ints_]
  exact sJoinedRounds_8 z0 hL hT hR hG hTG hRG S C1 C2) (fun c9 a9 w9 hv9 hc9 hz9 hs9 => ?_)
 replace hs9 := hs9.sub (gs := [⟨0,w.heap.size,fun b => b < w.heap.size,.i (m)⟩,⟨1,w.heap.size,fun b => b < w.heap.size,rss L⟩,⟨2,w.heap.size,fun b => b < w.heap.size,.i (a)⟩,⟨8,w4.heap.size,fun b => w4.heap.size ≤ b ∧ b < w5.heap.size,.sl 1 (G.map eN)⟩,⟨9,w4.heap.size,fun b => w4.heap.size ≤ b ∧ b < w5.heap.size,.b v⟩,⟨10,w5.heap.size,fun b => w5.heap.size ≤ b ∧ b < w6.heap.size,.sl 1 (L.map eN)⟩,⟨11,w6.heap.size,fun b => w6.heap.size ≤ b ∧ b < w7.heap.size,.sl 1 (G.map eN)⟩,⟨12,w6.heap.size,fun b => w6.heap.size ≤ b ∧ b < w7.heap.size,.b v⟩]) (by
  intro g hg
  refine hs9.so g ?_
  simp only [List.cons_append,List.nil_append,List.map_cons,List.map_nil,newF]
  simp only [List.mem_cons,List.not_mem_nil,or_false] at hg ⊢
  rcases hg with rfl | rfl | rfl | rfl | rfl | rfl | rfl | rfl <;> simp)
 refine hs9.base hS (l1 := IJoinedRounds_9) (l2 := RJoinedRounds_10) hv9 hc9 rfl [⟨0,w.heap.size,fun b => b < w.heap.size,.i (m)⟩,⟨1,w.heap.size,fun b => b < w.heap.size,rss L⟩,⟨2,w.heap.size,fun b => b < w.heap.size,.i (a)⟩,⟨8,w4.heap.size,fun b => w4.heap.size ≤ b ∧ b < w5.heap.size,.sl 1 (G.map eN)⟩,⟨9,w4.heap.size,fun b => w4.heap.size ≤ b ∧ b < w5.heap.size,.b v⟩,⟨10,w5.heap.size,fun b => w5.heap.size ≤ b ∧ b < w6.heap.size,.sl 1 (L.map eN)⟩,⟨11,w6.heap.size,fun b => w6.heap.size ≤ b ∧ b < w7.heap.size,.sl 1 (G.map eN)⟩,⟨12,w6.heap.size,fun b => w6.heap.size ≤ b ∧ b < w7.heap.size,.b v⟩] (by
  intro f hf
  simp only [List.mem_cons,List.not_mem_nil,or_false] at hf
  rcases hf with rfl | rfl | rfl | rfl | rfl | rfl | rfl | rfl <;> exact ⟨by simp,by dsimp only; decide⟩) [(13,.i (1))] (by
  simp only [envF,List.map_cons,List.map_nil,DV.lend,rs2,rss,lend_e2,lend_eN,lend_eR,lend_e3,lend_ints_]
  exact sJoinedRounds_9 z0 hL hT hR hG hTG hRG S C1 C2) (fun c10 a10 w10 hv10 hc10 hz10 hs10 => ?_)
 replace hs10 := hs10.sub (gs := [⟨0,w.heap.size,fun b => b < w.heap.size,.i (m)⟩,⟨1,w.heap.size,fun b => b < w.heap.size,rss L⟩,⟨2,w.heap.size,fun b => b < w.heap.size,.i (a)⟩,⟨8,w4.heap.size,fun b => w4.heap.size ≤ b ∧ b < w5.heap.size,.sl 1 (G.map eN)⟩,⟨9,w4.heap.size,fun b => w4.heap.size ≤ b ∧ b < w5.heap.size,.b v⟩,⟨10,w5.heap.size,fun b => w5.heap.size ≤ b ∧ b < w6.heap.size,.sl 1 (L.map eN)⟩,⟨11,w6.heap.size,fun b => w6.heap.size ≤ b ∧ b < w7.heap.size,.sl 1 (G.map eN)⟩,⟨12,w6.heap.size,fun b => w6.heap.size ≤ b ∧ b < w7.heap.size,.b v⟩,⟨13,w9.heap.size,fun b => w9.heap.size ≤ b ∧ b < w10.heap.size,.i (1)⟩]) (by
  intro g hg
  refine hs10.so g ?_
  simp only [List.cons_append,List.nil_append,List.map_cons,List.map_nil,newF]
  simp only [List.mem_cons,List.not_mem_nil,or_false] at hg ⊢
  rcases hg with rfl | rfl | rfl | rfl | rfl | rfl | rfl | rfl | rfl <;> simp)
 refine hs10.markS hv10 hc10 (x := 10) (x2 := 54) (k := 13) (k2 := 55) (r := 56) (l2 := RJoinedRounds_11) (List.mem_of_getElem? (i := 5) rfl) (List.mem_of_getElem? (i := 8) rfl) (rows_markIntSS hok hD hB L 1 (by omega) (by omega) (by omega) hT) (by omega) (fun b h => h.1) (by decide) [⟨0,w.heap.size,fun b => b < w.heap.size,.i (m)⟩,⟨1,w.heap.size,fun b => b < w.heap.size,rss L⟩,⟨2,w.heap.size,fun b => b < w.heap.size,.i (a)⟩,⟨8,w4.heap.size,fun b => w4.heap.size ≤ b ∧ b < w5.heap.size,.sl 1 (G.map eN)⟩,⟨9,w4.heap.size,fun b => w4.heap.size ≤ b ∧ b < w5.heap.size,.b v⟩,⟨11,w6.heap.size,fun b => w6.heap.size ≤ b ∧ b < w7.heap.size,.sl 1 (G.map eN)⟩,⟨12,w6.heap.size,fun b => w6.heap.size ≤ b ∧ b < w7.heap.size,.b v⟩] (by
  intro g hg
  simp only [List.mem_cons,List.not_mem_nil,or_false] at hg
  rcases hg with rfl | rfl | rfl | rfl | rfl | rfl | rfl <;> exact ⟨by simp,by dsimp only; decide,by dsimp only; decide,by dsimp only; decide,by dsimp only; decide⟩) (by
  intro g hg b h1 h2
  simp only [List.mem_cons,List.not_mem_nil,or_false] at hg
  rcases hg with rfl | rfl | rfl | rfl | rfl | rfl | rfl <;> simp only at h1 h2 <;> omega) (fun c11 a11 w11 d11 hv11 hc11 hz11 hR11 hs11 => ?_)
 have hs11 := hs11.sub (gs := [⟨13,w9.heap.size,fun b => w9.heap.size ≤ b ∧ b < w10.heap.size,.i (1 + (totR L : Int))⟩,⟨0,w.heap.size,fun b => b < w.heap.size,.i (m)⟩,⟨1,w.heap.size,fun b => b < w.heap.size,rss L⟩,⟨2,w.heap.size,fun b => b < w.heap.size,.i (a)⟩,⟨8,w4.heap.size,fun b => w4.heap.size ≤ b ∧ b < w5.heap.size,.sl 1 (G.map eN)⟩,⟨9,w4.heap.size,fun b => w4.heap.size ≤ b ∧ b < w5.heap.size,.b v⟩,⟨11,w6.heap.size,fun b => w6.heap.size ≤ b ∧ b < w7.heap.size,.sl 1 (G.map eN)⟩,⟨12,w6.heap.size,fun b => w6.heap.size ≤ b ∧ b < w7.heap.size,.b v⟩]) (fun g hg => hs11.so g (List.mem_cons_of_mem _ hg))
 replace hs11 := hs11.sub (gs := [⟨0,w.heap.size,fun b => b < w.heap.size,.i (m)⟩,⟨1,w.heap.size,fun b => b < w.heap.size,rss L⟩,⟨2,w.heap.size,fun b => b < w.heap.size,.i (a)⟩,⟨8,w4.heap.size,fun b => w4.heap.size ≤ b ∧ b < w5.heap.size,.sl 1 (G.map eN)⟩,⟨9,w4.heap.size,fun b => w4.heap.size ≤ b ∧ b < w5.heap.size,.b v⟩,⟨11,w6.heap.size,fun b => w6.heap.size ≤ b ∧ b < w7.heap.size,.sl 1 (G.map eN)⟩,⟨12,w6.heap.size,fun b => w6.heap.size ≤ b ∧ b < w7.heap.size,.b v⟩,⟨13,w9.heap.size,fun b => w9.heap.size ≤ b ∧ b < w10.heap.size,.i (1 + (totR L : Int))⟩]) (by
  intro g hg
  refine hs11.so g ?_
  simp only [List.mem_cons,List.not_mem_nil,or_false] at hg ⊢
  rcases hg with rfl | rfl | rfl | rfl | rfl | rfl | rfl | rfl <;> simp)
 refine hs11.base hS (l1 := IJoinedRounds_11) (l2 := RJoinedRounds_12) hv11 hc11 rfl [⟨0,w.heap.size,fun b => b < w.heap.size,.i (m)⟩,⟨1,w.heap.size,fun b => b < w.heap.size,rss L⟩,⟨2,w.heap.size,fun b => b < w.heap.size,.i (a)⟩,⟨8,w4.heap.size,fun b => w4.heap.size ≤ b ∧ b < w5.heap.size,.sl 1 (G.map eN)⟩,⟨9,w4.heap.size,fun b => w4.heap.size ≤ b ∧ b < w5.heap.size,.b v⟩,⟨11,w6.heap.size,fun b => w6.heap.size ≤ b ∧ b < w7.heap.size,.sl 1 (G.map eN)⟩] (by
  intro f hf
  simp only [List.mem_cons,List.not_mem_nil,or_false] at hf
  rcases hf with rfl | rfl | rfl | rfl | rfl | rfl <;> exact ⟨by simp,by dsimp only; decide⟩) [] (by
  simp only [envF,List.map_cons,List.map_nil,DV.lend,rs2,rss,lend_e2,lend_eN,lend_eR,lend_e3,lend_ints_]
  exact sJoinedRounds_11 z0 hL hT hR hG hTG hRG S C1 C2) (fun c12 a12 w12 hv12 hc12 hz12 hs12 => ?_)
 replace hs12 := hs12.sub (gs := [⟨0,w.heap.size,fun b => b < w.heap.size,.i (m)⟩,⟨1,w.heap.size,fun b => b < w.heap.size,rss L⟩,⟨2,w.heap.size,fun b => b < w.heap.size,.i (a)⟩,⟨8,w4.heap.size,fun b => w4.heap.size ≤ b ∧ b < w5.heap.size,.sl 1 (G.map eN)⟩,⟨9,w4.heap.size,fun b => w4.heap.size ≤ b ∧ b < w5.heap.size,.b v⟩,⟨11,w6.heap.size,fun b => w6.heap.size ≤ b ∧ b < w7.heap.size,.sl 1 (G.map eN)⟩]) (by
  intro g hg
  refine hs12.so g ?_
  simp only [List.cons_append,List.nil_append,List.map_cons,List.map_nil,newF]
  simp only [List.mem_cons,List.not_mem_nil,or_false] at hg ⊢
  rcases hg with rfl | rfl | rfl | rfl | rfl | rfl <;> simp)
 refine hs12.base hS (l1 := IJoinedRounds_12) (l2 := RJoinedRounds_13) hv12 hc12 rfl [⟨0,w.heap.size,fun b => b < w.heap.size,.i (m)⟩,⟨1,w.heap.size,fun b => b < w.heap.size,rss L⟩,⟨2,w.heap.size,fun b => b < w.heap.size,.i (a)⟩,⟨8,w4.heap.size,fun b => w4.heap.size ≤ b ∧ b < w5.heap.size,.sl 1 (G.map eN)⟩,⟨9,w4.heap.size,fun b => w4.heap.size ≤ b ∧ b < w5.heap.size,.b v⟩,⟨11,w6.heap.size,fun b => w6.heap.size ≤ b ∧ b < w7.heap.size,.sl 1 (G.map eN)⟩] (by
  intro f hf
  simp only [List.mem_cons,List.not_mem_nil,or_false] at hf
  rcases hf with rfl | rfl | rfl | rfl | rfl | rfl <;> exact ⟨by simp,by dsimp only; decide⟩) [(14,.i (1))] (by
  simp only [envF,List.map_cons,List.map_nil,DV.lend,rs2,rss,lend_e2,lend_eN,lend_eR,lend_e3,lend_ints_]
  exact sJoinedRounds_12 z0 hL hT hR hG hTG hRG S C1 C2) (fun c13 a13 w13 hv13 hc13 hz13 hs13 => ?_)
 replace hs13 := hs13.sub (gs := [⟨0,w.heap.size,fun b => b < w.heap.size,.i (m)⟩,⟨1,w.heap.size,fun b => b < w.heap.size,rss L⟩,⟨2,w.heap.size,fun b => b < w.heap.size,.i (a)⟩,⟨8,w4.heap.size,fun b => w4.heap.size ≤ b ∧ b < w5.heap.size,.sl 1 (G.map eN)⟩,⟨9,w4.heap.size,fun b => w4.heap.size ≤ b ∧ b < w5.heap.size,.b v⟩,⟨11,w6.heap.size,fun b => w6.heap.size ≤ b ∧ b < w7.heap.size,.sl 1 (G.map eN)⟩,⟨14,w12.heap.size,fun b => w12.heap.size ≤ b ∧ b < w13.heap.size,.i (1)⟩]) (by
  intro g hg
  refine hs13.so g ?_
  simp only [List.cons_append,List.nil_append,List.map_cons,List.map_nil,newF]
  simp only [List.mem_cons,List.not_mem_nil,or_false] at hg ⊢
  rcases hg with rfl | rfl | rfl | rfl | rfl | rfl | rfl <;> simp)
 refine hs13.markS hv13 hc13 (x := 11) (x2 := 70) (k := 14) (k2 := 71) (r := 72) (l2 := RJoinedRounds_14) (List.mem_of_getElem? (i := 5) rfl) (List.mem_of_getElem? (i := 6) rfl) (rows_markIntSS hok hD hB G 1 (by omega) (by omega) (by omega) (by omega)) (by omega) (fun b h => h.1) (by decide) [⟨0,w.heap.size,fun b => b < w.heap.size,.i (m)⟩,⟨1,w.heap.size,fun b => b < w.heap.size,rss L⟩,⟨2,w.heap.size,fun b => b < w.heap.size,.i (a)⟩,⟨8,w4.heap.size,fun b => w4.heap.size ≤ b ∧ b < w5.heap.size,.sl 1 (G.map eN)⟩,⟨9,w4.heap.size,fun b => w4.heap.size ≤ b ∧ b < w5.heap.size,.b v⟩] (by
  intro g hg
  simp only [List.mem_cons,List.not_mem_nil,or_false] at hg
  rcases hg with rfl | rfl | rfl | rfl | rfl <;> exact ⟨by simp,by dsimp only; decide,by dsimp only; decide,by dsimp only; decide,by dsimp only; decide⟩) (by
  intro g hg b h1 h2
  simp only [List.mem_cons,List.not_mem_nil,or_false] at hg
  rcases hg with rfl | rfl | rfl | rfl | rfl <;> simp only at h1 h2 <;> omega) (fun c14 a14 w14 d14 hv14 hc14 hz14 hR14 hs14 => ?_)
 obtain ⟨ss,rfl,_,hss⟩ := hR14
 have hss := hss hDst
 subst hss
 rw [show dRs (mrkR 1 G) = DV.sl 1 ((mrkR 1 G).map eN) from rfl] at hs14
 replace hs14 := hs14.sub (gs := [⟨0,w.heap.size,fun b => b < w.heap.size,.i (m)⟩,⟨1,w.heap.size,fun b => b < w.heap.size,rss L⟩,⟨2,w.heap.size,fun b => b < w.heap.size,.i (a)⟩,⟨8,w4.heap.size,fun b => w4.heap.size ≤ b ∧ b < w5.heap.size,.sl 1 (G.map eN)⟩,⟨9,w4.heap.size,fun b => w4.heap.size ≤ b ∧ b < w5.heap.size,.b v⟩,⟨11,w6.heap.size,fun b => w6.heap.size ≤ b ∧ b < w7.heap.size,.sl 1 ((mrkR 1 G).map eN)⟩,⟨14,w12.heap.size,fun b => w12.heap.size ≤ b ∧ b < w13.heap.size,.i (1 + (totR G : Int))⟩]) (by
  intro g hg
  refine hs14.so g ?_
  simp only [List.mem_cons,List.not_mem_nil,or_false] at hg ⊢
  rcases hg with rfl | rfl | rfl | rfl | rfl | rfl | rfl <;> simp)
 refine hs14.base hS (l1 := IJoinedRounds_14) (l2 := RJoinedRounds_15) hv14 hc14 rfl [⟨0,w.heap.size,fun b => b < w.heap.size,.i (m)⟩,⟨1,w.heap.size,fun b => b < w.heap.size,rss L⟩,⟨2,w.heap.size,fun b => b < w.heap.size,.i (a)⟩,⟨8,w4.heap.size,fun b => w4.heap.size ≤ b ∧ b < w5.heap.size,.sl 1 (G.map eN)⟩,⟨9,w4.heap.size,fun b => w4.heap.size ≤ b ∧ b < w5.heap.size,.b v⟩,⟨11,w6.heap.size,fun b => w6.heap.size ≤ b ∧ b < w7.heap.size,.sl 1 ((mrkR 1 G).map eN)⟩,⟨14,w12.heap.size,fun b => w12.heap.size ≤ b ∧ b < w13.heap.size,.i (1 + (totR G : Int))⟩] (by
  intro f hf
  simp only [List.mem_cons,List.not_mem_nil,or_false] at hf
  rcases hf with rfl | rfl | rfl | rfl | rfl | rfl | rfl <;> exact ⟨by simp,by dsimp only; decide⟩) [(15,.i (1))] (by
  simp only [envF,List.map_cons,List.map_nil,DV.lend,rs2,rss,lend_e2,lend_eN,lend_eR,lend_e3,lend_ints_]
  exact sJoinedRounds_14 z0 hL hT hR hG hTG hRG S C1 C2) (fun c15 a15 w15 hv15 hc15 hz15 hs15 => ?_)
 replace hs15 := hs15.sub (gs := [⟨0,w.heap.size,fun b => b < w.heap.size,.i (m)⟩,⟨1,w.heap.size,fun b => b < w.heap.size,rss L⟩,⟨2,w.heap.size,fun b => b < w.heap.size,.i (a)⟩,⟨8,w4.heap.size,fun b => w4.heap.size ≤ b ∧ b < w5.heap.size,.sl 1 (G.map eN)⟩,⟨9,w4.heap.size,fun b => w4.heap.size ≤ b ∧ b < w5.heap.size,.b v⟩,⟨11,w6.heap.size,fun b => w6.heap.size ≤ b ∧ b < w7.heap.size,.sl 1 ((mrkR 1 G).map eN)⟩,⟨14,w12.heap.size,fun b => w12.heap.size ≤ b ∧ b < w13.heap.size,.i (1 + (totR G : Int))⟩,⟨15,w14.heap.size,fun b => w14.heap.size ≤ b ∧ b < w15.heap.size,.i (1)⟩]) (by
  intro g hg
  refine hs15.so g ?_
  simp only [List.cons_append,List.nil_append,List.map_cons,List.map_nil,newF]
  simp only [List.mem_cons,List.not_mem_nil,or_false] at hg ⊢
  rcases hg with rfl | rfl | rfl | rfl | rfl | rfl | rfl | rfl <;> simp)
 refine hs15.base hS (l1 := IJoinedRounds_15) (l2 := RJoinedRounds_16) hv15 hc15 rfl [⟨0,w.heap.size,fun b => b < w.heap.size,.i (m)⟩,⟨1,w.heap.size,fun b => b < w.heap.size,rss L⟩,⟨2,w.heap.size,fun b => b < w.heap.size,.i (a)⟩,⟨8,w4.heap.size,fun b => w4.heap.size ≤ b ∧ b < w5.heap.size,.sl 1 (G.map eN)⟩,⟨9,w4.heap.size,fun b => w4.heap.size ≤ b ∧ b < w5.heap.size,.b v⟩,⟨11,w6.heap.size,fun b => w6.heap.size ≤ b ∧ b < w7.heap.size,.sl 1 ((mrkR 1 G).map eN)⟩,⟨14,w12.heap.size,fun b => w12.heap.size ≤ b ∧ b < w13.heap.size,.i (1 + (totR G : Int))⟩] (by
  intro f hf
  simp only [List.mem_cons,List.not_mem_nil,or_false] at hf
  rcases hf with rfl | rfl | rfl | rfl | rfl | rfl | rfl <;> exact ⟨by simp,by dsimp only; decide⟩) [(15,.i (1 + (totR G : Int)))] (by
  simp only [envF,List.map_cons,List.map_nil,DV.lend,rs2,rss,lend_e2,lend_eN,lend_eR,lend_e3,lend_ints_]
  exact sJoinedRounds_15 z0 hL hT hR hG hTG hRG S C1 C2) (fun c16 a16 w16 hv16 hc16 hz16 hs16 => ?_)
 replace hs16 := hs16.sub (gs := [⟨0,w.heap.size,fun b => b < w.heap.size,.i (m)⟩,⟨1,w.heap.size,fun b => b < w.heap.size,rss L⟩,⟨2,w.heap.size,fun b => b < w.heap.size,.i (a)⟩,⟨8,w4.heap.size,fun b => w4.heap.size ≤ b ∧ b < w5.heap.size,.sl 1 (G.map eN)⟩,⟨9,w4.heap.size,fun b => w4.heap.size ≤ b ∧ b < w5.heap.size,.b v⟩,⟨11,w6.heap.size,fun b => w6.heap.size ≤ b ∧ b < w7.heap.size,.sl 1 ((mrkR 1 G).map eN)⟩,⟨14,w12.heap.size,fun b => w12.heap.size ≤ b ∧ b < w13.heap.size,.i (1 + (totR G : Int))⟩,⟨15,w15.heap.size,fun b => w15.heap.size ≤ b ∧ b < w16.heap.size,.i (1 + (totR G : Int))⟩]) (by
  intro g hg
  refine hs16.so g ?_
  simp only [List.cons_append,List.nil_append,List.map_cons,List.map_nil,newF]
  simp only [List.mem_cons,List.not_mem_nil,or_false] at hg ⊢
  rcases hg with rfl | rfl | rfl | rfl | rfl | rfl | rfl | rfl <;> simp)
 refine hs16.base hS (l1 := IJoinedRounds_16) (l2 := RJoinedRounds_17) hv16 hc16 rfl [⟨0,w.heap.size,fun b => b < w.heap.size,.i (m)⟩,⟨1,w.heap.size,fun b => b < w.heap.size,rss L⟩,⟨2,w.heap.size,fun b => b < w.heap.size,.i (a)⟩,⟨8,w4.heap.size,fun b => w4.heap.size ≤ b ∧ b < w5.heap.size,.sl 1 (G.map eN)⟩,⟨9,w4.heap.size,fun b => w4.heap.size ≤ b ∧ b < w5.heap.size,.b v⟩,⟨11,w6.heap.size,fun b => w6.heap.size ≤ b ∧ b < w7.heap.size,.sl 1 ((mrkR 1 G).map eN)⟩,⟨14,w12.heap.size,fun b => w12.heap.size ≤ b ∧ b < w13.heap.size,.i (1 + (totR G : Int))⟩,⟨15,w15.heap.size,fun b => w15.heap.size ≤ b ∧ b < w16.heap.size,.i (1 + (totR G : Int))⟩] (by
  intro f hf
  simp only [List.mem_cons,List.not_mem_nil,or_false] at hf
  rcases hf with rfl | rfl | rfl | rfl | rfl | rfl | rfl | rfl <;> exact ⟨by simp,by dsimp only; decide⟩) [] (by
  simp only [envF,List.map_cons,List.map_nil,DV.lend,rs2,rss,lend_e2,lend_eN,lend_eR,lend_e3,lend_ints_]
  exact sJoinedRounds_16 z0 hL hT hR hG hTG hRG S C1 C2) (fun c17 a17 w17 hv17 hc17 hz17 hs17 => ?_)
 replace hs17 := hs17.sub (gs := [⟨0,w.heap.size,fun b => b < w.heap.size,.i (m)⟩,⟨1,w.heap.size,fun b => b < w.heap.size,rss L⟩,⟨2,w.heap.size,fun b => b < w.heap.size,.i (a)⟩,⟨8,w4.heap.size,fun b => w4.heap.size ≤ b ∧ b < w5.heap.size,.sl 1 (G.map eN)⟩,⟨9,w4.heap.size,fun b => w4.heap.size ≤ b ∧ b < w5.heap.size,.b v⟩,⟨11,w6.heap.size,fun b => w6.heap.size ≤ b ∧ b < w7.heap.size,.sl 1 ((mrkR 1 G).map eN)⟩,⟨14,w12.heap.size,fun b => w12.heap.size ≤ b ∧ b < w13.heap.size,.i (1 + (totR G : Int))⟩,⟨15,w15.heap.size,fun b => w15.heap.size ≤ b ∧ b < w16.heap.size,.i (1 + (totR G : Int))⟩]) (by
  intro g hg
  refine hs17.so g ?_
  simp only [List.cons_append,List.nil_append,List.map_cons,List.map_nil,newF]
  simp only [List.mem_cons,List.not_mem_nil,or_false] at hg ⊢
  rcases hg with rfl | rfl | rfl | rfl | rfl | rfl | rfl | rfl <;> simp)
 refine hs17.base hS (l1 := IJoinedRounds_17) (l2 := RJoinedRounds_18) hv17 hc17 rfl [⟨0,w.heap.size,fun b => b < w.heap.size,.i (m)⟩,⟨1,w.heap.size,fun b => b < w.heap.size,rss L⟩,⟨2,w.heap.size,fun b => b < w.heap.size,.i (a)⟩,⟨8,w4.heap.size,fun b => w4.heap.size ≤ b ∧ b < w5.heap.size,.sl 1 (G.map eN)⟩,⟨9,w4.heap.size,fun b => w4.heap.size ≤ b ∧ b < w5.heap.size,.b v⟩,⟨11,w6.heap.size,fun b => w6.heap.size ≤ b ∧ b < w7.heap.size,.sl 1 ((mrkR 1 G).map eN)⟩,⟨14,w12.heap.size,fun b => w12.heap.size ≤ b ∧ b < w13.heap.size,.i (1 + (totR G : Int))⟩] (by
  intro f hf
  simp only [List.mem_cons,List.not_mem_nil,or_false] at hf
  rcases hf with rfl | rfl | rfl | rfl | rfl | rfl | rfl <;> exact ⟨by simp,by dsimp only; decide⟩) [] (by
  simp only [envF,List.map_cons,List.map_nil,DV.lend,rs2,rss,lend_e2,lend_eN,lend_eR,lend_e3,lend_ints_]
  exact sJoinedRounds_17 z0 hL hT hR hG hTG hRG S C1 C2) (fun c18 a18 w18 hv18 hc18 hz18 hs18 => ?_)
 replace hs18 := hs18.sub (gs := [⟨0,w.heap.size,fun b => b < w.heap.size,.i (m)⟩,⟨1,w.heap.size,fun b => b < w.heap.size,rss L⟩,⟨2,w.heap.size,fun b => b < w.heap.size,.i (a)⟩,⟨8,w4.heap.size,fun b => w4.heap.size ≤ b ∧ b < w5.heap.size,.sl 1 (G.map eN)⟩,⟨9,w4.heap.size,fun b => w4.heap.size ≤ b ∧ b < w5.heap.size,.b v⟩,⟨11,w6.heap.size,fun b => w6.heap.size ≤ b ∧ b < w7.heap.size,.sl 1 ((mrkR 1 G).map eN)⟩,⟨14,w12.heap.size,fun b => w12.heap.size ≤ b ∧ b < w13.heap.size,.i (1 + (totR G : Int))⟩]) (by
  intro g hg
  refine hs18.so g ?_
  simp only [List.cons_append,List.nil_append,List.map_cons,List.map_nil,newF]
  simp only [List.mem_cons,List.not_mem_nil,or_false] at hg ⊢
  rcases hg with rfl | rfl | rfl | rfl | rfl | rfl | rfl <;> simp)
 refine hs18.base hS (l1 := IJoinedRounds_18) (l2 := RJoinedRounds_19) hv18 hc18 rfl [⟨8,w4.heap.size,fun b => w4.heap.size ≤ b ∧ b < w5.heap.size,.sl 1 (G.map eN)⟩,⟨9,w4.heap.size,fun b => w4.heap.size ≤ b ∧ b < w5.heap.size,.b v⟩,⟨11,w6.heap.size,fun b => w6.heap.size ≤ b ∧ b < w7.heap.size,.sl 1 ((mrkR 1 G).map eN)⟩,⟨14,w12.heap.size,fun b => w12.heap.size ≤ b ∧ b < w13.heap.size,.i (1 + (totR G : Int))⟩] (by
  intro f hf
  simp only [List.mem_cons,List.not_mem_nil,or_false] at hf
  rcases hf with rfl | rfl | rfl | rfl <;> exact ⟨by simp,by dsimp only; decide⟩) [(16,.sl 1 (G.map eN)),(17,.b v)] (by
  simp only [envF,List.map_cons,List.map_nil,DV.lend,rs2,rss,lend_e2,lend_eN,lend_eR,lend_e3,lend_ints_]
  exact sJoinedRounds_18 z0 hL hT hR hG hTG hRG S C1 C2) (fun c19 a19 w19 hv19 hc19 hz19 hs19 => ?_)
 replace hs19 := hs19.sub (gs := [⟨8,w4.heap.size,fun b => w4.heap.size ≤ b ∧ b < w5.heap.size,.sl 1 (G.map eN)⟩,⟨9,w4.heap.size,fun b => w4.heap.size ≤ b ∧ b < w5.heap.size,.b v⟩,⟨11,w6.heap.size,fun b => w6.heap.size ≤ b ∧ b < w7.heap.size,.sl 1 ((mrkR 1 G).map eN)⟩,⟨14,w12.heap.size,fun b => w12.heap.size ≤ b ∧ b < w13.heap.size,.i (1 + (totR G : Int))⟩,⟨16,w18.heap.size,fun b => w18.heap.size ≤ b ∧ b < w19.heap.size,.sl 1 (G.map eN)⟩,⟨17,w18.heap.size,fun b => w18.heap.size ≤ b ∧ b < w19.heap.size,.b v⟩]) (by
  intro g hg
  refine hs19.so g ?_
  simp only [List.cons_append,List.nil_append,List.map_cons,List.map_nil,newF]
  simp only [List.mem_cons,List.not_mem_nil,or_false] at hg ⊢
  rcases hg with rfl | rfl | rfl | rfl | rfl | rfl <;> simp)
 refine hs19.base hS (l1 := IJoinedRounds_19) (l2 := RJoinedRounds_20) hv19 hc19 rfl [⟨11,w6.heap.size,fun b => w6.heap.size ≤ b ∧ b < w7.heap.size,.sl 1 ((mrkR 1 G).map eN)⟩,⟨14,w12.heap.size,fun b => w12.heap.size ≤ b ∧ b < w13.heap.size,.i (1 + (totR G : Int))⟩] (by
  intro f hf
  simp only [List.mem_cons,List.not_mem_nil,or_false] at hf
  rcases hf with rfl | rfl <;> exact ⟨by simp,by dsimp only; decide⟩) [] (by
  simp only [envF,List.map_cons,List.map_nil,DV.lend,rs2,rss,lend_e2,lend_eN,lend_eR,lend_e3,lend_ints_]
  exact sJoinedRounds_19 z0 hL hT hR hG hTG hRG S C1 C2) (fun c20 a20 w20 hv20 hc20 hz20 hs20 => ?_)
 replace hs20 := hs20.sub (gs := [⟨11,w6.heap.size,fun b => w6.heap.size ≤ b ∧ b < w7.heap.size,.sl 1 ((mrkR 1 G).map eN)⟩,⟨14,w12.heap.size,fun b => w12.heap.size ≤ b ∧ b < w13.heap.size,.i (1 + (totR G : Int))⟩]) (by
  intro g hg
  refine hs20.so g ?_
  simp only [List.cons_append,List.nil_append,List.map_cons,List.map_nil,newF]
  simp only [List.mem_cons,List.not_mem_nil,or_false] at hg ⊢
  rcases hg with rfl | rfl <;> simp)
 refine hs20.base hS (l1 := IJoinedRounds_20) (l2 := RJoinedRounds_21) hv20 hc20 rfl [⟨11,w6.heap.size,fun b => w6.heap.size ≤ b ∧ b < w7.heap.size,.sl 1 ((mrkR 1 G).map eN)⟩,⟨14,w12.heap.size,fun b => w12.heap.size ≤ b ∧ b < w13.heap.size,.i (1 + (totR G : Int))⟩] (by
  intro f hf
  simp only [List.mem_cons,List.not_mem_nil,or_false] at hf
  rcases hf with rfl | rfl <;> exact ⟨by simp,by dsimp only; decide⟩) [(15,.i (1))] (by
  simp only [envF,List.map_cons,List.map_nil,DV.lend,rs2,rss,lend_e2,lend_eN,lend_eR,lend_e3,lend_ints_]
  exact sJoinedRounds_20 z0 hL hT hR hG hTG hRG S C1 C2) (fun c21 a21 w21 hv21 hc21 hz21 hs21 => ?_)
 replace hs21 := hs21.sub (gs := [⟨11,w6.heap.size,fun b => w6.heap.size ≤ b ∧ b < w7.heap.size,.sl 1 ((mrkR 1 G).map eN)⟩,⟨14,w12.heap.size,fun b => w12.heap.size ≤ b ∧ b < w13.heap.size,.i (1 + (totR G : Int))⟩,⟨15,w20.heap.size,fun b => w20.heap.size ≤ b ∧ b < w21.heap.size,.i (1)⟩]) (by
  intro g hg
  refine hs21.so g ?_
  simp only [List.cons_append,List.nil_append,List.map_cons,List.map_nil,newF]
  simp only [List.mem_cons,List.not_mem_nil,or_false] at hg ⊢
  rcases hg with rfl | rfl | rfl <;> simp)
 refine hs21.base hS (l1 := IJoinedRounds_21) (l2 := RJoinedRounds_22) hv21 hc21 rfl [⟨14,w12.heap.size,fun b => w12.heap.size ≤ b ∧ b < w13.heap.size,.i (1 + (totR G : Int))⟩] (by
  intro f hf
  simp only [List.mem_cons,List.not_mem_nil,or_false] at hf
  rcases hf with rfl <;> exact ⟨by simp,by dsimp only; decide⟩) [(15,.i (1 + (totR G : Int)))] (by
  simp only [envF,List.map_cons,List.map_nil,DV.lend,rs2,rss,lend_e2,lend_eN,lend_eR,lend_e3,lend_ints_]
  exact sJoinedRounds_21 z0 hL hT hR hG hTG hRG S C1 C2) (fun c22 a22 w22 hv22 hc22 hz22 hs22 => ?_)
 replace hs22 := hs22.sub (gs := [⟨14,w12.heap.size,fun b => w12.heap.size ≤ b ∧ b < w13.heap.size,.i (1 + (totR G : Int))⟩,⟨15,w21.heap.size,fun b => w21.heap.size ≤ b ∧ b < w22.heap.size,.i (1 + (totR G : Int))⟩]) (by
  intro g hg
  refine hs22.so g ?_
  simp only [List.cons_append,List.nil_append,List.map_cons,List.map_nil,newF]
  simp only [List.mem_cons,List.not_mem_nil,or_false] at hg ⊢
  rcases hg with rfl | rfl <;> simp)
 refine hs22.base hS (l1 := IJoinedRounds_22) (l2 := RJoinedRounds_23) hv22 hc22 rfl [⟨14,w12.heap.size,fun b => w12.heap.size ≤ b ∧ b < w13.heap.size,.i (1 + (totR G : Int))⟩,⟨15,w21.heap.size,fun b => w21.heap.size ≤ b ∧ b < w22.heap.size,.i (1 + (totR G : Int))⟩] (by
  intro f hf
  simp only [List.mem_cons,List.not_mem_nil,or_false] at hf
  rcases hf with rfl | rfl <;> exact ⟨by simp,by dsimp only; decide⟩) [] (by
  simp only [envF,List.map_cons,List.map_nil,DV.lend,rs2,rss,lend_e2,lend_eN,lend_eR,lend_e3,lend_ints_]
  exact sJoinedRounds_22 z0 hL hT hR hG hTG hRG S C1 C2) (fun c23 a23 w23 hv23 hc23 hz23 hs23 => ?_)
 replace hs23 := hs23.sub (gs := [⟨14,w12.heap.size,fun b => w12.heap.size ≤ b ∧ b < w13.heap.size,.i (1 + (totR G : Int))⟩,⟨15,w21.heap.size,fun b => w21.heap.size ≤ b ∧ b < w22.heap.size,.i (1 + (totR G : Int))⟩]) (by
  intro g hg
  refine hs23.so g ?_
  simp only [List.cons_append,List.nil_append,List.map_cons,List.map_nil,newF]
  simp only [List.mem_cons,List.not_mem_nil,or_false] at hg ⊢
  rcases hg with rfl | rfl <;> simp)
 refine hs23.base hS (l1 := IJoinedRounds_23) (l2 := RJoinedRounds_24) hv23 hc23 rfl [] (by
  intro f hf
  cases hf) [] (by
  simp only [envF,List.map_cons,List.map_nil,DV.lend,rs2,rss,lend_e2,lend_eN,lend_eR,lend_e3,lend_ints_]
  exact sJoinedRounds_23 z0 hL hT hR hG hTG hRG S C1 C2) (fun c24 a24 w24 hv24 hc24 hz24 hs24 => ?_)
 refine hs24.base hS (l1 := IJoinedRounds_24) (l2 := RJoinedRounds_25) hv24 hc24 rfl [] (by
  intro f hf
  cases hf) [(6,.b true)] (by
  simp only [envF,List.map_cons,List.map_nil,DV.lend,rs2,rss,lend_e2,lend_eN,lend_eR,lend_e3,lend_ints_]
  exact sJoinedRounds_24 z0 hL hT hR hG hTG hRG S C1 C2) (fun c25 a25 w25 hv25 hc25 hz25 hs25 => ?_)
 replace hs25 := hs25.sub (gs := [⟨6,w24.heap.size,fun b => w24.heap.size ≤ b ∧ b < w25.heap.size,.b true⟩]) (by
  intro g hg
  refine hs25.so g ?_
  simp only [List.cons_append,List.nil_append,List.map_cons,List.map_nil,newF]
  simp only [List.mem_cons,List.not_mem_nil,or_false] at hg ⊢
  rcases hg with rfl <;> simp)
 exact law_ret hv25 hs25 rfl
end
end
end Zz
