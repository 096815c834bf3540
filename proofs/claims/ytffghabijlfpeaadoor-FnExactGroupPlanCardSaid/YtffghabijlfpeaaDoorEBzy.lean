/- What the functions answer, as equations: EB. No conditions. -/
import Derived.Test.YtffghabijlfpeaaDoorEAzy
set_option linter.unusedSectionVars false
set_option linter.unusedVariables false
set_option linter.unusedSimpArgs false
namespace Zz
open Go.Lg Md
set_option linter.unusedSimpArgs false
set_option linter.unusedVariables false
attribute [local simp] tm_mv tm_newnil tm_pick tm_bin tm_eqb tm_eqs tm_un tm_len tm_lens tm_chk tm_fld tm_fldv tm_idxa tm_idx tm_load tm_store tm_slice tm_slices tm_make tm_alloc tm_box tm_build tm_app tm_conv tm_ext tm_call tm_calld tm_mkfn tm_mm tm_idxp tm_eqn tm_callg tm_callm tm_bslice0 tm_bslice1 tm_bslice2 tm_bslice cw_nil cw_cons cd_none cd_some ec_nil ec_cons es_nil es_one es_more nn_nil nn_cons ns_nil ns_cons si_nil si_cons sk_t stod_oad stod_own stod_adr stod_dead ml_nil ml_cons nt_nil nt_cons nc_nil' nc_cons sa_mkfn cv_adr cv_i cv_y cv_b cv_w sa_calld nm_def nh_nil nh_cons nxM_some nxM_none sc_st sd_i sd_y sd_b sd_s sd_w sd_q sc_i sc_y sc_b sc_s sc_w sc_q sa_bslice sa_app nc_own nc_nil sa_call sa_alloc sa_build sa_callm rm_nil rm_one rm_gen bq_mul bq_eql ia_mv ia_newnil ia_pick ia_bin ia_eqb ia_eqs ia_un ia_len ia_lens ia_chk ia_fld ia_fldv ia_idxa ia_idx ia_load ia_store ia_slice ia_slices ia_make ia_alloc ia_box ia_build ia_bslice ia_app ia_b2i ia_i2b ia_i2i ia_same ia_b2s ia_s2b ia_ext ia_mm ia_idxp ia_calld ia_mkfn ia_i2r ia_r2s ia_call pt_nil pt_cons mi_nil mi_cons md_bslice md_mv md_newnil md_pick md_bin md_eqb md_un md_len md_lens md_fld md_fldv md_idxa md_idx md_load md_store md_slice md_slices md_make md_alloc md_box md_build md_app md_conv md_ext md_call md_calld md_callg md_mkfn md_mm md_idxp md_eqn md_eqs md_chk tg_bslice tg_mv tg_newnil tg_pick tg_bin tg_eqb tg_un tg_len tg_lens tg_fld tg_fldv tg_idxa tg_idx tg_load tg_store tg_slice tg_slices tg_make tg_alloc tg_box tg_build tg_app tg_conv tg_ext tg_call tg_calld tg_callg tg_mkfn tg_mm tg_idxp tg_eqn tg_eqs tg_chk rp_eq ro_eq ifP_t ifP_f np_def ng1_nil ng2_nil ng_gate ng_gen tgA_t tgA_0 tgA_1 tgA_2 aC_nil aC_c aC_t rS_def nb_def tv_b2i tv_i2b tv_i2i tv_s2b tv_b2s tv_same tv_i2r tv_r2s tv_i2q tv_q2i tv_q2q nxZ_some nxZ_none rz_nil rz_gen nxP_some nxP_none rq_nil rq_gen rq_gate nxR_some nxR_none ru_nil ru_gen ru_gate pl_none pl_some gt_nil gt_t gt_c di_some di_none an_nil an_cons nxG_some nxG_none rg_nil rg_gen rg_gate oldO_some oa_nil oa_i oa_y oa_b oa_s oa_st oa_sl oa_own oa_oad oa_nl al_nil al_cons al_i al_y al_b al_s al_st al_sl nxF_some nxF_none rf_nil rf_gen rf_gate hk_newnil hk_make hk_alloc hk_box hk_build hk_bslice hk_call hk_store hk_app hk_appn em_cel mm_cel ok_cel ov_cel so_cel il_cel oi_cel oj_cel ol_cel nm_cel hk_appc ef_bslice5 ef_app_cel ks_shut shu_own shc_none shc_cel cl_nil cl_cons ai_nil ai_cons il_i il_y il_b il_s il_st il_sl il_own il_adr il_oad il_ref il_fr il_tup il_nil il_np il_und il_dead ol_adr ol_b ol_dead ol_e ol_fn ol_fr ol_i ol_nil ol_np ol_oad ol_own ol_q ol_r ol_ref ol_s ol_sl ol_st ol_tup ol_und ol_w ol_y oj_e oj_i oj_y oj_b oj_s oj_st oj_sl oj_own oj_adr oj_oad oj_ref oj_fr oj_tup oj_nil oj_np oj_und oj_dead oj_w oj_q oj_r oj_fn oi_e oi_i oi_y oi_b oi_s oi_st oi_sl oi_own oi_adr oi_oad oi_ref oi_fr oi_tup oi_nil oi_np oi_und oi_dead as_nil as_cons ao_nil ao_cons av_i av_y av_b av_s av_st av_sl av_own av_adr av_oad av_ref av_fr av_tup av_nil av_np av_und av_dead pro_cons ghK_some ks_promote ks_freeze frz_own ks_rename ren_own ks_cell cel_own dropO adoptP newP wholeP cutP allOldL ex_skip ex_ret ex_exit ks_region ks_seq ks_cut ks_cond ks_block seqK_n seqK_e seqK_r regK_some condK_t condK_f blkK_n blkK_r blkK_e endK_n endK_r rr_false rr_true rd_free mo_nil mo_cons drK_some drK_none nxW_some nxW_none rw_nil rw_gen rw_gate ak_newnil ak_make ak_alloc ak_box ak_build ak_bslice ak_call ak_store ak_app iw_mm iw_eqn iw_idxp ef_callg cgK_some gv_e gv_own gv_i gv_sl gv_st gv_b gv_nil gvK_some gvO_some iw_callg ia_callg ak_callg hk_callg is_mv is_newnil is_pick is_bin is_eqb is_eqs is_un is_len is_lens is_chk is_fld is_fldv is_idxa is_idx is_load is_slice is_slices is_make is_alloc is_box is_build is_bslice is_app is_conv is_ext is_call is_calld is_callg is_mkfn is_mm is_idxp is_eqn is_store rt_nil rt_gen rt_gate nxT_some nxT_none ef_eqn_nil ef_eqn_sl ef_eqn_own ia_eqn ef_mmx ef_mmn ef_idxp nxD_some nxD_none ov_i ov_y ov_b ov_s ov_st ov_sl ov_own ov_oad ov_adr ov_nil ov_np ov_und ov_dead ov_tup oldN_some oldN_nil oldN_none so_none so_tup DV.noM so_i so_y so_b so_s so_st so_sl so_adr so_nil so_np so_und so_dead anyM_nil anyM_t anyM_c so_own so_oad rd_nil rd_gen rd_mv rd_gate iw_mv iw_newnil iw_pick iw_bin iw_eqb iw_eqs iw_un iw_len iw_lens iw_chk iw_fld iw_fldv iw_idxa iw_idx iw_load iw_store iw_slice iw_slices iw_make iw_alloc iw_box iw_build iw_bslice iw_app iw_b2i iw_i2b iw_i2i iw_same iw_b2s iw_s2b iw_ext iw_call nm_i nm_y nm_b nm_s nm_st nm_sl nm_own nm_oad nm_adr nm_nil nm_np nm_und nm_dead nm_tup rl_nil rl_gate rl_mv rl_gen opv_t opv_c nx_some nx_none gate_tt gate_tf gate_ft gate_ff gate_u fr_ap em_nil em_i em_y em_b em_s em_st em_sl em_own em_adr em_oad em_ref em_nl em_np em_und em_dead em_tup0 em_tup_i em_tup_b em_tup_s em_tup_sl em_tup_st em_tup_np em_tup_own em_tup_oad mm_i mm_y mm_b mm_s mm_st mm_sl mm_own mm_oad mm_adr mm_nil mm_np mm_und mm_dead ef_mv ef_newnil ef_pickt ef_pickf ef_bin ef_eqb ef_eqs ef_un ef_lens ef_len_sl ef_len_own ef_len_nil ef_chk_adr ef_chk_oad ef_fld_adr ef_fld_oad ef_fldv idxR_some ef_idxa_sl ef_idxa_own ef_idx ef_load_adr_st ef_load_adr_i ef_load_adr_y ef_load_adr_b ef_load_adr_s ef_load_adr_sl atN_nil atN_zero atN_succ ef_load_oad ef_store ef_slice ef_slices ef_make ef_alloc ef_box ef_build ef_bslice ef_app_own ef_app_nil ef_b2i ef_i2b ef_i2i ef_same ef_ext ret1 ret2_some calL_some ef_call retC_i retC_y retC_b retC_s retC_st retC_sl retC_np retC_fr retC_ref retC_tup rk_nil rk_i rk_y rk_b rk_s rk_st rk_sl rk_own rk_oad rk_nl ok_nil ok_i ok_y ok_b ok_s ok_st ok_sl ok_own ok_oad ok_nl lo_nil lo_i lo_y lo_b lo_s lo_st lo_sl lo_own lo_oad lo_nl pr_nil pr_i pr_y pr_b pr_s pr_st pr_sl pr_own pr_nl pr_oad nr_i nr_y nr_b nr_s nr_st nr_sl nr_fr nr_np nr_tup ng_i ng_b ng_s ng_fr ng_nil resV effP_eff binD bi_add bi_sub bi_mul bi_quo bi_rem bi_eql bi_neq bi_lss bi_leq bi_gtr bi_geq bi_shl bi_shr bi_and bi_or bi_xor bi_andNot binY binS unD look put putD LS.get LS.drop killE sweep lookO putO dropO enter leave giveBackL giveBack outs lendArgs lendArg newOuts takeIn takeInL lendL DV.lend adoptL DV.adopt elems apartKs part DV.cells unpart settle settleL over mkId szId fillP fillE tk_e2 tk_i tk_y lt_e2 lt_i lt_y lend_rep al_e2 al_is al_ys al_rep al_app lend_app adopt_app new_app lend_e2 lend_i lend_y adopt_e2 adopt_i adopt_y new_e2 new_i allNewL DV.allNew bounds sliceD sliceS em_w em_q em_r em_fn em_tup_w em_tup_q em_tup_r mm_w mm_q mm_r mm_fn ef_load_adr_w ef_load_adr_q ef_load_adr_r retC_w retC_q retC_r rk_w rk_q rk_r rk_fn ok_w ok_q ok_r ok_fn lo_w lo_q lo_r lo_fn pr_w pr_q pr_r pr_fn nr_w nr_q nr_r ng_w ng_q ng_r oa_w oa_q oa_r oa_fn al_w al_q al_r al_fn ov_w ov_q ov_r ov_fn so_w so_q so_r so_fn il_w il_q il_r il_fn oi_w oi_q oi_r oi_fn av_w av_q av_r av_fn nm_w nm_q nm_r nm_fn ef_i2r ef_r2s ef_b2s bs_some ys_nil ys_cons ys_map ef_mkfn ef_mkbd ef_idxp_adr ef_idxp_q ef_calld_nil ef_calld_adr ef_calld_bd DV.capB capsOk DV.cell List.all_cons List.all_nil rk_own_t lo_own_t lk_f lk_t pr_own_t mutB ak_calld hk_calld iw_calld iw_mkfn iw_i2r iw_r2s bw_and bw_or bw_xor bw_andNot bw_eql bw_neq sw_shl sw_shr sq_shl gEnv_nil rk_adr ok_adr lo_adr pr_adr oa_adr capL capArg DV.cap ak_mkfn hk_mkfn hk_mkbd ef_callm gf_ap ga_nil ga_cons tgv_own gk_e gk_giv gk_i gk_y gk_b gk_s gk_w gk_q gk_r gk_fn gk_st gk_sl gk_own gk_oad gk_adr gk_nl gk_np rk_giv ok_giv lo_giv pr_giv oa_giv iw_callm hk_callm ak_callm is_callm ia_callm tg_callm md_callm ef_i2q ef_q2i ef_q2q iw_i2q iw_q2i iw_q2q ia_i2q ia_q2i ia_q2q bq_and bq_add bq_shr sq_shr tgv_nil gk_ref rk_ref ok_ref lo_ref pr_ref oa_ref retC_fn nr_fn ef_load_adr_fn ks_close cls_oad
attribute [local congr] nxM_congr ifP_congr nxP_congr nxZ_congr nxR_congr nxT_congr nxG_congr nxF_congr ghK_congr gate_congr nx_congr nxD_congr runL_congr runD_congr eff_congr calL_congr ret2_congr seqK_congr regK_congr condK_congr endK_congr drK_congr nxW_congr
attribute [local simp ↓] nxM_some rm_nil rm_one rm_gen nxT_some rt_nil rt_gen rt_gate nxZ_some rz_nil rz_gen nxP_some rq_nil rq_gen rq_gate nxR_some ru_nil ru_gen ru_gate nxG_some rg_nil rg_gen rg_gate nxF_some rf_nil rf_gen rf_gate ks_promote ks_freeze frz_own ks_rename ks_cell ghK_some gate_tt gate_tf gate_ft gate_ff gate_u nx_some nxD_some rl_nil rl_mv rl_gen rl_gate rd_nil rd_mv rd_gen rd_gate rd_free rr_false rr_true drK_some drK_none nxW_some rw_nil rw_gen rw_gate ks_region ks_seq ks_cut ks_cond ks_block seqK_n seqK_e seqK_r regK_some condK_t condK_f blkK_n blkK_r endK_n endK_r calL_some ret2_some opv_t opv_c
section
attribute [-simp] DV.cells
attribute [local simp] sliceD cells_st cells_sl cells_i cells_y cells_b cells_s cells_w
attribute [local simp] lend_eR al_eR
theorem eA_one (us:List T) (k:Nat):eA us 1 ((k:Nat):Int).toNat=pA us k:=by unfold eA pA; simp
theorem insT_insR (us:List T) (k:Nat):∀ l:List Nat,(∀ o∈l,o < k)→ni (insT us k l)=insR us 1 k (ni l)
 | [],_=>rfl
 | o :: r,h=>by
  have ho:=h o (by simp)
  have ih:=insT_insR us k r (fun x hx=>h x (by simp [hx]))
  simp only [insT]
  show _=insR us 1 (k:Int) ((o:Int) :: ni r)
  have er:rLe us 1 (o:Int) (k:Int)=decide (cA us o * pA us k≤cA us k * pA us o):=by
   unfold rLe
   rw [eA_one,eA_one,Int.toNat_natCast,Int.toNat_natCast]
  simp only [insR]
  by_cases hc:cA us o * pA us k≤cA us k * pA us o
  ·rw [if_neg (by omega),if_pos (er.trans (decide_eq_true hc)),← ih]; rfl
  ·rw [if_pos (by omega),if_neg (by rw [er]; simpa using hc)]; rfl
theorem rO_inT (us:List T):∀ n:Nat,rO us 1 n=ni (inT us (List.range n))
 | 0=>rfl
 | n+1=>by
  have e:inT us (List.range (n+1))=insT us n (inT us (List.range n)):=by
   unfold inT
   rw [List.range_succ,List.foldl_append]; rfl
  rw [e,insT_insR us n _ (fun o ho=>by have:=(inT_perm us _).mem_iff.1 ho; simpa using this),← rO_inT us n]
  rfl
theorem srt_uniq {us:List T}:∀ {a b:List Nat},a.Perm b→a.Pairwise (fun x y=>¬ tLt us y x)→b.Pairwise (fun x y=>¬ tLt us y x)→a=b
 | [],b,hp,_,_=>by rw [List.nil_perm.1 hp]
 | x :: a,[],hp,_,_=>by have:=hp.length_eq; simp at this
 | x :: a,y :: b,hp,ha,hb=>by
  obtain ⟨a1,a2⟩:=List.pairwise_cons.1 ha
  obtain ⟨b1,b2⟩:=List.pairwise_cons.1 hb
  by_cases e:x=y
  ·subst e
   rw [srt_uniq hp.cons_inv a2 b2]
  ·exfalso
   have hx:x∈b:=by
    rcases List.mem_cons.1 (hp.mem_iff.1 (List.mem_cons_self (a:=x) (l:=a))) with h | h
    ·exact absurd h e
    ·exact h
   have hy:y∈a:=by
    rcases List.mem_cons.1 (hp.symm.mem_iff.1 (List.mem_cons_self (a:=y) (l:=b))) with h | h
    ·exact absurd h.symm e
    ·exact h
   have h1:=a1 y hy
   have h2:=b1 x hx
   unfold tLt at h1 h2
   omega
theorem inT_srt {us:List T} (h:us.all tOk=true) {l:List Nat} (hl:∀ k∈l,k < us.length):(inT us l).Pairwise (fun x y=>¬ tLt us y x) :=
 inT_tA h l [] hl (fun k hk=>by cases hk) List.Pairwise.nil
theorem filter_inT {us:List T} (h:us.all tOk=true) {g:List Nat} (nd:g.Nodup) (hg:∀ k∈g,k < us.length):(inT us (List.range us.length)).filter (fun k=>g.contains k)=inT us g:=by
 refine srt_uniq ?_ ((inT_srt h (fun k hk=>List.mem_range.1 hk)).filter _) (inT_srt h hg)
 refine ((inT_perm us _).filter _).trans (List.Perm.trans ?_ (inT_perm us g).symm)
 refine (List.perm_ext_iff_of_nodup (List.nodup_range.filter _) nd).2 fun k=>?_
 rw [List.mem_filter,List.mem_range]
 constructor
 ·rintro ⟨_,h2⟩; simpa using h2
 ·intro hk; exact ⟨hg k hk,by simpa using hk⟩
def memT (us:List T) (row:List Nat):List T:=row.map fun k=>us.getD k (0,0)
theorem memT_len (us:List T) (row:List Nat):(memT us row).length=row.length:=by simp [memT]
theorem memT_app (us:List T) (row:List Nat) (k:Nat):(memT us (row++[k])).map e2=(memT us row).map e2++[.st [.i (cA us k),.i (pA us k)]]:=by
 unfold memT
 rw [List.map_append,List.map_append]; rfl
theorem memT_ok {us:List T} (h:tsOk us=true) {row:List Nat} (hr:∀ k∈row,k < us.length) (h1:1≤row.length) (h5:row.length≤5):tsOk (memT us row)=true:=by
 have h':=tsOk_iff.1 h
 rw [tsOk_iff,memT_len,List.all_eq_true]
 refine ⟨by omega,fun t ht=>?_⟩
 obtain ⟨k,hk,rfl⟩:=List.mem_map.1 ht
 have hk':=hr k hk
 have e:us.getD k (0,0)=us[k]:=by simp [List.getD,hk']
 rw [e]
 exact List.all_eq_true.1 h'.2 _ (List.getElem_mem hk')
theorem memT_it (us:List T) (row:List Nat):(List.range row.length).map (itT (memT us row))=row.map (itT us):=by
 apply List.ext_getElem
 ·simp
 ·intro i h1 h2
  have hi:i < row.length:=by simpa using h1
  have e:(memT us row).getD i (0,0)=us.getD row[i] (0,0):=by
   unfold memT
   rw [List.getD_eq_getElem?_getD,List.getElem?_map,List.getElem?_eq_getElem hi]; rfl
  simp only [List.getElem_map,List.getElem_range]
  unfold itT cA pA
  rw [e]
theorem memT_cost {us:List T} (h:tsOk us=true) {row:List Nat} (hr:∀ k∈row,k < us.length) (h1:1≤row.length) (h5:row.length≤5):raOf (memT us row) (roL (memT us row) 1) 1=grC us row:=by
 have hm:=memT_ok h hr h1 h5
 have hm':=tsOk_iff.1 hm
 have e1:roL (memT us row) 1=rO (memT us row) 1 (memT us row).length:=by unfold roL; rw [hm]; rfl
 have e2':raOk (memT us row) (rO (memT us row) 1 (memT us row).length) 1=true:=by
  unfold raOk
  rw [hm,rO_ok hm]; rfl
 rw [e1]
 unfold raOf
 rw [e2',if_pos rfl,← grC_all hm'.2 (List.Perm.refl _)]
 unfold grC
 rw [memT_len,memT_it]
theorem memT_none:∀ (us:List T) (row:List Nat),pN (memT us row)=grN us row
 | us,[]=>rfl
 | us,k :: r=>by
  show (6 - (us.getD k (0,0)).2) * pN (memT us r)=_
  rw [memT_none us r]; rfl
theorem memT_wt {us:List T} (h:tsOk us=true) {row:List Nat} (hr:∀ k∈row,k < us.length) (h1:1≤row.length) (h5:row.length≤5):wtOf (memT us row) 0=grN us row:=by
 have hm:=memT_ok h hr h1 h5
 have l:=memT_len us row
 have s:stOk (memT us row).length 0=true:=stOk_iff.2 ⟨by omega,by omega,Int.pow_pos (by omega)⟩
 have:=wt_none (memT us row)
 rw [memT_none] at this
 unfold wtOf
 rw [hm,s]
 exact this
theorem l_Index (a:Int) (A:List Int) (hA:(A.length:Int) < 1099511627776):∀ (r:List Int) (k:Nat),A.drop k=r→k+r.length=A.length →
  (r.contains a=true→∃ j:Nat,ex lf F_slices_Index_int_int_W0 ⟨[(0,.sl 0 (A.map .i)),(1,.i a),(7,.i A.length),(8,.i k)],[]⟩=some (.ret,⟨[(4,.i j)],[]⟩)) ∧
  (r.contains a=false→ex lf F_slices_Index_int_int_W0 ⟨[(0,.sl 0 (A.map .i)),(1,.i a),(7,.i A.length),(8,.i k)],[]⟩=some (.exit 0,⟨[(0,.sl 0 (A.map .i)),(1,.i a),(7,.i A.length),(8,.i A.length)],[]⟩)):=by
 intro r
 induction r with
 | nil =>
  intro k hd hk
  have e:k=A.length:=by simpa using hk
  subst e
  refine ⟨fun h=>by simp at h,fun _=>?_⟩
  rw [w_slices_Index_int_int_0]
  simp [F_slices_Index_int_int_L0]
 | cons b r ih0 =>
  intro k hd hk
  obtain ⟨k1,k2,k3⟩:=drop_cons hd
  have k1':(k:Int) < A.length:=by omega
  have at1:=atI_int k2
  simp only [List.length_cons] at hk
  have w1:=wr_succ (k:=k) (by omega)
  have ih:=ih0 (k+1) k3 (by omega)
  by_cases h:a=b
  ·subst h
   refine ⟨fun _=>⟨k,?_⟩,fun h=>by simp at h⟩
   rw [w_slices_Index_int_int_0]
   simp [F_slices_Index_int_int_L0,k1,k1',at1]
  ·have hb:(a == b)=false:=by simp [h]
   have hc:(b :: r).contains a=r.contains a:=by rw [List.contains_cons,hb,Bool.false_or]
   rw [hc]
   refine ⟨fun q=>?_,fun q=>?_⟩
   ·obtain ⟨j,hj⟩:=ih.1 q
    refine ⟨j,?_⟩
    rw [w_slices_Index_int_int_0]
    simp [F_slices_Index_int_int_L0,k1,k1',at1,hb,w1,hj,-Int.natCast_add]
   ·have hj:=ih.2 q
    rw [w_slices_Index_int_int_0]
    simp [F_slices_Index_int_int_L0,k1,k1',at1,hb,w1,hj,-Int.natCast_add]
theorem c_Contains (a:Int) (A:List Int) (hA:(A.length:Int) < 1099511627776):call lf n_slices_Contains_int_int [.sl 0 (A.map .i),.i a]=some (.b (A.contains a),[]):=by
 rw [call_k lf n_slices_Contains_int_int _ (F:=F_slices_Contains_int_int) rfl rfl]
 have I:=l_Index a A hA A 0 rfl (by simp)
 simp only [Int.natCast_zero] at I
 cases h:A.contains a with
 | true =>
  obtain ⟨j,hj⟩:=I.1 h
  have C:call lf n_slices_Index_int_int [.sl 0 (A.map .i),.i a]=some (.i j,[]):=by
   rw [call_k lf n_slices_Index_int_int _ (F:=F_slices_Index_int_int) rfl rfl]
   simp [F_slices_Index_int_int,hj]
  simp [F_slices_Contains_int_int,C]
 | false =>
  have hj:=I.2 h
  have C:call lf n_slices_Index_int_int [.sl 0 (A.map .i),.i a]=some (.i (-1),[]):=by
   rw [call_k lf n_slices_Index_int_int _ (F:=F_slices_Index_int_int) rfl rfl]
   simp [F_slices_Index_int_int,hj]
  simp [F_slices_Contains_int_int,C]
theorem ni_contains (g:List Nat) (k:Nat):(ni g).contains (k:Int)=g.contains k:=by
 rw [Bool.eq_iff_iff,List.contains_iff_mem,List.contains_iff_mem]
 unfold ni
 rw [List.mem_map]
 constructor
 ·rintro ⟨a,ha,e⟩
  have:a=k:=by omega
  exact this ▸ ha
 ·intro h; exact ⟨k,h,rfl⟩
def rowAt (R g:List Nat) (i:Nat):List Nat:=(R.take i).filter fun k=>g.contains k
def stGf (us:List T) (R g:List Nat) (i:Nat):LS :=
 ⟨[(0,.sl 0 (us.map e2)),(1,.sl 0 ((ni g).map .i)),(4,.oad 2080 1 0 0),(5,.own 2568 (rowAt R g i).length 0 (rowAt R g i).length),(6,.own 3088 (rowAt R g i).length 0 (rowAt R g i).length),(12,.own 6152 R.length 0 R.length),(13,.i R.length),(14,.i i)],
  [(2080,[.st [.i 0,.i 0,.sl 1 [],.i 0]]),(2568,(ni (rowAt R g i)).map .i),(3088,(memT us (rowAt R g i)).map e2),(6152,(ni R).map .i)]⟩
set_option maxHeartbeats 8000000 in
theorem gf_loop (us:List T) (R g:List Nat) (hR:R.length≤5) (hg:(g.length:Int) < 1099511627776) (hu:∀ k∈R,k < us.length):ex lf F_impl_groupOf_W0 (stGf us R g 0)=some (.exit 0,stGf us R g R.length):=by
 refine loop_count R.length (fun i=>stGf us R g i) (fun i hi=>?_) ?_ (by simp)
 ·have hk:R[i]?=some R[i]:=List.getElem?_eq_getElem hi
  have hku:=hu _ (List.getElem_mem hi)
  have l0:(rowAt R g i).length≤i:=by
   unfold rowAt
   exact Nat.le_trans (List.length_filter_le ..) (by simp; omega)
  have C:=c_Contains (R[i]:Int) (ni g) (by rw [ni_len]; exact hg)
  rw [ni_contains] at C
  have sc:rowAt R g (i+1)=rowAt R g i++(if g.contains R[i]=true then [R[i]] else []):=by
   unfold rowAt
   rw [List.take_add_one,hk,Option.toList_some,List.filter_append]
   congr 1
   by_cases hc:g.contains R[i]=true
   ·rw [List.filter_cons_of_pos hc,if_pos hc]; rfl
   ·rw [List.filter_cons_of_neg hc,if_neg hc]; rfl
  obtain ⟨a1,a2⟩:=at_ni hk
  have t1:=atT hku
  have nR:=ni_len R
  have w1:=wr_succ (k:=i) (by omega)
  have hi':(i:Int) < R.length:=by omega
  have ma:=memT_app us (rowAt R g i) R[i]
  have na:(ni (rowAt R g i++[R[i]])).map DV.i=(ni (rowAt R g i)).map .i++[.i (R[i]:Int)]:=by rw [ni_app,List.map_append]; rfl
  have l1:=ni_len (rowAt R g i)
  have l2:=memT_len us (rowAt R g i)
  have b1:(rowAt R g i).length+1≤bound:=by unfold bound; omega
  unfold stGf
  rw [sc]
  have tkR:List.take R.length ((ni R).map DV.i)=(ni R).map .i:=List.take_of_length_le (by simp [nR])
  have tk1:List.take (rowAt R g i).length ((ni (rowAt R g i)).map DV.i)=(ni (rowAt R g i)).map .i:=List.take_of_length_le (by simp [l1])
  have tk2:List.take (rowAt R g i).length ((memT us (rowAt R g i)).map e2)=(memT us (rowAt R g i)).map e2:=List.take_of_length_le (by simp [l2])
  generalize rowAt R g i=Q at *
  generalize R[i]=k at *
  by_cases hc:g.contains k=true
  ·rw [if_pos hc,ma,na]
   rw [hc] at C
   simp [F_impl_groupOf_L0,hi,hi',nR,a1,a2,C,t1,hku,w1,l1,l2,b1,tkR,-Int.natCast_add]
  ·rw [if_neg hc]
   have hc':g.contains k=false:=by simpa using hc
   rw [hc'] at C
   simp [F_impl_groupOf_L0,hi,hi',nR,a1,a2,C,t1,hku,w1,l1,l2,b1,tkR,-Int.natCast_add]
 ·simp [stGf,F_impl_groupOf_L0]
set_option maxHeartbeats 8000000 in
theorem c_impl_groupOf {us:List T} (h:tsOk us=true) {g:List Nat} (h1:1≤g.length) (h5:g.length≤5) (nd:g.Nodup) (hg:∀ k∈g,k < us.length) :
  call lf n_impl_groupOf [.sl 0 (us.map e2),.sl 0 ((ni g).map .i)]=some (.st [.i (grC us g),.i (grN us g),.sl 1 ((ni (inT us g)).map .i),.i (6 ^ g.length)],[]):=by
 rw [call_k lf n_impl_groupOf _ (F:=F_impl_groupOf) rfl rfl]
 have h':=tsOk_iff.1 h
 have RO:=c_impl_RatioOrder us 1 (by omega)
 have er:roL us 1=ni (inT us (List.range us.length)):=by
  unfold roL
  rw [h,← rO_inT]; rfl
 rw [er] at RO
 have lR:(inT us (List.range us.length)).length=us.length:=by rw [(inT_perm us _).length_eq,List.length_range]
 have I:=gf_loop us (inT us (List.range us.length)) g (by omega) (by omega) (fun k hk=>List.mem_range.1 ((inT_perm us _).mem_iff.1 hk))
 have e0:∀ R:List Nat,rowAt R g 0=[]:=fun R=>by simp [rowAt]
 have e9:rowAt (inT us (List.range us.length)) g (inT us (List.range us.length)).length=inT us g:=by
  unfold rowAt
  rw [List.take_length,filter_inT h'.2 nd hg]
 unfold stGf at I
 rw [e0,e9] at I
 have il:(inT us g).length=g.length:=(inT_perm us g).length_eq
 have im:∀ k∈inT us g,k < us.length:=fun k hk=>hg k ((inT_perm us g).mem_iff.1 hk)
 have gc:grC us (inT us g)=grC us g:=grC_perm h'.2 hg (inT_perm us g)
 have gn:grN us (inT us g)=grN us g:=grN_perm (inT_perm us g)
 have ml:=memT_len us (inT us g)
 have R2:=c_impl_RatioOrder (memT us (inT us g)) 1 (by omega)
 have A2:=c_impl_RowAverage (memT us (inT us g)) (roL (memT us (inT us g)) 1) 1 (by omega) (by
  unfold roL
  split
  ·rw [rO_len]; omega
  ·simp)
 rw [memT_cost h im (by omega) (by omega),gc] at A2
 have W2:=c_impl_WeightOf (memT us (inT us g)) 0 (by omega)
 rw [memT_wt h im (by omega) (by omega),gn] at W2
 have H2:=c_impl_wholeOf h5
 have nR:=ni_len (inT us (List.range us.length))
 have nl:=ni_len (inT us g)
 generalize hq:roL (memT us (inT us g)) 1=Q at *
 have lq:Q.length=g.length:=by
  rw [← hq]
  unfold roL
  rw [memT_ok h im (by omega) (by omega),show rwOk 1=true from rfl,Bool.true_and,if_pos rfl,rO_len,ml,il]
 have z:ni []=[]:=rfl
 have z2:memT us []=[]:=rfl
 rw [z,z2,lR] at I
 simp only [Int.natCast_zero,List.length_nil,List.map_nil,il] at I
 rw [il] at nl ml
 rw [lR] at nR
 generalize memT us (inT us g)=M at *
 generalize inT us g=J at *
 generalize inT us (List.range us.length)=Y at *
 have tk1:List.take g.length ((ni J).map DV.i)=(ni J).map .i:=List.take_of_length_le (by simp [nl])
 have tk2:List.take g.length (M.map e2)=M.map e2:=List.take_of_length_le (by simp [ml])
 have tk3:List.take us.length ((ni Y).map DV.i)=(ni Y).map .i:=List.take_of_length_le (by simp [nR])
 have tk4:List.take g.length (Q.map DV.i)=Q.map .i:=List.take_of_length_le (by simp [lq])
 generalize (6:Int) ^ g.length=P6 at *
 simp [F_impl_groupOf,RO,I,R2,A2,W2,H2,nR,nl,ml,lq,tk1,tk2,tk3,tk4,-Int.natCast_add]
end
section
attribute [-simp] DV.cells
attribute [local simp] sliceD cells_st cells_sl cells_i cells_y cells_b cells_s cells_w
attribute [local simp] lend_eR al_eR
def tI:Nat→List Nat→List T
 | _,[]=>[]
 | i,k :: r=>(0,(k:Int)) :: ((if i=0 then [] else [(3,0)])++tI (i+1) r)
def gJ:Nat→List (List Nat)→List T
 | _,[]=>[]
 | j,g :: R=>tI 0 g++((if j=0 then [] else [(2,0)])++gJ (j+1) R)
theorem tI_pos (i:Nat):∀ r:List Nat,tI (i+1) r=r.flatMap fun k:Nat=>[(0,(k:Int)),(3,0)]
 | []=>rfl
 | k :: r=>by simp [tI,tI_pos (i+1) r]
theorem tI_orL:∀ g:List Nat,tI 0 g=orL g
 | []=>rfl
 | k :: r=>by simp [tI,orL,tI_pos]
theorem gJ_pos (j:Nat):∀ R:List (List Nat),gJ (j+1) R=R.flatMap fun g=>orL g++[(2,0)]
 | []=>rfl
 | g :: R=>by simp [gJ,gJ_pos (j+1) R,tI_orL]
theorem gJ_grL:∀ L:List (List Nat),gJ 0 L=grL L
 | []=>rfl
 | g :: R=>by simp [gJ,grL,gJ_pos,tI_orL]
theorem tI_len:∀ (r:List Nat) (i:Nat),(tI i r).length≤2 * r.length
 | [],i=>by simp [tI]
 | k :: r,i=>by
  have:=tI_len r (i+1)
  simp only [tI,List.length_cons,List.length_append]
  split <;> simp <;> omega
def stT1 (A:List (List Int)) (g:List Nat) (acc:List T) (j i:Nat):LS :=
 ⟨[(5,.own 2576 acc.length 0 acc.length),(6,.i j),(14,.sl 0 (A.map eR)),(15,.i A.length),(16,.i j),(21,.sl 0 ((ni g).map .i)),(22,.i g.length),(23,.i i)],[(2576,acc.map e2)]⟩
theorem t_inner (A:List (List Int)) (g:List Nat) (j:Nat) (h5:g.length≤5):∀ (r:List Nat) (i:Nat) (acc:List T),acc.length+2 * r.length≤1000→g.drop i=r→i+r.length=g.length →
  ex lf F_impl_GroupTerm_W1 (stT1 A g acc j i)=some (.exit 2,stT1 A g (acc++tI i r) j g.length):=by
 intro r
 induction r with
 | nil =>
  intro i acc hl hd hi
  have e:i=g.length:=by simpa using hi
  subst e
  rw [w_impl_GroupTerm_1]
  simp [stT1,F_impl_GroupTerm_L1,tI]
 | cons k r ih0 =>
  intro i acc hl hd hi
  obtain ⟨k1,k2,k3⟩:=drop_cons hd
  simp only [List.length_cons] at hl hi
  obtain ⟨a1,a2⟩:=at_ni k2
  have k1':(i:Int) < g.length:=by omega
  have ng:=ni_len g
  have w1:=wr_succ (k:=i) (by omega)
  have b1:acc.length+1≤bound:=by unfold bound; omega
  have b2:acc.length+1+1≤bound:=by unfold bound; omega
  rw [w_impl_GroupTerm_1]
  have w0:wr (1:Int)=1:=wr_id (by omega) (by omega)
  cases i with
  | zero =>
   simp only [Int.natCast_zero] at a1
   have ih:=ih0 1 (acc++[(0,(k:Int))]) (by simp; omega) k3 (by omega)
   have e:acc++tI 0 (k :: r)=(acc++[(0,(k:Int))])++tI 1 r:=by simp [tI]
   rw [e]
   unfold stT1 at *
   simp [F_impl_GroupTerm_L1,k1,ng,a1,a2,b1,e2,w0] at ih ⊢
   first | exact ih | simp [ih,-Int.natCast_add]
  | succ i =>
   have ih:=ih0 (i+1+1) (acc++[(0,(k:Int)),(3,0)]) (by simp; omega) k3 (by omega)
   have e:acc++tI (i+1) (k :: r)=(acc++[(0,(k:Int)),(3,0)])++tI (i+1+1) r:=by simp [tI]
   rw [e]
   have gq:0 < i+1:=by omega
   have tk:List.take (acc.length+1) (acc.map e2++[DV.st [.i 0,.i (k:Int)]])=acc.map e2++[DV.st [.i 0,.i (k:Int)]]:=List.take_of_length_le (by simp)
   unfold stT1 at *
   generalize i+1=q at *
   simp [F_impl_GroupTerm_L1,k1,k1',ng,a1,a2,b1,b2,e2,gq,tk,w1,-Int.natCast_add] at ih ⊢
   first | exact ih | simp [ih,-Int.natCast_add]
def stT0 (A:List (List Int)) (acc:List T) (j:Nat):LS :=
 ⟨[(5,.own 2576 acc.length 0 acc.length),(14,.sl 0 (A.map eR)),(15,.i A.length),(16,.i j)],[(2576,acc.map e2)]⟩
theorem t_outer (A:List (List Int)) (hA:A.length≤1000):∀ (L:List (List Nat)) (j:Nat) (acc:List T),(∀ g∈L,g.length≤5)→acc.length+(2 * L.flatten.length+L.length)≤1000→A.drop j=L.map ni→j+L.length=A.length →
  ex lf F_impl_GroupTerm_W0 (stT0 A acc j)=some (.exit 0,stT0 A (acc++gJ j L) A.length):=by
 intro L
 induction L with
 | nil =>
  intro j acc h5 hl hd hj
  have e:j=A.length:=by simpa using hj
  subst e
  rw [w_impl_GroupTerm_0]
  simp [stT0,F_impl_GroupTerm_L0,gJ]
 | cons g L ih0 =>
  intro j acc h5 hl hd hj
  rw [List.map_cons] at hd
  obtain ⟨k1,k2,k3⟩:=drop_cons hd
  simp only [List.length_cons,List.flatten_cons,List.length_append] at hl hj
  have at1:=at_eR k2
  have k1':(j:Int) < A.length:=by omega
  have ng:=ni_len g
  have w1:=wr_succ (k:=j) (by omega)
  have g5:=h5 g (by simp)
  have I:=t_inner A g j g5 g 0 acc (by omega) rfl (by omega)
  have tl:=tI_len g 0
  have b1:(acc++tI 0 g).length+1≤bound:=by rw [List.length_append]; unfold bound; omega
  rw [w_impl_GroupTerm_0]
  unfold stT1 at I
  unfold stT0 at *
  simp only [Int.natCast_zero] at I
  have w0:wr (1:Int)=1:=wr_id (by omega) (by omega)
  cases j with
  | zero =>
   try simp only [Int.natCast_zero] at at1
   have ih:=ih0 1 (acc++tI 0 g) (fun x hx=>h5 x (by simp [hx])) (by rw [List.length_append]; omega) k3 (by omega)
   have e:acc++gJ 0 (g :: L)=(acc++tI 0 g)++gJ 1 L:=by simp [gJ]
   rw [e]
   generalize acc++tI 0 g=Q at *
   simp [F_impl_GroupTerm_L0,k1,at1,ng,w0,-Int.natCast_add] at ih I ⊢
   first | exact ih | simp [I,ih,w0,-Int.natCast_add]
  | succ j =>
   have ih:=ih0 (j+1+1) (acc++tI 0 g++[(2,0)]) (fun x hx=>h5 x (by simp [hx])) (by simp only [List.length_append,List.length_singleton]; omega) k3 (by omega)
   have e:acc++gJ (j+1) (g :: L)=(acc++tI 0 g++[(2,0)])++gJ (j+1+1) L:=by simp [gJ]
   rw [e]
   have gq:0 < j+1:=by omega
   have e2':∀ Q:List T,(Q++[(2,0)]).map e2=Q.map e2++[DV.st [.i 2,.i 0]]:=fun Q=>by rw [List.map_append]; rfl
   rw [e2'] at ih
   generalize acc++tI 0 g=Q at *
   generalize j+1=q at *
   have tk:List.take Q.length (Q.map e2)=Q.map e2:=List.take_of_length_le (by simp)
   simp [F_impl_GroupTerm_L0,k1,k1',at1,ng,b1,gq,w1,tk,-Int.natCast_add] at ih I ⊢
   simp [I,ih,gq,b1,w1,-Int.natCast_add]
def gtL (m:Int) (L:List (List Int)):List T:=if gokB m L=true then grL (L.map (List.map Int.toNat)) else []
theorem toNat_ni (N:List (List Nat)):(N.map ni).map (List.map Int.toNat)=N:=by
 rw [List.map_map]
 conv=>rhs; rw [← List.map_id N]
 apply List.map_congr_left
 intro g _
 exact ni_toNat g
theorem row_le {m:Nat} {N:List (List Nat)} (G:Gok m N) {g:List Nat} (hg:g∈N):g.length≤m:=by
 have l:=gok_len G
 obtain ⟨A,B,hAB⟩:=List.append_of_mem hg
 rw [hAB,List.flatten_append,List.flatten_cons,List.length_append,List.length_append] at l; omega
theorem rows_le {m:Nat} {N:List (List Nat)} (G:Gok m N):N.length≤m:=by
 have l:=gok_len G
 have key:∀ {N:List (List Nat)},(∀ g∈N,g≠[])→N.length≤N.flatten.length:=by
  intro N
  induction N with
  | nil=>intro _; simp
  | cons g N ih =>
   intro h
   have:=List.length_pos_iff.2 (h g (by simp))
   have:=ih (fun x hx=>h x (by simp [hx]))
   rw [List.flatten_cons,List.length_append,List.length_cons]; omega
 have:=key G.ne
 omega
theorem c_impl_GroupTerm (m:Int) (L:List (List Int)) (hb:(L.length:Int) < 1099511627776):call lf n_impl_GroupTerm [.i m,.sl 0 (L.map eR)]=some (.fr 2 ((gtL m L).map e2),[]):=by
 rw [call_k lf n_impl_GroupTerm _ (F:=F_impl_GroupTerm) rfl rfl]
 have C:=c_impl_GroupsOk m L hb
 cases h:gokB m L with
 | false =>
  rw [h] at C
  have e:gtL m L=[]:=by unfold gtL; rw [h]; rfl
  rw [e]
  simp [F_impl_GroupTerm,C]
 | true =>
  rw [h] at C
  have hh:=h
  unfold gokB at hh
  rw [Bool.and_eq_true] at hh
  have hm:=(orOk_iff.1 hh.2).1
  obtain ⟨n,rfl⟩:∃ n:Nat,m=n:=⟨m.toNat,by omega⟩
  obtain ⟨N,rfl,G⟩:=gok_of (by omega) h
  have e:gtL n (N.map ni)=grL N:=by unfold gtL; rw [h,toNat_ni]; rfl
  have lN:=rows_le G
  have lf':=gok_len G
  have I:=t_outer (N.map ni) (by simp; omega) N 0 [] (fun g hg=>by have:=row_le G hg; omega) (by simp only [List.length_nil]; omega) rfl (by simp)
  unfold stT0 at I
  rw [List.nil_append,gJ_grL] at I
  rw [e]
  generalize grL N=Q at *
  generalize N.map ni=L at *
  have tk:List.take Q.length (Q.map e2)=Q.map e2:=List.take_of_length_le (by simp)
  simp only [List.length_nil,List.map_nil,Int.natCast_zero] at I
  simp [F_impl_GroupTerm,C,I,tk]
end
section
attribute [-simp] DV.cells
attribute [local simp] sliceD cells_st cells_sl cells_i cells_y cells_b cells_s cells_w
attribute [local simp] lend_eR al_eR lend_eN adopt_eN new_eN
theorem gDt_bd {us:List T} (h:us.all tOk=true):∀ {l:List Nat},(∀ k∈l,k < us.length)→0≤gD (l.map (itT us))∧gD (l.map (itT us))≤9 * l.length * 6 ^ l.length
 | [],_=>by simp [gD]
 | k :: r,hr=>by
  obtain ⟨a1,a2⟩:=gDt_bd h (l:=r) (fun x hx=>hr x (by simp [hx]))
  have cb:=cA_bd h (hr k (by simp))
  have pb:=pA_bd h (hr k (by simp))
  have e:gD ((k :: r).map (itT us))=6 * cA us k * 6 ^ r.length+(6 - pA us k) * gD (r.map (itT us)):=by
   simp only [List.map_cons,gD,its_M]; rfl
  have p:(0:Int) < 6 ^ r.length:=Int.pow_pos (by omega)
  rw [e]
  refine ⟨Int.add_nonneg (Int.mul_nonneg (by omega) (by omega)) (Int.mul_nonneg (by omega) a1),?_⟩
  have x1:6 * cA us k * 6 ^ r.length≤54 * 6 ^ r.length:=Int.mul_le_mul_of_nonneg_right (by omega) (by omega)
  have x2:(6 - pA us k) * gD (r.map (itT us))≤6 * (9 * r.length * 6 ^ r.length):=Int.mul_le_mul (by omega) a2 a1 (by omega)
  have e2':9 * ((k :: r).length:Int) * 6 ^ (k :: r).length=54 * 6 ^ r.length+6 * (9 * r.length * 6 ^ r.length):=by
   rw [List.length_cons,Int.pow_succ]
   push_cast
   grind
  omega
theorem gDt_le {us:List T} (h:us.all tOk=true) {l:List Nat} (h5:l.length≤5) (hl:∀ k∈l,k < us.length):0≤gD (l.map (itT us))∧gD (l.map (itT us))≤349920:=by
 obtain ⟨a,b⟩:=gDt_bd h hl
 refine ⟨a,Int.le_trans b ?_⟩
 have p:=p6 (n:=l.length) h5
 have:9 * (l.length:Int) * 6 ^ l.length≤45 * 7776:=Int.mul_le_mul (by omega) p.2 (by omega) (by omega)
 omega
def posG (us:List T) (g:List Nat):List (List Nat)→Nat
 | []=>0
 | o :: r=>if (gIo us g).1 * (gIo us o).2.1 < (gIo us o).1 * (gIo us g).2.1 then 0 else posG us g r+1
theorem posG_le (us:List T) (g:List Nat):∀ l:List (List Nat),posG us g l≤l.length
 | []=>Nat.le_refl _
 | o :: r=>by
  have:=posG_le us g r
  simp only [posG,List.length_cons]
  split <;> omega
theorem insG_pos (us:List T) (g:List Nat):∀ l:List (List Nat),insG us g l=l.take (posG us g l)++g :: l.drop (posG us g l)
 | []=>rfl
 | o :: r=>by
  simp only [insG,posG]
  split
  ·simp
  ·rw [insG_pos us g r]; simp
def nR (L:List (List Nat)):List DV:=(L.map ni).map eN
theorem nR_len (L:List (List Nat)):(nR L).length=L.length:=by simp [nR]
theorem at_nR {L:List (List Nat)} {k:Nat} {g:List Nat} (h:L[k]?=some g):atI (nR L) (k:Int)=some (.sl 1 ((ni g).map .i))∧atN (nR L) k=some (.sl 1 ((ni g).map .i)):=by
 have e:(nR L)[k]?=some (.sl 1 ((ni g).map .i)):=by unfold nR; rw [List.getElem?_map,List.getElem?_map,h]; rfl
 refine ⟨?_,e⟩
 simp only [atI,if_pos (Int.natCast_nonneg k)]
 show (nR L)[(k:Int).toNat]?=_
 rw [Int.toNat_natCast]; exact e
def stSi (us:List T) (A:List DV) (k:Nat) (g:List Nat) (L:List (List Nat)) (a:Nat):LS :=
 ⟨[(0,.sl 0 (us.map e2)),(1,.sl 0 A),(5,.own 7176 L.length 0 L.length),(6,.i k),(7,.own 18440 g.length 0 g.length),(8,.i (gIo us g).1),(9,.i (gIo us g).2.1),(10,.i a)],[(7176,nR L),(18440,(ni g).map .i)]⟩
set_option maxHeartbeats 8000000 in
theorem sg_inner {us:List T} (h:tsOk us=true) (A:List DV) (k:Nat) {g:List Nat} (g5:g.length≤5) (hg:∀ x∈g,x < us.length) (L:List (List Nat)) (hL:L.length≤5) (hm:∀ o∈L,o.length≤5∧∀ x∈o,x < us.length):∀ (r p:List (List Nat)),L=p++r →
  ex lf F_spec_SortedGroups_W1 (stSi us A k g L p.length)=some (.exit 2,stSi us A k g L (p.length+posG us g r)):=by
 have h':=tsOk_iff.1 h
 intro r
 induction r with
 | nil =>
  intro p hp
  have e:p.length=L.length:=by rw [hp]; simp
  rw [w_spec_SortedGroups_1,e]
  simp [stSi,F_spec_SortedGroups_L1,posG]
 | cons o r ih =>
  intro p hp
  have lp:p.length < L.length:=by rw [hp]; simp
  obtain ⟨o5,ol⟩:=hm o (by rw [hp]; simp)
  obtain ⟨ao,an⟩:=at_nR (L:=L) (k:=p.length) (g:=o) (by rw [hp]; simp)
  have C:=c_spec_l7Cost h o5 ol
  have b1:=gDt_le h'.2 o5 ol
  have b2:=gDt_le h'.2 g5 hg
  have n1:=grN_bd h'.2 ol
  have n2:=grN_bd h'.2 hg
  have q1:=p6 (n:=o.length) o5
  have q2:=p6 (n:=g.length) g5
  have m1:0≤gD (o.map (itT us)) * grN us g∧gD (o.map (itT us)) * grN us g≤349920 * 7776:=⟨Int.mul_nonneg b1.1 (by omega),Int.mul_le_mul b1.2 (by omega) (by omega) (by omega)⟩
  have m2:0≤gD (g.map (itT us)) * grN us o∧gD (g.map (itT us)) * grN us o≤349920 * 7776:=⟨Int.mul_nonneg b2.1 (by omega),Int.mul_le_mul b2.2 (by omega) (by omega) (by omega)⟩
  have w1:wr (gD (o.map (itT us)) * grN us g)=gD (o.map (itT us)) * grN us g:=wr_id (by omega) (by omega)
  have w2:wr (gD (g.map (itT us)) * grN us o)=gD (g.map (itT us)) * grN us o:=wr_id (by omega) (by omega)
  have w3:=wr_succ (k:=p.length) (by omega)
  have I:=ih (p++[o]) (by rw [hp]; simp)
  rw [List.length_append,List.length_singleton] at I
  have nl:=nR_len L
  rw [w_spec_SortedGroups_1]
  simp only [posG]
  unfold stSi at *
  unfold gIo at *
  simp only at I ⊢
  generalize gD (o.map (itT us))=x1 at *
  generalize gD (g.map (itT us))=x2 at *
  generalize grN us o=y1 at *
  generalize grN us g=y2 at *
  generalize nR L=M at *
  by_cases q1:x2 * y1 < x1 * y2
  ·rw [if_pos q1]
   simp [F_spec_SortedGroups_L1,lp,ao,an,C,w1,w2,w3,nl,q1,-Int.natCast_add]
  ·rw [if_neg q1,show p.length+(posG us g r+1)=p.length+1+posG us g r by omega]
   simp [F_spec_SortedGroups_L1,lp,ao,an,C,w1,w2,w3,nl,q1,I,-Int.natCast_add]
def sGi (us:List T) (N:List (List Nat)) (i:Nat):List (List Nat):=(N.take i).foldl (fun a g=>insG us (inT us g) a) []
theorem sGi_succ (us:List T) {N:List (List Nat)} {i:Nat} {g:List Nat} (h:N[i]?=some g):sGi us N (i+1)=insG us (inT us g) (sGi us N i):=by
 unfold sGi
 rw [List.take_add_one,h,Option.toList_some,List.foldl_append]
 rfl
theorem sGi_all (us:List T) (N:List (List Nat)):sGi us N N.length=sG us N:=by
 unfold sGi sG
 rw [List.take_length]
theorem sGi_perm (us:List T) (N:List (List Nat)) (i:Nat):(sGi us N i).Perm ((N.take i).map (inT us)):=by
 have:=sG_permA us (N.take i) []
 rwa [List.nil_append] at this
theorem sGi_len (us:List T) {N:List (List Nat)} {i:Nat} (h:i≤N.length):(sGi us N i).length=i:=by
 rw [(sGi_perm us N i).length_eq,List.length_map,List.length_take]; omega
theorem nR_app (p q:List (List Nat)):nR (p++q)=nR p++nR q:=by simp [nR]
theorem nR_cons (g:List Nat) (q:List (List Nat)):nR (g :: q)=.sl 1 ((ni g).map .i) :: nR q:=rfl
theorem nR_cells (L:List (List Nat)):∀ e∈nR L,e.cells.length=1:=fun e he=>by
 obtain ⟨r,_,rfl⟩:=List.mem_map.1 he; rfl
def stSo (us:List T) (A:List DV) (K:Nat) (L:List (List Nat)) (i:Nat):LS:=⟨[(0,.sl 0 (us.map e2)),(1,.sl 0 A),(5,.own K L.length 0 L.length),(6,.i i)],[(K,nR L)]⟩
set_option maxHeartbeats 8000000 in
theorem sg_outer {us:List T} (h:tsOk us=true) {N:List (List Nat)} (G:Gok us.length N) (j:Nat):∀ (i K:Nat),(K=7176∨K=33288)→i+j=N.length →
  ex lf F_spec_SortedGroups_W0 (stSo us ((N.map ni).map eR) K (sGi us N i) i)=some (.exit 0,stSo us ((N.map ni).map eR) 7176 (sG us N) N.length):=by
 have h':=tsOk_iff.1 h
 have lN:=rows_le G
 have lA:((N.map ni).map eR).length=N.length:=by simp
 have C1:=c_spec_TestsOk us (by omega)
 rw [h] at C1
 have C2:=c_spec_GroupsOk us.length (N.map ni) (by simp; omega) (by
  have:=gok_len G
  have e:(N.map ni).flatten.length=N.flatten.length:=by
   have:(N.map ni).flatten=ni N.flatten:=by unfold ni; rw [List.map_flatten]
   rw [this,ni_len]
  omega)
 rw [gok_to (by omega) G] at C2
 have lendA:lendL ((N.map ni).map eR)=(N.map ni).map eR:=lend_eR _
 induction j with
 | zero =>
  intro i K hK hi
  have e:i=N.length:=by omega
  subst e
  rw [w_spec_SortedGroups_0,sGi_all]
  have nl:=nR_len (sG us N)
  rcases hK with rfl | rfl <;> simp [stSo,F_spec_SortedGroups_L0,nl]
 | succ j ih =>
  intro i K hK hi
  have k2:=ih (i+1) 33288 (.inr rfl) (by omega)
  have hlt:i < N.length:=by omega
  have hlt':(i:Int) < N.length:=by omega
  obtain ⟨g,hg⟩:∃ g,N[i]?=some g:=⟨_,List.getElem?_eq_getElem hlt⟩
  have gm:=List.mem_of_getElem? hg
  have gl:=G.lt g gm
  have g5:g.length≤5:=by have:=row_le G gm; omega
  have ip:=inT_perm us g
  have il:(inT us g).length=g.length:=ip.length_eq
  have im:∀ x∈inT us g,x < us.length:=fun x hx=>gl x (ip.mem_iff.1 hx)
  have I1:=c_spec_l7Inside h g5 gl
  have I2:=c_spec_l7Cost h (g:=inT us g) (by omega) im
  have ll:=sGi_len us (N:=N) (i:=i) (by omega)
  have hm:∀ o∈sGi us N i,o.length≤5∧∀ x∈o,x < us.length:=fun o ho=>by
   obtain ⟨q,hq,rfl⟩:=List.mem_map.1 ((sGi_perm us N i).mem_iff.1 ho)
   have qm:=List.mem_of_mem_take hq
   have qp:=inT_perm us q
   exact ⟨by have:=row_le G qm; rw [qp.length_eq]; omega,fun x hx=>G.lt q qm x (qp.mem_iff.1 hx)⟩
  have I:=sg_inner h ((N.map ni).map eR) i (g:=inT us g) (by omega) im (sGi us N i) (by omega) hm (sGi us N i) [] rfl
  have pl:=posG_le us (inT us g) (sGi us N i)
  rw [sGi_succ us hg,insG_pos] at k2
  rw [List.length_nil,Nat.zero_add] at I
  have a1:atI ((N.map ni).map eR) (i:Int)=some (.sl 0 ((ni g).map .i)):=at_eR (by rw [List.getElem?_map,hg]; rfl)
  have nl:=ni_len (inT us g)
  have tkg:List.take (inT us g).length ((ni (inT us g)).map DV.i)=(ni (inT us g)).map .i:=List.take_of_length_le (by simp [nl])
  generalize posG us (inT us g) (sGi us N i)=a at *
  generalize sGi us N i=L at *
  generalize sG us N=R at *
  obtain ⟨x,y,rfl,rfl⟩:∃ x y,L=x++y∧x.length=a:=⟨L.take a,L.drop a,(List.take_append_drop a L).symm,by simp; omega⟩
  have s1:(x++y).take x.length=x:=by simp
  have s2:(x++y).drop x.length=y:=by simp
  rw [s1,s2] at k2
  have lxy:x.length+y.length=i:=by simpa using ll
  have w1:=wr_succ (k:=i) (by omega)
  have c1:x.length≤bound:=by unfold bound; omega
  have c2:x.length+1≤bound:=by unfold bound; omega
  have c3:i+1≤bound:=by unfold bound; omega
  have xi:x.length≤i:=by omega
  have nx:=nR_len x
  have ny:=nR_len y
  have t1:(nR (x++y)).take x.length=nR x:=by rw [nR_app]; exact List.take_left' (by simp [nR_len])
  have t2:(nR (x++y)).drop x.length=nR y:=by rw [nR_app]; exact List.drop_left' (by simp [nR_len])
  have hL:(nR (x++y)).length=i:=by rw [nR_len]; exact ll
  have t4:List.take i (nR (x++y))=nR (x++y):=List.take_of_length_le (by omega)
  have e1:x.length+1+y.length=i+1:=by omega
  have e3:x.length+(y.length+1)=i+1:=by omega
  have n0:¬ (i < x.length):=by omega
  have cw:=nR_cells (x++y)
  have cx:=nR_cells x
  have cy:=nR_cells y
  unfold stSo stSi at *
  unfold gIo at I
  rw [ll] at I ⊢
  rw [il] at I tkg nl
  have hJ:((ni (inT us g)).map DV.i).length=g.length:=by simp [nl]
  have adJ:∀ b,adoptL b ((ni (inT us g)).map DV.i)=(ni (inT us g)).map .i:=fun b=>by simp
  have leJ:lendL ((ni (inT us g)).map DV.i)=(ni (inT us g)).map .i:=by simp
  have neJ:allNewL ((ni (inT us g)).map DV.i)=true:=by simp
  have tk18:=adJ
  simp only [Int.natCast_zero] at I
  rw [w_spec_SortedGroups_0]
  simp only [List.length_append,List.length_cons,nR_app,nR_cons,e3] at k2
  generalize nR (x++y)=M at *
  generalize (N.map ni).map eR=A at *
  generalize gD ((inT us g).map (itT us))=D at *
  generalize grN us (inT us g)=Q at *
  generalize (ni (inT us g)).map DV.i=J at *
  rcases hK with rfl | rfl <;> simp [F_spec_SortedGroups_L0,hlt,hlt',lA,lendA,C1,C2,a1,I1,I2,hJ,adJ,leJ,neJ,tkg,I,w1,hL,t1,t2,t4,c1,c2,c3,xi,nx,ny,e1,if_pos cw,if_pos cx,if_pos cy,k2,-Int.natCast_add]
end
section
attribute [-simp] DV.cells
attribute [local simp] sliceD cells_st cells_sl cells_i cells_y cells_b cells_s cells_w
attribute [local simp] lend_eR al_eR lend_eN adopt_eN new_eN
def sgL (us:List T) (L:List (List Int)):List (List Nat):=if tsOk us && gokB us.length L then sG us (L.map (List.map Int.toNat)) else []
def gaOf (us:List T) (L:List (List Int)):Int:=if tsOk us && gokB us.length L then gA us (L.map (List.map Int.toNat)) else -1
theorem lend_nR (L:List (List Nat)):lendL (nR L)=(L.map ni).map eR:=lend_eN _
theorem sgL_of {us:List T} {L:List (List Int)} (h:(tsOk us && gokB us.length L)=true):∃ N:List (List Nat),L=N.map ni∧Gok us.length N∧tsOk us=true∧gokB us.length L=true∧sgL us L=sG us N∧gaOf us L=gA us N:=by
 have hh:=h
 rw [Bool.and_eq_true] at h
 have h':=tsOk_iff.1 h.1
 obtain ⟨N,rfl,G⟩:=gok_of (by omega) h.2
 refine ⟨N,rfl,G,h.1,h.2,?_,?_⟩
 ·unfold sgL; rw [if_pos hh,toNat_ni]
 ·unfold gaOf; rw [if_pos hh,toNat_ni]
theorem c_spec_SortedGroups (us:List T) (L:List (List Int)) (ha:(us.length:Int) < 1099511627776) (hb:(L.length:Int) < 1099511627776) (hf:(L.flatten.length:Int) < 1099511627776) :
  call lf n_spec_SortedGroups [.sl 0 (us.map e2),.sl 0 (L.map eR)]=some (.fr 1 (nR (sgL us L)),[]):=by
 rw [call_k lf n_spec_SortedGroups _ (F:=F_spec_SortedGroups) rfl rfl]
 cases h:(tsOk us && gokB us.length L) with
 | true =>
  obtain ⟨N,rfl,G,h1,h2,e1,_⟩:=sgL_of h
  have I:=sg_outer h1 G N.length 0 7176 (.inl rfl) (by omega)
  have z:sGi us N 0=[]:=rfl
  rw [z] at I
  unfold stSo at I
  have z':nR []=[]:=rfl
  rw [z'] at I
  simp only [Int.natCast_zero,List.length_nil] at I
  rw [e1]
  have nl:=nR_len (sG us N)
  have tk:List.take (sG us N).length (nR (sG us N))=nR (sG us N):=List.take_of_length_le (by omega)
  generalize (N.map ni).map eR=A at *
  generalize nR (sG us N)=M at *
  simp [F_spec_SortedGroups,I,nl,tk]
 | false =>
  have e:sgL us L=[]:=by unfold sgL; rw [h]; rfl
  rw [e]
  have C1:=c_spec_TestsOk us ha
  have C2:=c_spec_GroupsOk us.length L hb hf
  have W:ex lf F_spec_SortedGroups_W0 (stSo us (L.map eR) 7176 [] 0)=some (.exit 0,stSo us (L.map eR) 7176 [] 0):=by
   rw [w_spec_SortedGroups_0]
   by_cases h0:0 < L.length
   ·cases h1:tsOk us with
    | false=>rw [h1] at C1; simp [stSo,F_spec_SortedGroups_L0,C1,h0,nR]
    | true =>
     rw [h1] at C1 h
     rw [Bool.true_and] at h
     rw [h] at C2
     simp [stSo,F_spec_SortedGroups_L0,C1,C2,h0,nR]
   ·simp [stSo,F_spec_SortedGroups_L0,h0,nR]
  unfold stSo at W
  have z':nR []=[]:=rfl
  rw [z'] at W ⊢
  simp only [List.length_nil,Int.natCast_zero] at W
  simp [F_spec_SortedGroups,W]
end
section
attribute [-simp] DV.cells
attribute [local simp] sliceD cells_st cells_sl cells_i cells_y cells_b cells_s cells_w
attribute [local simp] lend_eR al_eR lend_eN adopt_eN new_eN
theorem c_impl_isLessG (a b x y:Int) (h1:0≤a * y∧a * y≤4000000000000) (h2:0≤x * b∧x * b≤4000000000000):call lf n_impl_ratio_isLess [.st [.i a,.i b],.st [.i x,.i y]]=some (.b (decide (a * y < x * b)),[]):=by
 rw [call_k lf n_impl_ratio_isLess _ (F:=F_impl_ratio_isLess) rfl rfl]
 have w1:wr (a * y)=a * y:=wr_id (by omega) (by omega)
 have w2:wr (x * b)=x * b:=wr_id (by omega) (by omega)
 simp [F_impl_ratio_isLess,w1,w2]
def gcP (p:Nat) (us:List T) (g:List Nat):DV:=.st [.i (gIo us g).1,.i (gIo us g).2.1,.sl p ((ni g).map .i),.i (6 ^ g.length)]
abbrev gcL (us:List T) (g:List Nat):DV:=gcP 0 us g
theorem lend_gc (p:Nat) (us:List T) (L:List (List Nat)):lendL (L.map (gcP p us))=L.map (gcP 0 us):=by
 rw [lendL_map,List.map_map]
 apply List.map_congr_left
 intro r _
 simp [gcP,DV.lend]
theorem adopt_gc (us:List T) (L:List (List Nat)):adoptL false (L.map (gcP 0 us))=L.map (gcP 2 us):=by
 rw [adoptL_map,List.map_map]
 apply List.map_congr_left
 intro r _
 simp [gcP,DV.adopt,adoptP]
theorem adopt_gc2 (o:Bool) (us:List T) (L:List (List Nat)):adoptL o (L.map (gcP 2 us))=L.map (gcP 2 us):=by
 rw [adoptL_map,List.map_map]
 apply List.map_congr_left
 intro r _
 simp [gcP,DV.adopt,adoptP]
def gOk (us:List T) (g:List Nat):Prop:=g.length≤5∧∀ x∈g,x < us.length
theorem gOk_bd {us:List T} (h:us.all tOk=true) {g o:List Nat} (hg:gOk us g) (ho:gOk us o):0≤(gIo us g).1 * (gIo us o).2.1∧(gIo us g).1 * (gIo us o).2.1≤4000000000000:=by
 have b:=gDt_le h hg.1 hg.2
 have n:=grN_bd h ho.2
 have p:=p6 (n:=o.length) ho.1
 have:=Int.mul_le_mul (a:=(gIo us g).1) (b:=(gIo us o).2.1) (c:=349920) (d:=7776) b.2 (by show grN us o≤7776; omega) (by show 0≤grN us o; omega) (by omega)
 exact ⟨Int.mul_nonneg b.1 (by show 0≤grN us o; omega),by omega⟩
theorem c_impl_lessG {us:List T} (h:us.all tOk=true) {g o:List Nat} (hg:gOk us g) (ho:gOk us o) :
  call lf n_impl_groupsByRatios_1 [gcL us g,gcL us o]=some (.b (decide ((gIo us g).1 * (gIo us o).2.1 < (gIo us o).1 * (gIo us g).2.1)),[]):=by
 have I:=c_impl_isLessG (gIo us g).1 (gIo us g).2.1 (gIo us o).1 (gIo us o).2.1 (gOk_bd h hg ho) (gOk_bd h ho hg)
 rw [call_k lf n_impl_groupsByRatios_1 _ (F:=F_impl_groupsByRatios_1) rfl rfl]
 unfold gcL gcP
 generalize (gIo us g).1=a at *
 generalize (gIo us g).2.1=b at *
 generalize (gIo us o).1=x at *
 generalize (gIo us o).2.1=y at *
 generalize (6:Int) ^ g.length=p at *
 generalize (6:Int) ^ o.length=q at *
 simp [F_impl_groupsByRatios_1,I]
theorem c_InsertG (us:List T) (L:List (List Nat)) (g:List Nat) {n:Nat} (hn:n≤L.length) (hb:L.length≤1000) :
  call lf n_slices_Insert_impl_askedGroup_impl_askedGroup [.gv 4 (L.map (gcL us)),.i n,.gv 4 [gcL us g]]=some (.fr 4 ((L.take n++g :: L.drop n).map (gcL us)),[]):=by
 rw [call_prim lf n_slices_Insert_impl_askedGroup_impl_askedGroup _ (F:=F_slices_Insert_impl_askedGroup_impl_askedGroup) rfl rfl,insS_k,if_pos ⟨rfl,rfl,by omega,by simp; omega,by simp [bound]; omega,by simp⟩]
 simp
def stIg (us:List T) (g:List Nat) (L:List (List Nat)) (a:Nat):LS:=⟨[(0,.own 38 L.length 0 L.length),(2,.fn n_impl_groupsByRatios_1 []),(4,.oad 2080 1 0 0),(7,.i a)],[(38,L.map (gcP 0 us)),(2080,[gcP 0 us g])]⟩
set_option maxHeartbeats 8000000 in
theorem ig_loop {us:List T} (h:us.all tOk=true) {g:List Nat} (hg:gOk us g) {L:List (List Nat)} (hL:L.length≤5) (ho:∀ o∈L,gOk us o) {p:Nat} (H:∀ j (hj:j < L.length),((gIo us g).1 * (gIo us L[j]).2.1 < (gIo us L[j]).1 * (gIo us g).2.1↔p≤j)):∀ d:Nat,p+d≤L.length →
  ex lf F_impl_inserted_impl_askedGroup_W0 (stIg us g L (p+d))=some (.exit 0,stIg us g L p):=by
 have tk:List.take L.length (L.map (gcP 0 us))=L.map (gcP 0 us):=List.take_of_length_le (by simp)
 have one:∀ (j:Nat) (hj:j < L.length),atI (L.map (gcP 0 us)) ((j:Nat):Int)=some (gcP 0 us L[j])∧atN (L.map (gcP 0 us)) j=some (gcP 0 us L[j])∧wr (((j+1:Nat):Int) - 1)=(j:Nat)∧(0:Int) < ((j+1:Nat):Int)∧call lf n_impl_groupsByRatios_1 [gcP 0 us g,gcP 0 us L[j]]=some (.b (decide (p≤j)),[]):=by
  intro j hj
  have e:(L.map (gcP 0 us))[j]?=some (gcP 0 us L[j]):=by simp [hj]
  refine ⟨?_,e,?_,by omega,?_⟩
  ·simp only [atI,if_pos (Int.natCast_nonneg _)]
   show (L.map (gcP 0 us))[((j:Nat):Int).toNat]?=_
   rw [Int.toNat_natCast]; exact e
  ·rw [wr_id (by omega) (by omega)]; omega
  ·have:=c_impl_lessG h hg (ho L[j] (List.getElem_mem hj))
   rw [this,decide_eq_decide.2 (H j hj)]
 have nM:(L.map (gcP 0 us)).length=L.length:=by simp
 intro d
 induction d with
 | zero =>
  intro hd
  cases p with
  | zero =>
   rw [w_impl_inserted_impl_askedGroup_0]
   simp [stIg,F_impl_inserted_impl_askedGroup_L0]
  | succ p =>
   obtain ⟨q1,q2,q3,q4,q5⟩:=one p (by omega)
   rw [decide_eq_false (show ¬ p+1≤p by omega)] at q5
   have hp:p < L.length:=by omega
   rw [w_impl_inserted_impl_askedGroup_0]
   unfold stIg
   generalize L[p]=o at *
   generalize L.map (gcP 0 us)=M at *
   unfold gcP at *
   simp [F_impl_inserted_impl_askedGroup_L0,tk,nM,q1,q2,q3,q4,q5,hp,-Int.natCast_add]
 | succ d ih =>
  intro hd
  obtain ⟨q1,q2,q3,q4,q5⟩:=one (p+d) (by omega)
  rw [decide_eq_true (show p≤p+d by omega)] at q5
  have hp:p+d < L.length:=by omega
  have I:=ih (by omega)
  rw [w_impl_inserted_impl_askedGroup_0,show p+(d+1)=p+d+1 by omega]
  unfold stIg at *
  generalize L[p+d]=o at *
  generalize L.map (gcP 0 us)=M at *
  unfold gcP at *
  simp [F_impl_inserted_impl_askedGroup_L0,tk,nM,q1,q2,q3,q4,q5,hp,I,-Int.natCast_add]
end
section
attribute [-simp] DV.cells
attribute [local simp] sliceD cells_st cells_sl cells_i cells_y cells_b cells_s cells_w
attribute [local simp] lend_eR al_eR lend_eN adopt_eN new_eN
theorem posG_iff {us:List T} {g:List Nat} (hg:iOk (gIo us g)):∀ {L:List (List Nat)},(∀ o∈L,iOk (gIo us o))→L.Pairwise (fun a b=>gLe (gIo us a) (gIo us b)=true)→∀ j (hj:j < L.length),((gIo us g).1 * (gIo us L[j]).2.1 < (gIo us L[j]).1 * (gIo us g).2.1↔posG us g L≤j)
 | [],_,_,j,hj=>by simp at hj
 | o :: r,ho,hp,j,hj=>by
  obtain ⟨p1,p2⟩:=List.pairwise_cons.1 hp
  have o0:=ho o List.mem_cons_self
  simp only [posG]
  by_cases hc:(gIo us g).1 * (gIo us o).2.1 < (gIo us o).1 * (gIo us g).2.1
  ·rw [if_pos hc]
   refine ⟨fun _=>Nat.zero_le _,fun _=>?_⟩
   cases j with
   | zero=>exact hc
   | succ j =>
    simp only [List.length_cons] at hj
    simp only [List.getElem_cons_succ]
    have xm:r[j]'(by omega)∈r:=List.getElem_mem _
    generalize r[j]'(by omega)=x at *
    refine Classical.byContradiction fun hn=>?_
    have xg:gLe (gIo us x) (gIo us g)=true:=by unfold gLe; exact decide_eq_true (by omega)
    have:=gLe_trans o0 (ho x (List.mem_cons_of_mem _ xm)) hg (p1 x xm) xg
    unfold gLe at this
    have:=of_decide_eq_true this
    omega
  ·rw [if_neg hc]
   cases j with
   | zero=>exact ⟨fun h=>absurd h hc,fun h=>by omega⟩
   | succ j =>
    simp only [List.length_cons] at hj
    simp only [List.getElem_cons_succ]
    have:=posG_iff hg (fun x hx=>ho x (List.mem_cons_of_mem _ hx)) p2 j (by omega)
    rw [this]
    omega
set_option maxHeartbeats 8000000 in
theorem c_impl_insertedG {us:List T} (h:us.all tOk=true) {g:List Nat} (hg:gOk us g) {L:List (List Nat)} (hL:L.length≤5) (ho:∀ o∈L,gOk us o) (hp:L.Pairwise (fun a b=>gLe (gIo us a) (gIo us b)=true)) (ok:∀ o∈g :: L,iOk (gIo us o)) :
  call lf n_impl_inserted_impl_askedGroup [.gv 4 (L.map (gcP 0 us)),gcP 0 us g,.fn n_impl_groupsByRatios_1 []]=some (.fr 4 ((insG us g L).map (gcP 2 us)),[]):=by
 have pl:=posG_le us g L
 have H:=posG_iff (ok g List.mem_cons_self) (fun o hx=>ok o (List.mem_cons_of_mem _ hx)) hp
 have W:=ig_loop h hg hL ho H (L.length - posG us g L) (by omega)
 have I:=c_InsertG us L g pl (by omega)
 rw [← insG_pos] at I
 rw [show posG us g L+(L.length - posG us g L)=L.length by omega] at W
 have le:(insG us g L).length=L.length+1:=by rw [insG_pos]; simp; omega
 have nM:(L.map (gcP 0 us)).length=L.length:=by simp
 have nI:((insG us g L).map (gcP 0 us)).length=L.length+1:=by simp [le]
 have cM:∀ e∈L.map (gcP 0 us),e.cells.length=4:=fun e he=>by
  obtain ⟨o,_,rfl⟩:=List.mem_map.1 he; rfl
 have cI:∀ e∈(insG us g L).map (gcP 0 us),e.cells.length=4:=fun e he=>by
  obtain ⟨o,_,rfl⟩:=List.mem_map.1 he; rfl
 have lM:=lend_gc 0 us L
 have lI:=lend_gc 0 us (insG us g L)
 have aM:=adopt_gc us L
 have aI:=adopt_gc us (insG us g L)
 have tk:List.take L.length (L.map (gcP 0 us))=L.map (gcP 0 us):=List.take_of_length_le (by simp)
 have leJ:lendL ((ni g).map DV.i)=(ni g).map .i:=by simp
 have adJ:∀ b,adoptL b ((ni g).map DV.i)=(ni g).map .i:=fun b=>by simp
 rw [call_k lf n_impl_inserted_impl_askedGroup _ (F:=F_impl_inserted_impl_askedGroup) rfl rfl]
 have nI2:((insG us g L).map (gcP 2 us)).length=L.length+1:=by simp [le]
 unfold stIg gcL at *
 generalize (insG us g L).map (gcP 2 us)=N2 at *
 generalize (insG us g L).map (gcP 0 us)=N at *
 generalize posG us g L=a at *
 generalize L.map (gcP 0 us)=M at *
 unfold gcP at *
 generalize (gIo us g).1=x1 at *
 generalize (gIo us g).2.1=x2 at *
 generalize (ni g).map DV.i=J at *
 generalize (6:Int) ^ g.length=pw at *
 simp [F_impl_inserted_impl_askedGroup,W,I,leJ,adJ,nM,nI,aI,nI2,if_pos cM,if_pos cI,lM,lI,tk]
end
section
attribute [-simp] DV.cells
attribute [local simp] sliceD cells_st cells_sl cells_i cells_y cells_b cells_s cells_w
attribute [local simp] lend_eR al_eR lend_eN adopt_eN new_eN
theorem lend_gc2 (us:List T) (L:List (List Nat)):lendL (L.map (gcP 2 us))=L.map (gcP 0 us):=lend_gc 2 us L
theorem gIo_ok {us:List T} (h:us.all tOk=true) {g:List Nat} (hl:∀ k∈g,k < us.length):iOk (gIo us g):=by
 have b:=gDt_bd h hl
 have n:=grN_bd h hl
 exact ⟨b.1,n.1,n.2⟩
theorem sGi_sorted {us:List T} (h:us.all tOk=true) {m:Nat} {N:List (List Nat)} (hm:m=us.length) (G:Gok m N) (i:Nat):(sGi us N i).Pairwise (fun a b=>gLe (gIo us a) (gIo us b)=true) :=
 sG_sortedA h (N.take i) [] (fun g hg=>by subst hm; exact G.lt g (List.mem_of_mem_take hg)) (fun k hk=>by cases hk) List.Pairwise.nil
def stGr (us:List T) (A:List DV) (n K:Nat) (S:List (List Nat)) (i:Nat):LS :=
 ⟨[(0,.sl 0 (us.map e2)),(6,.fn n_impl_groupsByRatios_1 []),(7,.own K S.length 0 S.length),(20,.sl 0 A),(21,.i n),(22,.i i)],[(K,S.map (gcP 2 us))]⟩
set_option maxHeartbeats 8000000 in
theorem gr_loop {us:List T} (h:tsOk us=true) {N:List (List Nat)} (G:Gok us.length N) (j:Nat):∀ (i K:Nat),(K=3616∨K=15904)→i+j=N.length →
  ex lf F_impl_groupsByRatios_W0 (stGr us ((N.map ni).map eR) N.length K (sGi us N i) i)=some (.exit 0,stGr us ((N.map ni).map eR) N.length 3616 (sG us N) N.length):=by
 have h':=tsOk_iff.1 h
 have lN:=rows_le G
 have lendA:lendL ((N.map ni).map eR)=(N.map ni).map eR:=lend_eR _
 induction j with
 | zero =>
  intro i K hK hi
  have e:i=N.length:=by omega
  subst e
  rw [w_impl_groupsByRatios_0,sGi_all]
  rcases hK with rfl | rfl <;> simp [stGr,F_impl_groupsByRatios_L0]
 | succ j ih =>
  intro i K hK hi
  have k2:=ih (i+1) 15904 (.inr rfl) (by omega)
  have hlt:i < N.length:=by omega
  have hlt':(i:Int) < N.length:=by omega
  obtain ⟨g,hg⟩:∃ g,N[i]?=some g:=⟨_,List.getElem?_eq_getElem hlt⟩
  have gm:=List.mem_of_getElem? hg
  have gl:=G.lt g gm
  have g5:g.length≤5:=by have:=row_le G gm; omega
  have g1:1≤g.length:=by have:=List.length_pos_iff.2 (G.ne g gm); omega
  have gnd:g.Nodup:=by
   obtain ⟨A,B,hAB⟩:=List.append_of_mem gm
   have nd:=G.nd
   rw [hAB,List.flatten_append,List.flatten_cons] at nd
   exact (List.nodup_append.1 (List.nodup_append.1 nd).2.1).1
  have C1:=c_impl_groupOf h g1 g5 gnd gl
  have ip:=inT_perm us g
  have il:(inT us g).length=g.length:=ip.length_eq
  have im:∀ x∈inT us g,x < us.length:=fun x hx=>gl x (ip.mem_iff.1 hx)
  have ll:=sGi_len us (N:=N) (i:=i) (by omega)
  have hm:∀ o∈sGi us N i,gOk us o:=fun o ho=>by
   obtain ⟨q,hq,rfl⟩:=List.mem_map.1 ((sGi_perm us N i).mem_iff.1 ho)
   have qm:=List.mem_of_mem_take hq
   have qp:=inT_perm us q
   exact ⟨by have:=row_le G qm; rw [qp.length_eq]; omega,fun x hx=>G.lt q qm x (qp.mem_iff.1 hx)⟩
  have I:=c_impl_insertedG h'.2 (g:=inT us g) ⟨by omega,im⟩ (L:=sGi us N i) (by omega) hm (sGi_sorted h'.2 rfl G i) (fun o ho=>by
   rcases List.mem_cons.1 ho with rfl | ho
   ·exact gIo_ok h'.2 im
   ·exact gIo_ok h'.2 (hm o ho).2)
  have lI:(insG us (inT us g) (sGi us N i)).length=i+1:=by rw [insG_pos]; simp; have:=posG_le us (inT us g) (sGi us N i); omega
  rw [sGi_succ us hg] at k2
  have e1:gcP 0 us (inT us g)=.st [.i (grC us g),.i (grN us g),.sl 0 ((ni (inT us g)).map .i),.i (6 ^ g.length)]:=by
   have:=inT_cost h'.2 gl
   unfold gI at this
   unfold gcP
   rw [this,il]
  rw [e1] at I
  have a1:atI ((N.map ni).map eR) (i:Int)=some (.sl 0 ((ni g).map .i)):=at_eR (by rw [List.getElem?_map,hg]; rfl)
  have w1:=wr_succ (k:=i) (by omega)
  have lM:=lend_gc2 us (sGi us N i)
  have nM:((sGi us N i).map (gcP 2 us)).length=i:=by simp [ll]
  have nI:((insG us (inT us g) (sGi us N i)).map (gcP 2 us)).length=i+1:=by simp [lI]
  have aI:=adopt_gc2 false us (insG us (inT us g) (sGi us N i))
  have lI2:=lend_gc2 us (insG us (inT us g) (sGi us N i))
  have cM:∀ e∈(sGi us N i).map (gcP 0 us),e.cells.length=4:=fun e he=>by
   obtain ⟨o,_,rfl⟩:=List.mem_map.1 he; rfl
  have cM2:∀ e∈(sGi us N i).map (gcP 2 us),e.cells.length=4:=fun e he=>by
   obtain ⟨o,_,rfl⟩:=List.mem_map.1 he; rfl
  have cI:∀ e∈(insG us (inT us g) (sGi us N i)).map (gcP 2 us),e.cells.length=4:=fun e he=>by
   obtain ⟨o,_,rfl⟩:=List.mem_map.1 he; rfl
  have tk:List.take i ((sGi us N i).map (gcP 2 us))=(sGi us N i).map (gcP 2 us):=List.take_of_length_le (by simp [ll])
  have adJ:∀ b,adoptL b ((ni (inT us g)).map DV.i)=(ni (inT us g)).map .i:=fun b=>by simp
  have leJ:lendL ((ni (inT us g)).map DV.i)=(ni (inT us g)).map .i:=by simp
  unfold stGr at *
  rw [lI] at k2
  rw [ll] at ⊢
  rw [w_impl_groupsByRatios_0]
  generalize (insG us (inT us g) (sGi us N i)).map (gcP 2 us)=N2 at *
  generalize (sGi us N i).map (gcP 2 us)=M2 at *
  generalize (sGi us N i).map (gcP 0 us)=M at *
  generalize (sG us N).map (gcP 2 us)=R at *
  generalize (N.map ni).map eR=A at *
  generalize (ni (inT us g)).map DV.i=J at *
  generalize grC us g=D at *
  generalize grN us g=Q at *
  generalize (6:Int) ^ g.length=pw at *
  rcases hK with rfl | rfl <;> simp [F_impl_groupsByRatios_L0,hlt,hlt',lendA,C1,a1,I,w1,lM,nM,nI,aI,lI2,if_pos cM,if_pos cM2,if_pos cI,tk,adJ,leJ,k2,-Int.natCast_add]
end
section
attribute [-simp] DV.cells
attribute [local simp] sliceD cells_st cells_sl cells_i cells_y cells_b cells_s cells_w
attribute [local simp] lend_eR al_eR lend_eN adopt_eN new_eN
theorem c_impl_groupsByRatios (us:List T) (L:List (List Int)) (ha:(us.length:Int) < 1099511627776) (hb:(L.length:Int) < 1099511627776) :
  call lf n_impl_groupsByRatios [.sl 0 (us.map e2),.sl 0 (L.map eR)]=some (.tup [.fr 4 ((sgL us L).map (gcP 2 us)),.b (tsOk us && gokB us.length L)],[]):=by
 rw [call_k lf n_impl_groupsByRatios _ (F:=F_impl_groupsByRatios) rfl rfl]
 have C1:=c_impl_TestsOk us ha
 have C2:=c_impl_GroupsOk us.length L hb
 have lA:lendL (L.map eR)=L.map eR:=lend_eR _
 cases h1:tsOk us with
 | false =>
  rw [h1] at C1
  have e:sgL us L=[]:=by unfold sgL; rw [h1]; rfl
  rw [e]
  simp [F_impl_groupsByRatios,C1]
 | true =>
  rw [h1] at C1
  cases h2:gokB us.length L with
  | false =>
   rw [h2] at C2
   have e:sgL us L=[]:=by unfold sgL; rw [h1,h2]; rfl
   rw [e]
   simp [F_impl_groupsByRatios,C1,C2,lA]
  | true =>
   rw [h2] at C2
   obtain ⟨N,rfl,G,_,_,e1,_⟩:=sgL_of (us:=us) (L:=L) (by rw [h1,h2]; rfl)
   have I:=gr_loop h1 G N.length 0 3616 (.inl rfl) (by omega)
   have z:sGi us N 0=[]:=rfl
   rw [z] at I
   unfold stGr at I
   rw [e1]
   simp only [Int.natCast_zero,List.length_nil,List.map_nil] at I
   have nl:((N.map ni).map eR).length=N.length:=by simp
   have nR':((sG us N).map (gcP 2 us)).length=(sG us N).length:=by simp
   have cR:∀ e∈(sG us N).map (gcP 2 us),e.cells.length=4:=fun e he=>by
    obtain ⟨o,_,rfl⟩:=List.mem_map.1 he; rfl
   generalize (N.map ni).map eR=A at *
   generalize (sG us N).map (gcP 2 us)=R at *
   simp [F_impl_groupsByRatios,C1,C2,lA,I,nl,nR',if_pos cR]
end
section
attribute [-simp] DV.cells
attribute [local simp] sliceD cells_st cells_sl cells_i cells_y cells_b cells_s cells_w
attribute [local simp] lend_eR al_eR lend_eN adopt_eN new_eN
def orW (g:List Nat):BitVec 32:=g.foldl (fun a k=>a ||| yesW k) 0#32
theorem orW_bitA {s:Nat} (hs:s < 32):∀ (g:List Nat) (a:BitVec 32),(∀ k∈g,k < 5)→(g.foldl (fun a k=>a ||| yesW k) a).getLsbD s=(a.getLsbD s || g.any fun k=>s.testBit k)
 | [],a,_=>by simp
 | k :: r,a,h=>by
  have y:=yes_bit ⟨k,h k List.mem_cons_self⟩ ⟨s,hs⟩
  simp only at y
  rw [List.foldl_cons,orW_bitA hs r _ (fun x hx=>h x (List.mem_cons_of_mem _ hx)),BitVec.getLsbD_or,y,List.any_cons,Bool.or_assoc]
theorem orW_bit {s:Nat} (hs:s < 32) {g:List Nat} (h:∀ k∈g,k < 5):(orW g).getLsbD s=g.any fun k=>s.testBit k:=by
 unfold orW
 rw [orW_bitA hs g _ h]
 simp
def stWy (es:List DV) (w:BitVec 32) (n k:Int):LS:=⟨[(3,.w w),(6,.sl 0 es),(7,.i n),(8,.i k),(1048576,.adr (.st [.w 2863311530#32,.w 3435973836#32,.w 4042322160#32,.w 4278255360#32,.w 4294901760#32]))],[]⟩
set_option maxHeartbeats 4000000 in
theorem c_impl_statesWithYes {g:List Nat} (hg:∀ k∈g,k < 5) (hl:g.length≤5):call lf n_impl_statesWithYes [.sl 0 ((ni g).map .i)]=some (.w (orW g),[]):=by
 have nl:((ni g).map DV.i).length=g.length:=by simp [ni_len]
 have L:ex lf F_impl_statesWithYes_W0 (stWy ((ni g).map .i) 0#32 g.length 0)=some (.exit 0,stWy ((ni g).map .i) (orW g) g.length g.length):=by
  have e0:(0#32:BitVec 32)=orW (g.take 0):=rfl
  have e9:orW g=orW (g.take g.length):=by rw [List.take_length]
  rw [e0,e9]
  refine loop_count g.length (fun i=>stWy ((ni g).map .i) (orW (g.take i)) g.length i) (fun i hi=>?_) ?_ (by simp)
  ·have hi':(i:Int) < g.length:=by omega
   obtain ⟨k,hk⟩:∃ k,g[i]?=some k:=⟨_,List.getElem?_eq_getElem hi⟩
   have k5:=hg k (List.mem_of_getElem? hk)
   have k5':(k:Int) < 5:=by omega
   have y:=yes_at k5
   have A:atI ((ni g).map DV.i) (i:Int)=some (.i k):=by
    simp only [atI,if_pos (Int.natCast_nonneg i)]
    show ((ni g).map DV.i)[(i:Int).toNat]?=_
    rw [Int.toNat_natCast,List.getElem?_map]
    unfold ni
    rw [List.getElem?_map,hk]; rfl
   have e:orW (g.take (i+1))=orW (g.take i) ||| yesW k:=by
    unfold orW
    rw [List.take_add_one,hk,Option.toList_some,List.foldl_append]; rfl
   have w1:=wr_succ (k:=i) (by omega)
   rw [e]
   generalize orW (g.take i)=W at *
   generalize (ni g).map DV.i=es at *
   simp [stWy,F_impl_statesWithYes_L0,hi',A,y,k5',w1,-Int.natCast_add]
  ·simp [stWy,F_impl_statesWithYes_L0]
 unfold stWy at L
 rw [call_k lf n_impl_statesWithYes _ (F:=F_impl_statesWithYes) rfl rfl]
 generalize (ni g).map DV.i=es at *
 simp [F_impl_statesWithYes,gEnv_0,nl,L]
def opG (ks:List Int) (g:List Nat):Bool:=vaW (orW g) (lfW ks) == -1
def stWi (A:List DV) (f:DV) (n k:Int):LS:=⟨[(0,.sl 0 A),(1,f),(7,.i n),(8,.i k)],[]⟩
theorem c_impl_nextInGroups_1 {m:Nat} {t us:List T} {ks:List Int} {g:List Nat} (hg:∀ k∈g,k < 5) (hl:g.length≤5) :
  call lf n_impl_nextInGroups_1 [gcP 0 us g,.adr (pD m t ks)]=some (.b (opG ks g),[]):=by
 have C1:=c_impl_statesWithYes hg hl
 have C2:=c_impl_valueAmong (orW g) (lfW ks)
 have lJ:lendL ((ni g).map DV.i)=(ni g).map .i:=by simp
 have adJ:∀ b,adoptL b ((ni g).map DV.i)=(ni g).map .i:=fun b=>by simp
 rw [call_k lf n_impl_nextInGroups_1 _ (F:=F_impl_nextInGroups_1) rfl rfl]
 unfold opG gcP pD pv
 generalize (gIo us g).1=x1 at *
 generalize (gIo us g).2.1=x2 at *
 generalize (6:Int) ^ g.length=pw at *
 generalize orW g=W at *
 generalize (ni g).map DV.i=J at *
 simp [F_impl_nextInGroups_1,C1,C2,lJ,adJ]
set_option maxHeartbeats 4000000 in
theorem c_IndexG {m:Nat} {t us:List T} {ks:List Int} {S:List (List Nat)} (hS:S.length≤5) (h5:∀ g∈S,g.length≤5∧∀ k∈g,k < 5) {A B:List (List Nat)} {g:List Nat} (e:S=A++g :: B) (hA:∀ x∈A,opG ks x=false) (hg:opG ks g=true) :
  call lf n_slices_IndexFunc_impl_askedGroup_impl_askedGroup [.sl 0 (S.map (gcP 0 us)),.fn n_impl_nextInGroups_1 [.adr (pD m t ks)]]=some (.i A.length,[]):=by
 have nS:(S.map (gcP 0 us)).length=S.length:=by simp
 have CA:∀ (i:Nat) (x:List Nat),S[i]?=some x→atI (S.map (gcP 0 us)) (i:Int)=some (gcP 0 us x)∧call lf n_impl_nextInGroups_1 [gcP 0 us x,.adr (pD m t ks)]=some (.b (opG ks x),[]):=fun i x hx=>by
  refine ⟨?_,c_impl_nextInGroups_1 (h5 x (List.mem_of_getElem? hx)).2 (h5 x (List.mem_of_getElem? hx)).1⟩
  simp only [atI,if_pos (Int.natCast_nonneg i)]
  show (S.map (gcP 0 us))[(i:Int).toNat]?=_
  rw [Int.toNat_natCast,List.getElem?_map,hx]; rfl
 have key:∀ (d i:Nat),i+d=A.length→ex lf F_slices_IndexFunc_impl_askedGroup_impl_askedGroup_W0 (stWi (S.map (gcP 0 us)) (.fn n_impl_nextInGroups_1 [.adr (pD m t ks)]) S.length i)=some (.ret,⟨[(4,.i A.length)],[]⟩):=by
  intro d
  induction d with
  | zero =>
   intro i hi
   have hi:i=A.length:=by omega
   subst hi
   have lt:A.length < S.length:=by rw [e]; simp
   have lt':(A.length:Int) < S.length:=by omega
   obtain ⟨a1,c1⟩:=CA A.length g (by rw [e]; simp)
   rw [hg] at c1
   have gl:lendL (gcP 0 us g).cells=(gcP 0 us g).cells:=by simp [gcP,DV.cells]
   rw [w_slices_IndexFunc_impl_askedGroup_impl_askedGroup_0]
   unfold stWi
   generalize S.map (gcP 0 us)=M at *
   have lJ:lendL ((ni g).map DV.i)=(ni g).map .i:=by simp
   unfold gcP at *
   unfold pD pv at *
   generalize (ni g).map DV.i=J at *
   simp [F_slices_IndexFunc_impl_askedGroup_impl_askedGroup_L0,lt,lt',a1,c1,lJ,-Int.natCast_add]
  | succ d ih =>
   intro i hi
   have ih:=ih (i+1) (by omega)
   have lt:i < S.length:=by rw [e]; simp; omega
   have lt':(i:Int) < S.length:=by omega
   obtain ⟨x,hx⟩:∃ x,A[i]?=some x:=⟨_,List.getElem?_eq_getElem (by omega)⟩
   obtain ⟨a1,c1⟩:=CA i x (by rw [e,List.getElem?_append_left (by omega)]; exact hx)
   rw [hA x (List.mem_of_getElem? hx)] at c1
   have w1:=wr_succ (k:=i) (by omega)
   rw [w_slices_IndexFunc_impl_askedGroup_impl_askedGroup_0]
   unfold stWi at *
   generalize S.map (gcP 0 us)=M at *
   have lJ:lendL ((ni x).map DV.i)=(ni x).map .i:=by simp
   unfold gcP at *
   unfold pD pv at *
   generalize (ni x).map DV.i=J at *
   simp [F_slices_IndexFunc_impl_askedGroup_impl_askedGroup_L0,lt,lt',a1,c1,lJ,w1,ih,-Int.natCast_add]
 have K:=key A.length 0 (by omega)
 unfold stWi at K
 simp only [Int.natCast_zero] at K
 rw [call_k lf n_slices_IndexFunc_impl_askedGroup_impl_askedGroup _ (F:=F_slices_IndexFunc_impl_askedGroup_impl_askedGroup) rfl rfl]
 generalize S.map (gcP 0 us)=M at *
 unfold pD pv at *
 simp [F_slices_IndexFunc_impl_askedGroup_impl_askedGroup,nS,K]
theorem c_IndexI {m:Nat} (hm:m≤5) {t:List T} {ks:List Int} (hl:ks.length=m) {g P r:List Nat} {k:Nat} (g5:g.length≤5) (e:g=P++k :: r) (hP:∀ x∈P,caK m ks x=false) (hk:caK m ks k=true) :
  call lf n_slices_IndexFunc_int_int [.sl 0 ((ni g).map .i),.fn n_impl_point_canAsk (.dead :: (pD m t ks).cells)]=some (.i P.length,[]):=by
 have nS:((ni g).map DV.i).length=g.length:=by simp [ni_len]
 have CA:∀ (i:Nat) (x:Nat),g[i]?=some x→atI ((ni g).map DV.i) (i:Int)=some (.i x)∧call lf n_impl_point_canAsk [pD m t ks,.i x]=some (.b (caK m ks x),[]):=fun i x hx=>by
  refine ⟨?_,c_canAsk hm hl x⟩
  simp only [atI,if_pos (Int.natCast_nonneg i)]
  show ((ni g).map DV.i)[(i:Int).toNat]?=_
  rw [Int.toNat_natCast,List.getElem?_map]
  unfold ni
  rw [List.getElem?_map,hx]; rfl
 have key:∀ (d i:Nat),i+d=P.length→ex lf F_slices_IndexFunc_int_int_W0 (stWi ((ni g).map .i) (.fn n_impl_point_canAsk (.dead :: (pD m t ks).cells)) g.length i)=some (.ret,⟨[(4,.i P.length)],[]⟩):=by
  intro d
  induction d with
  | zero =>
   intro i hi
   have hi:i=P.length:=by omega
   subst hi
   have lt:P.length < g.length:=by rw [e]; simp
   have lt':(P.length:Int) < g.length:=by omega
   obtain ⟨a1,c1⟩:=CA P.length k (by rw [e]; simp)
   rw [hk] at c1
   rw [w_slices_IndexFunc_int_int_0]
   unfold stWi
   generalize (ni g).map DV.i=M at *
   unfold pD pv at *
   simp [F_slices_IndexFunc_int_int_L0,lt,lt',a1,c1,-Int.natCast_add]
  | succ d ih =>
   intro i hi
   have ih:=ih (i+1) (by omega)
   have lt:i < g.length:=by rw [e]; simp; omega
   have lt':(i:Int) < g.length:=by omega
   obtain ⟨x,hx⟩:∃ x,P[i]?=some x:=⟨_,List.getElem?_eq_getElem (by omega)⟩
   obtain ⟨a1,c1⟩:=CA i x (by rw [e,List.getElem?_append_left (by omega)]; exact hx)
   rw [hP x (List.mem_of_getElem? hx)] at c1
   have w1:=wr_succ (k:=i) (by omega)
   rw [w_slices_IndexFunc_int_int_0]
   unfold stWi at *
   generalize (ni g).map DV.i=M at *
   unfold pD pv at *
   simp only [cells_st] at ih
   simp [F_slices_IndexFunc_int_int_L0,lt,lt',a1,c1,w1,ih,-Int.natCast_add]
 have K:=key P.length 0 (by omega)
 unfold stWi at K
 simp only [Int.natCast_zero] at K
 rw [call_k lf n_slices_IndexFunc_int_int _ (F:=F_slices_IndexFunc_int_int) rfl rfl]
 generalize (ni g).map DV.i=M at *
 unfold pD pv at *
 simp only [cells_st] at K
 simp [F_slices_IndexFunc_int_int,nS,K]
end
section
attribute [-simp] DV.cells
attribute [local simp] sliceD cells_st cells_sl cells_i cells_y cells_b cells_s cells_w
attribute [local simp] lend_e3 adopt_e3 new_e3 al_e3 lt_e3
set_option maxHeartbeats 8000000 in
theorem pf_stepG {m:Nat} {t:List T} {GG:List DV} {ks:List Int} {k place:Nat} (lG:lendL GG=GG) (ht:tmOk m t=true) (hm:m≤5) (hl:ks.length=m) (hk:ks.all kOk=true) (hc:fcd m t ks=false) (hkk:ks[k]?=some (-1)) {N Y:List C3} (hb:place+1+N.length+Y.length≤100)
  (CA:call lf n_impl_GroupPlan_1 ([pD m t ks]++[.adr (.sl 0 GG)])=some (.i k,[]))
  (R0:call lf n_impl_planFrom [pD m t (ks.set k 0),.i ((place+1:Nat):Int),.fn n_impl_GroupPlan_1 [.adr (.sl 0 GG)]]=some (.fr 3 (N.map e3),[]))
  (R1:call lf n_impl_planFrom [pD m t (ks.set k 1),.i ((place+1+N.length:Nat):Int),.fn n_impl_GroupPlan_1 [.adr (.sl 0 GG)]]=some (.fr 3 (Y.map e3),[])) :
  call lf n_impl_planFrom [pD m t ks,.i place,.fn n_impl_GroupPlan_1 [.adr (.sl 0 GG)]]=some (.fr 3 ((lay3 k place N Y).map e3),[]):=by
 have F:=c_isForced ht hl hk
 rw [hc] at F
 have B0:=c_answered (m:=m) (t:=t) false (by omega) hk hkk
 have B1:=c_answered (m:=m) (t:=t) true (by omega) hk hkk
 rw [bI_0] at B0
 rw [bI_1] at B1
 have w1:wr ((place:Int)+1)=((place+1:Nat):Int):=by rw [wr_id (by omega) (by omega)]; omega
 have w2:wr (((place+1:Nat):Int)+(N.length:Int))=((place+1+N.length:Nat):Int):=by rw [wr_id (by omega) (by omega)]; omega
 have lN:(N.map e3).length=N.length:=by simp
 have lY:(Y.map e3).length=Y.length:=by simp
 have eN:=lend_e3 N
 have eY:=lend_e3 Y
 have aN':=fun x=>adopt_e3 x N
 have aY':=fun x=>adopt_e3 x Y
 have nN:=new_e3 N
 have nY:=new_e3 Y
 have C:=c_impl_laidOut (k:Int) (place:=place) (N:=N) (Y:=Y) (by omega)
 have fin:(lay3 k place N Y).map e3=[.st [.i k,.i (if N=[] then -1 else ((place+1:Nat):Int)),.i (if Y=[] then -1 else ((place+1+N.length:Nat):Int))]]++N.map e3++Y.map e3:=by
  unfold lay3
  simp [e3]
 rw [← fin] at C
 have tN:List.take N.length (N.map e3)=N.map e3:=List.take_of_length_le (by simp)
 have tY:List.take Y.length (Y.map e3)=Y.map e3:=List.take_of_length_le (by simp)
 have nL:=new_e3 (lay3 k place N Y)
 have aL:=fun x=>adopt_e3 x (lay3 k place N Y)
 have lL:((lay3 k place N Y).map e3).length=(lay3 k place N Y).length:=by simp
 have tL:List.take (lay3 k place N Y).length ((lay3 k place N Y).map e3)=(lay3 k place N Y).map e3:=List.take_of_length_le (by simp)
 rw [call_k lf n_impl_planFrom _ (F:=F_impl_planFrom) rfl rfl]
 unfold pD pv at *
 simp only [List.cons_append,List.nil_append] at CA
 clear fin
 generalize (lay3 k place N Y).map e3=R at *
 generalize (lay3 k place N Y).length=r at *
 generalize N.map e3=M at *
 generalize Y.map e3=Q at *
 generalize N.length=n at *
 generalize Y.length=y at *
 simp [F_impl_planFrom,lG,F,CA,B0,B1,R0,R1,w1,w2,C,lN,lY,eN,eY,aN',aY',nN,nY,tN,tY,nL,aL,lL,tL,-Int.natCast_add]
theorem pf_stopG {m:Nat} {t:List T} {GG:List DV} {ks:List Int} {place:Nat} (lG:lendL GG=GG) (ht:tmOk m t=true) (hl:ks.length=m) (hk:ks.all kOk=true) (hc:fcd m t ks=true) :
  call lf n_impl_planFrom [pD m t ks,.i place,.fn n_impl_GroupPlan_1 [.adr (.sl 0 GG)]]=some (.fr 3 [],[]):=by
 have F:=c_isForced ht hl hk
 rw [hc] at F
 rw [call_k lf n_impl_planFrom _ (F:=F_impl_planFrom) rfl rfl]
 unfold pD pv at *
 simp [F_impl_planFrom,lG,F]
end
section
attribute [-simp] DV.cells
attribute [local simp] sliceD cells_st cells_sl cells_i cells_y cells_b cells_s cells_w
attribute [local simp] lend_eR al_eR lend_eN adopt_eN new_eN
attribute [local simp] lend_e3 adopt_e3 new_e3 al_e3 lt_e3
theorem vaW_one {v w:BitVec 32} (h:∀ s,s < 32→w.getLsbD s=true→v.getLsbD s=true):vaW v w=1:=by
 have e:v &&& w=w:=by
  apply BitVec.eq_of_getLsbD_eq
  intro s hs
  rw [BitVec.getLsbD_and]
  cases hw:w.getLsbD s with
  | false=>simp
  | true=>simp [h s hs hw]
 unfold vaW
 rw [e]; simp
theorem vaW_open {v w:BitVec 32} {s0 s1:Nat} (h0:w.getLsbD s0=true) (h1:v.getLsbD s0=false) (h2:w.getLsbD s1=true) (h3:v.getLsbD s1=true):vaW v w=-1:=by
 have e1:(v &&& w == w)=false:=beq_false_of_ne fun e=>by
  have:=congrArg (fun x=>x.getLsbD s0) e
  simp [BitVec.getLsbD_and,h0,h1] at this
 have e2:(v &&& w == 0#32)=false:=beq_false_of_ne fun e=>by
  have:=congrArg (fun x=>x.getLsbD s1) e
  simp [BitVec.getLsbD_and,h2,h3] at this
 unfold vaW
 rw [e1,e2]; rfl
theorem st_lt {m s:Nat} (hm:m≤5) (h:s < 2 ^ m):s < 32:=Nat.lt_of_lt_of_le h (Nat.pow_le_pow_right (n:=2) (by omega) hm)
theorem opG_yes {ks:List Int} {g:List Nat} (hk:ks.all kOk=true) (hl:ks.length≤5) (hg:∀ k∈g,k < 5) (h:gYes ks g=true):opG ks g=false:=by
 unfold gYes at h
 obtain ⟨k,k1,k2⟩:=List.any_eq_true.1 h
 rw [beq_iff_eq] at k2
 have e:vaW (orW g) (lfW ks)=1:=vaW_one fun s hs hw=>by
  rw [lfW_bit hk hl hs] at hw
  rw [orW_bit hs hg,List.any_eq_true]
  refine ⟨k,k1,?_⟩
  have:=(agB_iff.1 hw k 1 k2).resolve_left (by omega)
  cases hb:s.testBit k with
  | true=>rfl
  | false=>rw [hb] at this; simp [bI] at this
 unfold opG
 rw [e]; rfl
theorem opG_open {ks:List Int} {g:List Nat} {k:Nat} (hk:ks.all kOk=true) (hl:ks.length≤5) (hg:∀ k∈g,k < 5) (hkg:k∈g) (hu:ks[k]?=some (-1)) (h:∀ j∈g,ks[j]?=some 0∨ks[j]?=some (-1)):opG ks g=true:=by
 have c1:=kOk_set hk k true
 rw [bI_1] at c1
 obtain ⟨s1,a1,a2⟩:=agB_some c1
 rw [List.length_set] at a1
 have a3:agB ks s1=true:=by
  rw [agB_iff] at a2 ⊢
  intro j v hj
  by_cases e:k=j
  ·subst e; rw [hu] at hj; injection hj with hj; exact .inl hj.symm
  ·exact a2 j v (by rw [List.getElem?_set_ne e]; exact hj)
 have a4:s1.testBit k=true:=by
  have:=(agB_iff.1 a2 k 1 (by rw [List.getElem?_set_self (List.getElem?_eq_some_iff.1 hu).1])).resolve_left (by omega)
  cases hb:s1.testBit k with
  | true=>rfl
  | false=>rw [hb] at this; simp [bI] at this
 have c0:(ks.map fun v=>if v=-1 then 0 else v).all kOk=true:=by
  rw [List.all_eq_true] at hk ⊢
  intro x hx
  obtain ⟨v,hv,rfl⟩:=List.mem_map.1 hx
  by_cases e:v=-1
  ·rw [if_pos e]; decide
  ·rw [if_neg e]; exact hk v hv
 obtain ⟨s0,b1,b2⟩:=agB_some c0
 rw [List.length_map] at b1
 have b3:agB ks s0=true:=by
  rw [agB_iff] at b2 ⊢
  intro j v hj
  by_cases e:v=-1
  ·exact .inl e
  ·exact b2 j v (by rw [List.getElem?_map,hj]; simp [e])
 have b4:∀ j∈g,s0.testBit j=false:=fun j hj=>by
  have e:(ks.map fun v=>if v=-1 then 0 else v)[j]?=some 0:=by
   rw [List.getElem?_map]
   rcases h j hj with h | h <;> rw [h] <;> rfl
  have:=(agB_iff.1 b2 j 0 e).resolve_left (by omega)
  cases hb:s0.testBit j with
  | false=>rfl
  | true=>rw [hb] at this; simp [bI] at this
 have t0:=st_lt hl b1
 have t1:=st_lt hl a1
 have e:vaW (orW g) (lfW ks)=-1:=vaW_open (s0:=s0) (s1:=s1) (by rw [lfW_bit hk hl t0]; exact b3) (by
   rw [orW_bit t0 hg,List.any_eq_false]
   intro j hj
   rw [b4 j hj]; simp) (by rw [lfW_bit hk hl t1]; exact a3) (by
   rw [orW_bit t1 hg,List.any_eq_true]
   exact ⟨k,hkg,a4⟩)
 unfold opG
 rw [e]; rfl
set_option maxHeartbeats 4000000 in
theorem c_impl_nextInGroups {m:Nat} (hm:m≤5) {t us:List T} {ks:List Int} (hl:ks.length=m) {S:List (List Nat)} (hS:S.length≤5) (h5:∀ g∈S,g.length≤5∧∀ k∈g,k < 5) {A B:List (List Nat)} {g P r:List Nat} {k:Nat} (e:S=A++g :: B) (eg:g=P++k :: r) (hA:∀ x∈A,opG ks x=false) (hg:opG ks g=true) (hP:∀ x∈P,caK m ks x=false) (hk:caK m ks k=true) :
  call lf n_impl_nextInGroups [.sl 0 (S.map (gcP 0 us)),pD m t ks]=some (.i k,[]):=by
 have C1:=c_IndexG (m:=m) (t:=t) (us:=us) hS h5 e hA hg
 have gm:g∈S:=by rw [e]; simp
 have C2:=c_IndexI hm (t:=t) hl (h5 g gm).1 eg hP hk
 have lG:=lend_gc 0 us S
 have nS:(S.map (gcP 0 us)).length=S.length:=by simp
 have A1:atI (S.map (gcP 0 us)) (A.length:Int)=some (gcP 0 us g):=by
  simp only [atI,if_pos (Int.natCast_nonneg A.length)]
  show (S.map (gcP 0 us))[(A.length:Int).toNat]?=_
  rw [Int.toNat_natCast,List.getElem?_map,e]
  simp
 have A2:atI ((ni g).map DV.i) (P.length:Int)=some (.i k):=by
  simp only [atI,if_pos (Int.natCast_nonneg P.length)]
  show ((ni g).map DV.i)[(P.length:Int).toNat]?=_
  rw [Int.toNat_natCast,List.getElem?_map]
  unfold ni
  rw [List.getElem?_map,eg]
  simp
 have lJ:lendL ((ni g).map DV.i)=(ni g).map .i:=by simp
 rw [call_k lf n_impl_nextInGroups _ (F:=F_impl_nextInGroups) rfl rfl]
 generalize S.map (gcP 0 us)=M at *
 unfold gcP at A1
 unfold pD pv at *
 generalize (ni g).map DV.i=J at *
 simp only [cells_st] at C2
 simp [F_impl_nextInGroups,C1,C2,lG,A1,A2,lJ]
set_option maxHeartbeats 4000000 in
theorem c_impl_GroupPlan_1 {m:Nat} {t us:List T} {ks:List Int} {S:List (List Nat)} {k:Nat} (h:call lf n_impl_nextInGroups [.sl 0 (S.map (gcP 0 us)),pD m t ks]=some (.i k,[])):call lf n_impl_GroupPlan_1 ([pD m t ks]++[.adr (.sl 0 (S.map (gcP 0 us)))])=some (.i k,[]):=by
 have lG:=lend_gc 0 us S
 show call lf n_impl_GroupPlan_1 [pD m t ks,.adr (.sl 0 (S.map (gcP 0 us)))]=_
 rw [call_k lf n_impl_GroupPlan_1 _ (F:=F_impl_GroupPlan_1) rfl rfl]
 generalize S.map (gcP 0 us)=M at *
 unfold pD pv at *
 simp [F_impl_GroupPlan_1,h,lG]
def Chs (m:Nat) (t:List T) (GG:List DV):PT→List Int→Prop
 | .stop,_=>True
 | .ask k n y,ks=>call lf n_impl_GroupPlan_1 ([pD m t ks]++[.adr (.sl 0 GG)])=some (.i k,[])∧Chs m t GG n (ks.set k 0)∧Chs m t GG y (ks.set k 1)
theorem pf_tree {m:Nat} (hm:m≤5) {t:List T} (ht:tmOk m t=true) {GG:List DV} (lG:lendL GG=GG):∀ (x:PT) (ks:List Int) (place:Nat),okT m t ks x→Chs m t GG x ks→ks.length=m→ks.all kOk=true→place+x.size≤40 →
  call lf n_impl_planFrom [pD m t ks,.i place,.fn n_impl_GroupPlan_1 [.adr (.sl 0 GG)]]=some (.fr 3 ((ser x place).map e3),[])
 | .stop,ks,place,ok,_,hl,hk,_=>pf_stopG lG ht hl hk ok
 | .ask k n y,ks,place,ok,hc,hl,hk,hp=>by
  obtain ⟨o1,o2,o3,o4⟩:=ok
  obtain ⟨c1,c2,c3⟩:=hc
  simp only [PT.size] at hp
  have k0:=kOk_set hk k false
  have k1:=kOk_set hk k true
  rw [bI_0] at k0
  rw [bI_1] at k1
  have G0:=pf_tree hm ht lG n (ks.set k 0) (place+1) o3 c2 (by simpa using hl) k0 (by omega)
  have G1:=pf_tree hm ht lG y (ks.set k 1) (place+1+n.size) o4 c3 (by simpa using hl) k1 (by omega)
  have l0:=ser_len n (place+1)
  have l1:=ser_len y (place+1+n.size)
  rw [← lay_ser]
  exact pf_stepG lG ht hm hl hk o1 o2 (by omega) c1 G0 (by rw [l0]; exact G1)
theorem gT_chs {m:Nat} (hm:m≤5) {t us:List T} {S:List (List Nat)} (hS:S.length≤5) (h5:∀ g∈S,g.length≤5∧∀ k∈g,k < m):∀ (R D:List (List Nat)) (ks:List Int),S=D++R→ks.length=m→ks.all kOk=true→(∀ g∈D,gYes ks g=true)→R.flatten.Nodup→(∀ k∈R.flatten,ks[k]?=some (-1)) →
  Chs m t (S.map (gcP 0 us)) (gT R) ks
 | [],_,_,_,_,_,_,_,_=>trivial
 | g0 :: R,D,ks,eS,hl,hk,hD,nd,hu=>by
  rw [List.flatten_cons] at nd hu
  obtain ⟨n1,n2,n3⟩:=List.nodup_append.1 nd
  have h5':∀ g∈S,g.length≤5∧∀ k∈g,k < 5:=fun g hg=>⟨(h5 g hg).1,fun k hk=>by have:=(h5 g hg).2 k hk; omega⟩
  have key:∀ (g P:List Nat) (ks:List Int),P++g=g0→ks.length=m→ks.all kOk=true→(∀ g∈D,gYes ks g=true)→(∀ k∈P,ks[k]?=some 0)→(∀ k∈g,ks[k]?=some (-1))→(∀ k∈R.flatten,ks[k]?=some (-1)) →
    Chs m t (S.map (gcP 0 us)) (gG g (gT R)) ks:=by
   intro g
   induction g with
   | nil=>intro P ks _ _ _ _ _ _ _; trivial
   | cons k g ih =>
    intro P ks e hl hk hD hP hg hR
    have h1:=hg k List.mem_cons_self
    have hn:(P++k :: g).Nodup:=by rw [e]; exact n1
    obtain ⟨m1,m2,m3⟩:=List.nodup_append.1 hn
    obtain ⟨m4,m5⟩:=List.nodup_cons.1 m2
    have kg0:k∈g0:=by rw [← e]; exact List.mem_append_right _ List.mem_cons_self
    have kR:k∉R.flatten:=fun q=>n3 k kg0 k q rfl
    have k0:=kOk_set hk k false
    have k1:=kOk_set hk k true
    rw [bI_0] at k0
    rw [bI_1] at k1
    have gS:g0∈S:=by rw [eS]; simp
    have hl5:ks.length≤5:=by omega
    refine ⟨c_impl_GroupPlan_1 (c_impl_nextInGroups hm hl hS h5' eS e.symm (fun x hx=>opG_yes hk hl5 (h5' x (by rw [eS]; exact List.mem_append_left _ hx)).2 (hD x hx)) (opG_open hk hl5 (h5' g0 gS).2 kg0 h1 fun j hj=>?_) (fun x hx=>?_) ?_),?_,?_⟩
    ·rw [← e] at hj
     rcases List.mem_append.1 hj with q | q
     ·exact .inl (hP j q)
     ·exact .inr (hg j q)
    ·unfold caK
     rw [Int.toNat_natCast,hP x hx]
     simp
    ·have:=(h5 g0 gS).2 k kg0
     unfold caK
     rw [Int.toNat_natCast,h1]
     simp; omega
    ·refine ih (P++[k]) (ks.set k 0) (by rw [← e]; simp) (by simpa using hl) k0 (fun x hx=>gYes_mono h1 (hD x hx)) (fun j hj=>?_) (fun j hj=>?_) (fun j hj=>?_)
     ·rcases List.mem_append.1 hj with q | q
      ·rw [List.getElem?_set_ne (show k≠j from fun r=>m3 j q k List.mem_cons_self r.symm)]
       exact hP j q
      ·rw [List.mem_singleton.1 q,List.getElem?_set_self (List.getElem?_eq_some_iff.1 h1).1]
     ·rw [List.getElem?_set_ne (show k≠j from fun r=>m4 (by rw [r]; exact hj))]
      exact hg j (List.mem_cons_of_mem _ hj)
     ·rw [List.getElem?_set_ne (show k≠j from fun r=>kR (by rw [r]; exact hj))]
      exact hR j hj
    ·refine gT_chs hm hS h5 R (D++[g0]) (ks.set k 1) (by rw [eS]; simp) (by simpa using hl) k1 (fun x hx=>?_) n2 (fun j hj=>?_)
     ·rcases List.mem_append.1 hx with q | q
      ·exact gYes_mono h1 (hD x q)
      ·rw [List.mem_singleton.1 q]; exact gYes_yes h1 kg0
     ·rw [List.getElem?_set_ne (show k≠j from fun r=>kR (by rw [r]; exact hj))]
      exact hR j hj
  exact key g0 [] ks rfl hl hk hD (fun k hk=>by cases hk) (fun k hk=>hu k (List.mem_append_left _ hk)) (fun k hk=>hu k (List.mem_append_right _ hk))
end
section
attribute [-simp] DV.cells
attribute [local simp] sliceD cells_st cells_sl cells_i cells_y cells_b cells_s cells_w
attribute [local simp] lend_eR al_eR lend_eN adopt_eN new_eN
attribute [local simp] lend_e3 adopt_e3 new_e3 al_e3 lt_e3
def gpL (us:List T) (L:List (List Int)):List C3:=if tsOk us && gokB us.length L then ser (gT (sG us (L.map (List.map Int.toNat)))) 0 else []
theorem gp_of {us:List T} {L:List (List Int)} (h:(tsOk us && gokB us.length L)=true):∃ N:List (List Nat),L=N.map ni∧Gok us.length N∧tsOk us=true∧sgL us L=sG us N∧gpL us L=ser (gT (sG us N)) 0∧gtL us.length L=grL N∧tmOk us.length (grL N)=true∧okT us.length (grL N) (non us.length) (gT (sG us N)):=by
 obtain ⟨N,rfl,G,h1,h2,e1,_⟩:=sgL_of h
 have h':=tsOk_iff.1 h1
 obtain ⟨t1,_,_,t4⟩:=gr_term (m:=us.length) (by omega) (by omega) G
 refine ⟨N,rfl,G,h1,e1,?_,?_,t1,(gT_plan h'.2 G t4).1⟩
 ·unfold gpL; rw [if_pos h,toNat_ni]
 ·unfold gtL; rw [h2,toNat_ni]; rfl
set_option maxHeartbeats 4000000 in
theorem c_impl_GroupPlan (us:List T) (L:List (List Int)) (ha:(us.length:Int) < 1099511627776) (hb:(L.length:Int) < 1099511627776) :
  call lf n_impl_GroupPlan [.sl 0 (us.map e2),.sl 0 (L.map eR)]=some (.tup [.fr 3 ((gpL us L).map e3),.b (tsOk us && gokB us.length L)],[]):=by
 rw [call_k lf n_impl_GroupPlan _ (F:=F_impl_GroupPlan) rfl rfl]
 have C:=c_impl_groupsByRatios us L ha hb
 have lA:lendL (L.map eR)=L.map eR:=lend_eR _
 cases h:(tsOk us && gokB us.length L) with
 | true =>
  obtain ⟨N,rfl,G,h1,e1,e2',e3',t1,ok⟩:=gp_of h
  have h1':=tsOk_iff.1 h1
  have GS:=sG_gok (us:=us) G
  rw [e1,h] at C
  rw [e2']
  have GT:=c_impl_GroupTerm us.length (N.map ni) hb
  rw [e3'] at GT
  have ST:=c_startOf (m:=us.length) (t:=grL N) (by omega) t1
  have lS:=rows_le GS
  have ch:=gT_chs (m:=us.length) (by omega) (t:=grL N) (us:=us) (S:=sG us N) (by omega) (fun g hg=>⟨by have:=row_le GS hg; omega,GS.lt g hg⟩) (sG us N) [] (non us.length) rfl (non_len _) (non_all _) (fun g hg=>by cases hg) GS.nd (fun k hk=>by
   have:=GS.lt
   obtain ⟨g,hg,hkg⟩:=List.mem_flatten.1 hk
   have:=GS.lt g hg k hkg
   unfold non
   rw [List.getElem?_replicate,if_pos this])
  have sz:=okT_size (m:=us.length) (by omega) ok
  have lG:=lend_gc 0 us (sG us N)
  have lG2:=lend_gc2 us (sG us N)
  have C5:=pf_tree (m:=us.length) (by omega) t1 lG (gT (sG us N)) (non us.length) 0 ok ch (non_len _) (non_all _) (by omega)
  have nw:=new_e3 (ser (gT (sG us N)) 0)
  have ad:=fun x=>adopt_e3 x (ser (gT (sG us N)) 0)
  have ad2:=fun b=>adopt_gc2 b us (sG us N)
  have nl:((sG us N).map (gcP 2 us)).length=(sG us N).length:=by simp
  have cR:∀ e∈(sG us N).map (gcP 2 us),e.cells.length=4:=fun e he=>by
   obtain ⟨o,_,rfl⟩:=List.mem_map.1 he; rfl
  have tkS:List.take (sG us N).length ((sG us N).map (gcP 2 us))=(sG us N).map (gcP 2 us):=List.take_of_length_le (by simp)
  have tkT:=tk_e2 (grL N)
  simp only [Int.natCast_zero] at C5
  generalize ser (gT (sG us N)) 0=Q at *
  have lQ:(Q.map e3).length=Q.length:=by simp
  have tk:=tk_e3 Q
  generalize Q.map e3=QM at *
  generalize (sG us N).map (gcP 2 us)=M2 at *
  generalize (sG us N).map (gcP 0 us)=M0 at *
  generalize (N.map ni).map eR=A at *
  generalize grL N=t at *
  unfold pD pv at *
  simp [F_impl_GroupPlan,C,lA,GT,ST,C5,nw,ad,ad2,tk,tkS,tkT,nl,if_pos cR,lG,lG2,lQ]
 | false =>
  have e:sgL us L=[]:=by unfold sgL; rw [h]; rfl
  have e':gpL us L=[]:=by unfold gpL; rw [h]; rfl
  rw [e,h] at C
  rw [e']
  simp only [List.map_nil] at C ⊢
  simp [F_impl_GroupPlan,C,lA]
end
section
theorem gpL_leX (us:List T) (L:List (List Int)):(gpL us L).length≤100:=by
 cases h:(tsOk us && gokB us.length L) with
 | false=>unfold gpL; rw [h]; simp
 | true =>
  obtain ⟨N,e,G,h1,e1,e2,e3',t1,t2⟩:=gp_of h
  have h':=tsOk_iff.1 h1
  rw [e2,ser_len]
  have:=okT_size (m:=us.length) (by omega) t2
  omega
end
section
attribute [-simp] DV.cells sliceD
attribute [local simp] cells_st cells_sl cells_i cells_y cells_b cells_s cells_w
attribute [local simp] lend_e3 adopt_e3 new_e3 al_e3 lt_e3
attribute [local simp] lend_eR al_eR lend_eN adopt_eN new_eN
set_option maxHeartbeats 4000000 in
theorem l7_step {S:List (List Nat)} {p i k:Nat} {g:List Nat} (hS:S.length≤5) (hp:S[p]?=some g) (hi:g[i]?=some k) (g5:g.length≤5) {n y:PT} {Q:List C3} (hq:Q.length+1+n.size+y.size≤40)
  (G0:call lf n_spec_l7Grow [.sl 0 ((S.map ni).map eR),.i p,.i ((i+1:Nat):Int),.gv 3 ((Q++[((k:Int),(-1:Int),(-1:Int))]).map e3)]=some (.tup [.fr 3 ((Q++[((k:Int),(-1:Int),(-1:Int))]++ser n (Q.length+1)).map e3),.i (rt n (Q.length+1))],[]))
  (G1:call lf n_spec_l7Grow [.sl 0 ((S.map ni).map eR),.i ((p+1:Nat):Int),.i 0,.gv 3 ((Q++[((k:Int),(-1:Int),(-1:Int))]++ser n (Q.length+1)).map e3)]=some (.tup [.fr 3 ((Q++[((k:Int),(-1:Int),(-1:Int))]++ser n (Q.length+1)++ser y (Q.length+1+n.size)).map e3),.i (rt y (Q.length+1+n.size))],[])) :
  call lf n_spec_l7Grow [.sl 0 ((S.map ni).map eR),.i p,.i i,.gv 3 (Q.map e3)]=some (.tup [.fr 3 ((Q++ser (.ask k n y) Q.length).map e3),.i (rt (.ask k n y) Q.length)],[]):=by
 have hpl:=(List.getElem?_eq_some_iff.1 hp).1
 have hil:=(List.getElem?_eq_some_iff.1 hi).1
 have q1:((p:Int) == S.length)=false:=beq_false_of_ne (by omega)
 have q2:((i:Int) == g.length)=false:=beq_false_of_ne (by omega)
 have lS:((S.map ni).map eR).length=S.length:=by simp
 have lA:lendL ((S.map ni).map eR)=(S.map ni).map eR:=lend_eR _
 have AS:atI ((S.map ni).map eR) (p:Int)=some (.sl 0 ((ni g).map .i)):=at_eR (by rw [List.getElem?_map,hp]; rfl)
 have lG:((ni g).map DV.i).length=g.length:=by simp [ni_len]
 have AG:atI ((ni g).map DV.i) (i:Int)=some (.i k):=by
  simp only [atI,if_pos (Int.natCast_nonneg i)]
  show ((ni g).map DV.i)[(i:Int).toNat]?=_
  rw [Int.toNat_natCast,List.getElem?_map]
  unfold ni
  rw [List.getElem?_map,hi]; rfl
 have w1:wr ((p:Int)+1)=((p+1:Nat):Int):=by rw [wr_id (by omega) (by omega)]; omega
 have w2:wr ((i:Int)+1)=((i+1:Nat):Int):=by rw [wr_id (by omega) (by omega)]; omega
 have lq:Q.length≤bound:=by unfold bound; omega
 have lq1:Q.length+1≤bound:=by unfold bound; omega
 have ek:e3 ((k:Int),-1,-1)=.st [.i (k:Int),.i (-1),.i (-1)]:=rfl
 have l0s:=ser_len n (Q.length+1)
 have l1s:=ser_len y (Q.length+1+n.size)
 rw [call_k lf n_spec_l7Grow _ (F:=F_spec_l7Grow) rfl rfl]
 simp only [ser]
 rw [show rt (PT.ask k n y) Q.length=(Q.length:Int) from rfl]
 have fin:∀ a b:Int,((Q++[((k:Int),(-1:Int),(-1:Int))]++ser n (Q.length+1)++ser y (Q.length+1+n.size)).map e3).set Q.length (.st [.i (k:Int),.i a,.i b])=(Q++((k:Int),a,b) :: (ser n (Q.length+1)++ser y (Q.length+1+n.size))).map e3:=fun a b=>by
  simp [e3]
 rw [← fin]
 have l2:(Q++[((k:Int),(-1:Int),(-1:Int))]++ser n (Q.length+1)).length=Q.length+1+n.size:=by simp [ser_len]; omega
 have l3:(Q++[((k:Int),(-1:Int),(-1:Int))]++ser n (Q.length+1)++ser y (Q.length+1+n.size)).length=Q.length+1+n.size+y.size:=by rw [List.length_append,l2,l1s]
 have ql:(Q.length:Int) < ((Q.length+1+n.size+y.size:Nat):Int):=by omega
 have at1:atN ((Q++[((k:Int),(-1:Int),(-1:Int))]++ser n (Q.length+1)++ser y (Q.length+1+n.size)).map e3) Q.length=some (.st [.i k,.i (-1),.i (-1)]):=by
  rw [← ek]
  show (List.map e3 _)[Q.length]?=_
  simp
 generalize n.size=z0 at *
 generalize y.size=z1 at *
 generalize rt n (Q.length+1)=R0 at *
 generalize rt y (Q.length+1+z0)=R1 at *
 generalize ser n (Q.length+1)=S0 at *
 generalize ser y (Q.length+1+z0)=S1 at *
 have e1:(Q++[((k:Int),(-1:Int),(-1:Int))]).map e3=Q.map e3++[.st [.i (k:Int),.i (-1),.i (-1)]]:=by rw [List.map_append]; rfl
 rw [e1] at G0
 have h0:=lend_e3 (Q++[((k:Int),(-1:Int),(-1:Int))]++S0)
 have h1:=lend_e3 (Q++[((k:Int),(-1:Int),(-1:Int))]++S0++S1)
 have lm2:((Q++[((k:Int),(-1:Int),(-1:Int))]++S0).map e3).length=Q.length+1+z0:=by rw [List.length_map,l2]
 have lm3:((Q++[((k:Int),(-1:Int),(-1:Int))]++S0++S1).map e3).length=Q.length+1+z0+z1:=by rw [List.length_map,l3]
 have a0:=fun o=>adopt_e3 o (Q++[((k:Int),(-1:Int),(-1:Int))]++S0)
 have a1:=fun o=>adopt_e3 o (Q++[((k:Int),(-1:Int),(-1:Int))]++S0++S1)
 have n0:=new_e3 (Q++[((k:Int),(-1:Int),(-1:Int))]++S0)
 have n1:=new_e3 (Q++[((k:Int),(-1:Int),(-1:Int))]++S0++S1)
 generalize (Q++[((k:Int),(-1:Int),(-1:Int))]++S0++S1).map e3=M1 at *
 generalize (Q++[((k:Int),(-1:Int),(-1:Int))]++S0).map e3=M0 at *
 have lE:=lend_e3 Q
 have tkE:=tk_e3 Q
 have aE:=fun o=>adopt_e3 o Q
 have cE:∀ e∈Q.map e3,e.cells.length=3:=fun e he=>by
  obtain ⟨x,_,rfl⟩:=List.mem_map.1 he
  rfl
 have lmQ:(Q.map e3).length=Q.length:=by simp
 generalize Q.map e3=E at *
 generalize Q.length=qn at *
 generalize (S.map ni).map eR=A at *
 have lJ:lendL ((ni g).map DV.i)=(ni g).map .i:=by simp
 generalize (ni g).map DV.i=J at *
 simp [F_spec_l7Grow,q1,q2,lS,lA,lJ,AS,lG,AG,w1,w2,lq,lq1,lmQ,lE,aE,tkE,if_pos cE,G0,G1,lm2,lm3,h0,h1,a0,a1,n0,n1,ql,at1,-Int.natCast_add]
theorem l7_end {S:List (List Nat)} (hS:S.length≤5) (Q:List C3):call lf n_spec_l7Grow [.sl 0 ((S.map ni).map eR),.i S.length,.i 0,.gv 3 (Q.map e3)]=some (.tup [.fr 3 (Q.map e3),.i (-1)],[]):=by
 have lS:((S.map ni).map eR).length=S.length:=by simp
 have tk:=tk_e3 Q
 rw [call_k lf n_spec_l7Grow _ (F:=F_spec_l7Grow) rfl rfl]
 generalize (S.map ni).map eR=A at *
 simp [F_spec_l7Grow,lS,tk]
theorem l7_none {S:List (List Nat)} {p:Nat} {g:List Nat} (hS:S.length≤5) (hp:S[p]?=some g) (Q:List C3):call lf n_spec_l7Grow [.sl 0 ((S.map ni).map eR),.i p,.i g.length,.gv 3 (Q.map e3)]=some (.tup [.fr 3 (Q.map e3),.i (-1)],[]):=by
 have hpl:=(List.getElem?_eq_some_iff.1 hp).1
 have q1:((p:Int) == S.length)=false:=beq_false_of_ne (by omega)
 have lS:((S.map ni).map eR).length=S.length:=by simp
 have lA:lendL ((S.map ni).map eR)=(S.map ni).map eR:=lend_eR _
 have AS:atI ((S.map ni).map eR) (p:Int)=some (.sl 0 ((ni g).map .i)):=at_eR (by rw [List.getElem?_map,hp]; rfl)
 have lG:((ni g).map DV.i).length=g.length:=by simp [ni_len]
 have tk:=tk_e3 Q
 rw [call_k lf n_spec_l7Grow _ (F:=F_spec_l7Grow) rfl rfl]
 generalize (S.map ni).map eR=A at *
 generalize (ni g).map DV.i=J at *
 simp [F_spec_l7Grow,q1,lS,lA,AS,lG,tk]
theorem c_spec_l7Grow {S:List (List Nat)} (hS:S.length≤5) (h5:∀ g∈S,g.length≤5):∀ (R A:List (List Nat)) (Q:List C3),S=A++R→Q.length+(gT R).size≤40 →
  call lf n_spec_l7Grow [.sl 0 ((S.map ni).map eR),.i A.length,.i 0,.gv 3 (Q.map e3)]=some (.tup [.fr 3 ((Q++ser (gT R) Q.length).map e3),.i (rt (gT R) Q.length)],[])
 | [],A,Q,hA,_=>by
  have e:A=S:=by rw [hA,List.append_nil]
  rw [e]
  simp only [gT,ser,rt,List.append_nil]
  exact l7_end hS Q
 | g :: R,A,Q,hA,hq=>by
  have ih:=c_spec_l7Grow hS h5 R (A++[g])
  have hp:S[A.length]?=some g:=by rw [hA]; simp
  have gm:g∈S:=by rw [hA]; simp
  have key:∀ (r g0:List Nat) (Q:List C3),g=g0++r→Q.length+(gG r (gT R)).size≤40→call lf n_spec_l7Grow [.sl 0 ((S.map ni).map eR),.i A.length,.i g0.length,.gv 3 (Q.map e3)]=some (.tup [.fr 3 ((Q++ser (gG r (gT R)) Q.length).map e3),.i (rt (gG r (gT R)) Q.length)],[]):=by
   intro r
   induction r with
   | nil =>
    intro g0 Q hg _
    have e:g0=g:=by rw [hg,List.append_nil]
    rw [e]
    simp only [gG,ser,rt,List.append_nil]
    exact l7_none hS hp Q
   | cons k r ihr =>
    intro g0 Q hg hq
    simp only [gG,PT.size] at hq ⊢
    have hi:g[g0.length]?=some k:=by rw [hg]; simp
    have G0:=ihr (g0++[k]) (Q++[((k:Int),(-1:Int),(-1:Int))]) (by rw [hg]; simp) (by simp; omega)
    have G1:=ih (Q++[((k:Int),(-1:Int),(-1:Int))]++ser (gG r (gT R)) (Q.length+1)) (by rw [hA]; simp) (by simp [ser_len]; omega)
    have l1:(Q++[((k:Int),(-1:Int),(-1:Int))]).length=Q.length+1:=by simp
    have l2:(Q++[((k:Int),(-1:Int),(-1:Int))]++ser (gG r (gT R)) (Q.length+1)).length=Q.length+1+(gG r (gT R)).size:=by simp [ser_len]; omega
    rw [l1,show (g0++[k]).length=g0.length+1 by simp] at G0
    rw [l2,show (A++[g]).length=A.length+1 by simp] at G1
    exact l7_step hS hp hi (h5 g gm) (by omega) G0 G1
  have:=key g [] Q rfl (by simpa [gT] using hq)
  simpa [gT] using this
end
section
attribute [-simp] DV.cells
attribute [local simp] sliceD cells_st cells_sl cells_i cells_y cells_b cells_s cells_w
attribute [local simp] lend_eR al_eR lend_eN adopt_eN new_eN
attribute [local simp] lend_e3 adopt_e3 new_e3 al_e3 lt_e3
set_option maxHeartbeats 4000000 in
theorem c_spec_GroupPlan (us:List T) (L:List (List Int)) (ha:(us.length:Int) < 1099511627776) (hb:(L.length:Int) < 1099511627776) (hf:(L.flatten.length:Int) < 1099511627776) :
  call lf n_spec_GroupPlan [.sl 0 (us.map e2),.sl 0 (L.map eR)]=some (.tup [.fr 3 ((gpL us L).map e3),.b (tsOk us && gokB us.length L)],[]):=by
 rw [call_k lf n_spec_GroupPlan _ (F:=F_spec_GroupPlan) rfl rfl]
 have S:=c_spec_SortedGroups us L ha hb hf
 cases h:(tsOk us && gokB us.length L) with
 | true =>
  obtain ⟨N,rfl,G,h1,e1,e2',_,t1,ok⟩:=gp_of h
  have h1':=tsOk_iff.1 h1
  have GS:=sG_gok (us:=us) G
  rw [e1] at S
  rw [e2']
  have ne:=gok_ne (by omega) GS
  have nl:=nR_len (sG us N)
  have z0:(((sG us N).length:Int) == 0)=false:=beq_false_of_ne (by have:=List.length_pos_iff.2 ne; omega)
  have tk:List.take (sG us N).length (nR (sG us N))=nR (sG us N):=List.take_of_length_le (by omega)
  have sz:=okT_size (m:=us.length) (by omega) ok
  have GR:=c_spec_l7Grow (S:=sG us N) (by have:=rows_le GS; omega) (fun g hg=>by have:=row_le GS hg; omega) (sG us N) [] [] rfl (by simpa using (by omega:(gT (sG us N)).size≤40))
  simp only [List.length_nil,List.nil_append,Int.natCast_zero,List.map_nil] at GR
  have lA:lendL ((N.map ni).map eR)=(N.map ni).map eR:=lend_eR _
  have lN:lendL (nR (sG us N))=((sG us N).map ni).map eR:=lend_nR _
  have ad:∀ b,adoptL b (nR (sG us N))=nR (sG us N):=fun b=>adopt_eN b _
  generalize (N.map ni).map eR=A at *
  generalize ((sG us N).map ni).map eR=B at *
  generalize nR (sG us N)=M at *
  have ad3:=fun o=>adopt_e3 o (ser (gT (sG us N)) 0)
  have n3:=new_e3 (ser (gT (sG us N)) 0)
  have tk3:=tk_e3 (ser (gT (sG us N)) 0)
  have lQ:((ser (gT (sG us N)) 0).map e3).length=(ser (gT (sG us N)) 0).length:=by simp
  generalize ser (gT (sG us N)) 0=Q at *
  generalize rt (gT (sG us N)) 0=R0 at *
  generalize Q.map e3=QM at *
  simp [F_spec_GroupPlan,S,z0,nl,tk,ad,lA,lN,GR,ad3,n3,tk3,lQ]
 | false =>
  have e:sgL us L=[]:=by unfold sgL; rw [h]; rfl
  have e':gpL us L=[]:=by unfold gpL; rw [h]; rfl
  rw [e] at S
  rw [e']
  have z':nR []=[]:=rfl
  rw [z'] at S
  simp [F_spec_GroupPlan,S]
end
section
attribute [-simp] DV.cells
attribute [local simp] sliceD cells_st cells_sl cells_i cells_y cells_b cells_s cells_w
attribute [local simp] lend_eR al_eR lend_eN adopt_eN new_eN adopt_e2 new_e2 lend_e3 adopt_e3 new_e3 al_e3
theorem lend_ints_ (ts:List Int):lendL (ts.map .i)=ts.map .i:=lend_i ts
def IGroupPlan_0:LC:=(.region false [⟨some 4,.mv,[.c (.b false)],none⟩] [4])
def IGroupPlan_1:LC:=(.region false [⟨some 5,.mv,[.c (.i 1048576)],none⟩] [])
def IGroupPlan_2:LC:=(.region false [⟨some 17,.mv,[.t 0],none⟩,
      ⟨some 18,.mv,[.t 5],none⟩,
      ⟨some 19,.call n_laws_szTestS 9728,[.t 17,.t 18],none⟩,
      ⟨some 5,.mv,[.t 19],none⟩] [17,18,19])
def IGroupPlan_3:LC:=(.seq
       (.region false [⟨some 20,.mv,[.t 5],none⟩,
        ⟨some 21,.bin .lss,[.t 20,.c (.i 0)],none⟩] [20])
       (.cond (.t 21) [21]
        (.seq
         (.region false [⟨some 4,.mv,[.c (.b true)],none⟩] [0,1,5])
         .ret)
        .skip))
def IGroupPlan_4:LC:=(.region false [⟨some 22,.mv,[.t 1],none⟩,
        ⟨some 23,.mv,[.t 5],none⟩,
        ⟨some 24,.call n_laws_szIntSS 12288,[.t 22,.t 23],none⟩,
        ⟨some 5,.mv,[.t 24],none⟩] [22,23,24])
def IGroupPlan_5:LC:=(.seq
         (.region false [⟨some 25,.mv,[.t 5],none⟩,
          ⟨some 26,.bin .lss,[.t 25,.c (.i 0)],none⟩] [5,25])
         (.cond (.t 26) [26]
          (.seq
           (.region false [⟨some 4,.mv,[.c (.b true)],none⟩] [0,1])
           .ret)
          .skip))
def IGroupPlan_6:LC:=(.region false [⟨some 28,.mv,[.t 0],none⟩,
          ⟨some 29,.call n_laws_toTestS 14848,[.t 28],none⟩,
          ⟨some 30,.mv,[.t 1],none⟩,
          ⟨some 31,.call n_laws_toIntSS 15872,[.t 30],none⟩,
          ⟨some 32,.call n_spec_GroupPlan 16384,[.t 29,.t 31],none⟩,
          ⟨some 27,.mv,[.t 32],none⟩,
          ⟨some 33,.ext 0,[.t 27],none⟩,
          ⟨some 34,.ext 1,[.t 27],none⟩,
          ⟨some 6,.mv,[.t 33],none⟩,
          ⟨some 7,.mv,[.t 34],none⟩] [27,28,29,30,31,32,33,34])
def IGroupPlan_7:LC:=(.region false [⟨some 35,.mv,[.t 0],none⟩,
           ⟨some 36,.call n_laws_toTestS 18432,[.t 35],none⟩,
           ⟨some 8,.mv,[.t 36],none⟩] [35,36])
def IGroupPlan_8:LC:=(.region false [⟨some 37,.mv,[.t 1],none⟩,
            ⟨some 38,.call n_laws_toIntSS 19456,[.t 37],none⟩,
            ⟨some 9,.mv,[.t 38],none⟩] [37,38])
def IGroupPlan_9:LC:=(.region false [⟨some 40,.mv,[.t 8],none⟩,
             ⟨some 41,.mv,[.t 9],none⟩,
             ⟨some 42,.call n_impl_GroupPlan 21504,[.t 40,.t 41],none⟩,
             ⟨some 39,.mv,[.t 42],none⟩,
             ⟨some 43,.ext 0,[.t 39],none⟩,
             ⟨some 44,.ext 1,[.t 39],none⟩,
             ⟨some 10,.mv,[.t 43],none⟩,
             ⟨some 11,.mv,[.t 44],none⟩] [39,40,41,42,43,44])
def IGroupPlan_10:LC:=(.seq
              (.region false [⟨some 45,.mv,[.t 10],none⟩,
               ⟨some 46,.mv,[.t 6],none⟩,
               ⟨some 47,.call n_laws_eqChoiceS 24064,[.t 45,.t 46],none⟩,
               ⟨some 48,.un .not,[.t 47],none⟩,
               ⟨some 49,.mv,[.t 48],none⟩,
               ⟨some 50,.mv,[.t 11],some (49,false)⟩,
               ⟨some 51,.mv,[.t 7],some (49,false)⟩,
               ⟨some 52,.eqb true,[.t 50,.t 51],some (49,false)⟩,
               ⟨some 53,.pick,[.t 49,.c (.b true),.t 52],none⟩] [45,46,47,48,49,50,51,52])
              (.cond (.t 53) [53]
               (.seq
                (.region false [⟨some 4,.mv,[.c (.b false)],none⟩] [0,1,6,7,8,9,10,11])
                .ret)
               .skip))
def IGroupPlan_11:LC:=(.seq
               (.region false [⟨some 54,.mv,[.t 8],none⟩,
                ⟨some 55,.mv,[.t 0],none⟩,
                ⟨some 56,.call n_laws_toTestS 28672,[.t 55],none⟩,
                ⟨some 57,.call n_laws_eqTestS 29184,[.t 54,.t 56],none⟩,
                ⟨some 58,.un .not,[.t 57],none⟩] [54,55,56,57])
               (.cond (.t 58) [58]
                (.seq
                 (.region false [⟨some 4,.mv,[.c (.b false)],none⟩] [0,1,6,7,8,9,10,11])
                 .ret)
                .skip))
def IGroupPlan_12:LC:=(.seq
                (.region false [⟨some 59,.mv,[.t 9],none⟩,
                 ⟨some 60,.mv,[.t 1],none⟩,
                 ⟨some 61,.call n_laws_toIntSS 31232,[.t 60],none⟩,
                 ⟨some 62,.call n_laws_eqIntSS 31744,[.t 59,.t 61],none⟩,
                 ⟨some 63,.un .not,[.t 62],none⟩] [59,60,61,62])
                (.cond (.t 63) [63]
                 (.seq
                  (.region false [⟨some 4,.mv,[.c (.b false)],none⟩] [0,1,6,7,8,9,10,11])
                  .ret)
                 .skip))
def IGroupPlan_13:LC:=(.region false [⟨some 12,.mv,[.c (.i 1)],none⟩] [])
def IGroupPlan_14:LC:=(.region false [⟨some 64,.mv,[.t 8],none⟩,
                  ⟨some 65,.mv,[.t 12],none⟩,
                  ⟨some 66,.call n_laws_markTestS 33796,[.t 64,.t 65],none⟩,
                  ⟨some 12,.mv,[.t 66],none⟩] [8,64,65,66])
def IGroupPlan_15:LC:=(.region false [⟨some 67,.mv,[.t 9],none⟩,
                   ⟨some 68,.mv,[.t 12],none⟩,
                   ⟨some 69,.call n_laws_markIntSS 35332,[.t 67,.t 68],none⟩,
                   ⟨some 12,.mv,[.t 69],none⟩] [9,67,68,69])
def IGroupPlan_16:LC:=(.seq
                    (.region false [⟨some 70,.mv,[.t 12],none⟩,
                     ⟨some 71,.bin .lss,[.t 70,.c (.i 0)],none⟩,
                     ⟨some 72,.mv,[.t 71],none⟩,
                     ⟨some 73,.mv,[.t 10],some (72,false)⟩,
                     ⟨some 74,.mv,[.t 6],some (72,false)⟩,
                     ⟨some 75,.call n_laws_eqChoiceS 38400,[.t 73,.t 74],some (72,false)⟩,
                     ⟨some 76,.un .not,[.t 75],some (72,false)⟩,
                     ⟨some 77,.pick,[.t 72,.c (.b true),.t 76],none⟩,
                     ⟨some 78,.mv,[.t 77],none⟩,
                     ⟨some 79,.mv,[.t 11],some (78,false)⟩,
                     ⟨some 80,.mv,[.t 7],some (78,false)⟩,
                     ⟨some 81,.eqb true,[.t 79,.t 80],some (78,false)⟩,
                     ⟨some 82,.pick,[.t 78,.c (.b true),.t 81],none⟩] [11,12,70,71,72,73,74,75,76,77,78,79,80,81])
                    (.cond (.t 82) [82]
                     (.seq
                      (.region false [⟨some 4,.mv,[.c (.b false)],none⟩] [0,1,6,7,10])
                      .ret)
                     .skip))
def IGroupPlan_17:LC:=(.region false [⟨some 13,.mv,[.c (.i 1)],none⟩] [])
def IGroupPlan_18:LC:=(.region false [⟨some 83,.mv,[.t 10],none⟩,
                      ⟨some 84,.mv,[.t 13],none⟩,
                      ⟨some 85,.call n_laws_markChoiceS 43524,[.t 83,.t 84],none⟩,
                      ⟨some 13,.mv,[.t 85],none⟩] [83,84,85])
def IGroupPlan_19:LC:=(.region false [⟨some 14,.mv,[.c (.i 1)],none⟩] [])
def IGroupPlan_20:LC:=(.region false [⟨some 86,.mv,[.t 10],none⟩,
                        ⟨some 87,.mv,[.t 14],none⟩,
                        ⟨some 88,.call n_laws_heldChoiceS 45056,[.t 86,.t 87],none⟩,
                        ⟨some 14,.mv,[.t 88],none⟩] [86,87,88])
def IGroupPlan_21:LC:=(.seq
                         (.region false [⟨some 89,.mv,[.t 14],none⟩,
                          ⟨some 90,.bin .lss,[.t 89,.c (.i 0)],none⟩] [89])
                         (.cond (.t 90) [90]
                          (.seq
                           (.region false [⟨some 4,.mv,[.c (.b false)],none⟩] [0,1,6,7,10,13,14])
                           .ret)
                          .skip))
def IGroupPlan_22:LC:=(.seq
                          (.region false [⟨some 91,.mv,[.t 14],none⟩,
                           ⟨some 92,.mv,[.t 13],none⟩,
                           ⟨some 93,.bin .neq,[.t 91,.t 92],none⟩] [14,91,92])
                          (.cond (.t 93) [93]
                           (.seq
                            (.region false [⟨some 4,.mv,[.c (.b false)],none⟩] [0,1,6,7,10,13])
                            .ret)
                           .skip))
def IGroupPlan_23:LC:=(.region false [⟨some 95,.mv,[.t 0],none⟩,
                           ⟨some 96,.call n_laws_toTestS 49152,[.t 95],none⟩,
                           ⟨some 97,.mv,[.t 1],none⟩,
                           ⟨some 98,.call n_laws_toIntSS 50176,[.t 97],none⟩,
                           ⟨some 99,.call n_impl_GroupPlan 50688,[.t 96,.t 98],none⟩,
                           ⟨some 94,.mv,[.t 99],none⟩,
                           ⟨some 100,.ext 0,[.t 94],none⟩,
                           ⟨some 101,.ext 1,[.t 94],none⟩,
                           ⟨some 15,.mv,[.t 100],none⟩,
                           ⟨some 16,.mv,[.t 101],none⟩] [0,1,94,95,96,97,98,99,100,101])
def IGroupPlan_24:LC:=(.seq
                            (.region false [⟨some 102,.mv,[.t 15],none⟩,
                             ⟨some 103,.mv,[.t 6],none⟩,
                             ⟨some 104,.call n_laws_eqChoiceS 53248,[.t 102,.t 103],none⟩,
                             ⟨some 105,.un .not,[.t 104],none⟩,
                             ⟨some 106,.mv,[.t 105],none⟩,
                             ⟨some 107,.mv,[.t 16],some (106,false)⟩,
                             ⟨some 108,.mv,[.t 7],some (106,false)⟩,
                             ⟨some 109,.eqb true,[.t 107,.t 108],some (106,false)⟩,
                             ⟨some 110,.pick,[.t 106,.c (.b true),.t 109],none⟩] [6,7,15,16,102,103,104,105,106,107,108,109])
                            (.cond (.t 110) [110]
                             (.seq
                              (.region false [⟨some 4,.mv,[.c (.b false)],none⟩] [10,13])
                              .ret)
                             .skip))
def IGroupPlan_25:LC:=(.region false [⟨some 14,.mv,[.c (.i 1)],none⟩] [])
def IGroupPlan_26:LC:=(.region false [⟨some 111,.mv,[.t 10],none⟩,
                              ⟨some 112,.mv,[.t 14],none⟩,
                              ⟨some 113,.call n_laws_heldChoiceS 57856,[.t 111,.t 112],none⟩,
                              ⟨some 14,.mv,[.t 113],none⟩] [10,111,112,113])
def IGroupPlan_27:LC:=(.seq
                               (.region false [⟨some 114,.mv,[.t 14],none⟩,
                                ⟨some 115,.bin .lss,[.t 114,.c (.i 0)],none⟩] [114])
                               (.cond (.t 115) [115]
                                (.seq
                                 (.region false [⟨some 4,.mv,[.c (.b false)],none⟩] [13,14])
                                 .ret)
                                .skip))
def IGroupPlan_28:LC:=(.seq
                                (.region false [⟨some 116,.mv,[.t 14],none⟩,
                                 ⟨some 117,.mv,[.t 13],none⟩,
                                 ⟨some 118,.bin .neq,[.t 116,.t 117],none⟩] [13,14,116,117])
                                (.cond (.t 118) [118]
                                 (.seq
                                  (.region false [⟨some 4,.mv,[.c (.b false)],none⟩] [])
                                  .ret)
                                 .skip))
def IGroupPlan_29:LC:=(.region false [⟨some 4,.mv,[.c (.b true)],none⟩] [])
def RGroupPlan_30:LC:=.ret
def RGroupPlan_29:LC:=.seq IGroupPlan_29 RGroupPlan_30
def RGroupPlan_28:LC:=.seq IGroupPlan_28 RGroupPlan_29
def RGroupPlan_27:LC:=.seq IGroupPlan_27 RGroupPlan_28
def RGroupPlan_26:LC:=.seq IGroupPlan_26 RGroupPlan_27
def RGroupPlan_25:LC:=.seq IGroupPlan_25 RGroupPlan_26
def RGroupPlan_24:LC:=.seq IGroupPlan_24 RGroupPlan_25
def RGroupPlan_23:LC:=.seq IGroupPlan_23 RGroupPlan_24
def RGroupPlan_22:LC:=.seq IGroupPlan_22 RGroupPlan_23
def RGroupPlan_21:LC:=.seq IGroupPlan_21 RGroupPlan_22
def RGroupPlan_20:LC:=.seq IGroupPlan_20 RGroupPlan_21
def RGroupPlan_19:LC:=.seq IGroupPlan_19 RGroupPlan_20
def RGroupPlan_18:LC:=.seq IGroupPlan_18 RGroupPlan_19
def RGroupPlan_17:LC:=.seq IGroupPlan_17 RGroupPlan_18
def RGroupPlan_16:LC:=.seq IGroupPlan_16 RGroupPlan_17
def RGroupPlan_15:LC:=.seq IGroupPlan_15 RGroupPlan_16
def RGroupPlan_14:LC:=.seq IGroupPlan_14 RGroupPlan_15
def RGroupPlan_13:LC:=.seq IGroupPlan_13 RGroupPlan_14
def RGroupPlan_12:LC:=.seq IGroupPlan_12 RGroupPlan_13
def RGroupPlan_11:LC:=.seq IGroupPlan_11 RGroupPlan_12
def RGroupPlan_10:LC:=.seq IGroupPlan_10 RGroupPlan_11
def RGroupPlan_9:LC:=.seq IGroupPlan_9 RGroupPlan_10
def RGroupPlan_8:LC:=.seq IGroupPlan_8 RGroupPlan_9
def RGroupPlan_7:LC:=.seq IGroupPlan_7 RGroupPlan_8
def RGroupPlan_6:LC:=.seq IGroupPlan_6 RGroupPlan_7
def RGroupPlan_5:LC:=.seq IGroupPlan_5 RGroupPlan_6
def RGroupPlan_4:LC:=.seq IGroupPlan_4 RGroupPlan_5
def RGroupPlan_3:LC:=.seq IGroupPlan_3 RGroupPlan_4
def RGroupPlan_2:LC:=.seq IGroupPlan_2 RGroupPlan_3
def RGroupPlan_1:LC:=.seq IGroupPlan_1 RGroupPlan_2
def RGroupPlan_0:LC:=.seq IGroupPlan_0 RGroupPlan_1
theorem body_GroupPlan:F_laws_FnExactGroupPlan.body=RGroupPlan_0:=rfl
set_option maxHeartbeats 4000000 in
theorem sGroupPlan_0 {us:List T} {z:Int} {v:Bool} {X:List C3} {L:List (List Int)} (hu:us.length≤1048576) (z0:0≤z) (hL:L.length≤1048576) (hT:totR L≤1048576) (hR:∀ r∈L,(r.length:Int)≤1048576) (hX:X.length≤100) (S:call lf n_laws_szIntSS [.sl 0 (L.map eR),.i (1048576 - (us.length:Int))]=some (.i z,[])) (C1:call lf n_impl_GroupPlan [.sl 0 (us.map e2),.sl 0 (L.map eR)]=some (.tup [.fr 3 (X.map e3),.b v],[])) (C2:call lf n_spec_GroupPlan [.sl 0 (us.map e2),.sl 0 (L.map eR)]=some (.tup [.fr 3 (X.map e3),.b v],[])):∃ S1,ex lf IGroupPlan_0 ⟨[(0,.sl 0 (us.map e2)),(1,.sl 0 (L.map eR))],[]⟩=some (.normal,S1)∧∀ g∈([]:List (Nat×DV)),made S1 g:=by
 simp (config := { maxSteps := 2000000 }) [IGroupPlan_0,made,settle,elems,wholeP,DV.allNew,DV.adopt,adoptP,newP,]
set_option maxHeartbeats 4000000 in
theorem sGroupPlan_1 {us:List T} {z:Int} {v:Bool} {X:List C3} {L:List (List Int)} (hu:us.length≤1048576) (z0:0≤z) (hL:L.length≤1048576) (hT:totR L≤1048576) (hR:∀ r∈L,(r.length:Int)≤1048576) (hX:X.length≤100) (S:call lf n_laws_szIntSS [.sl 0 (L.map eR),.i (1048576 - (us.length:Int))]=some (.i z,[])) (C1:call lf n_impl_GroupPlan [.sl 0 (us.map e2),.sl 0 (L.map eR)]=some (.tup [.fr 3 (X.map e3),.b v],[])) (C2:call lf n_spec_GroupPlan [.sl 0 (us.map e2),.sl 0 (L.map eR)]=some (.tup [.fr 3 (X.map e3),.b v],[])):∃ S1,ex lf IGroupPlan_1 ⟨[(0,.sl 0 (us.map e2)),(1,.sl 0 (L.map eR))],[]⟩=some (.normal,S1)∧∀ g∈([(5,.i (1048576))]:List (Nat×DV)),made S1 g:=by
 simp (config := { maxSteps := 2000000 }) [IGroupPlan_1,made,settle,elems,wholeP,DV.allNew,DV.adopt,adoptP,newP,]
set_option maxHeartbeats 4000000 in
theorem sGroupPlan_2 {us:List T} {z:Int} {v:Bool} {X:List C3} {L:List (List Int)} (hu:us.length≤1048576) (z0:0≤z) (hL:L.length≤1048576) (hT:totR L≤1048576) (hR:∀ r∈L,(r.length:Int)≤1048576) (hX:X.length≤100) (S:call lf n_laws_szIntSS [.sl 0 (L.map eR),.i (1048576 - (us.length:Int))]=some (.i z,[])) (C1:call lf n_impl_GroupPlan [.sl 0 (us.map e2),.sl 0 (L.map eR)]=some (.tup [.fr 3 (X.map e3),.b v],[])) (C2:call lf n_spec_GroupPlan [.sl 0 (us.map e2),.sl 0 (L.map eR)]=some (.tup [.fr 3 (X.map e3),.b v],[])):∃ S1,ex lf IGroupPlan_2 ⟨[(0,.sl 0 (us.map e2)),(1,.sl 0 (L.map eR)),(5,.i (1048576))],[]⟩=some (.normal,S1)∧∀ g∈([(5,.i (1048576 - (us.length:Int)))]:List (Nat×DV)),made S1 g:=by
 have S0:=c_szTestS us 1048576 (by omega) (by omega) (by omega)
 have n1:¬ (1048576:Int) < us.length:=by omega
 have n2:¬ (1048576:Int) - us.length < 0:=by omega
 have tk:List.take L.length (L.map eN)=L.map eN:=List.take_of_length_le (by simp)
 have tk2:List.take us.length (us.map e2)=us.map e2:=List.take_of_length_le (by simp)
 have tk3:List.take X.length (X.map e3)=X.map e3:=List.take_of_length_le (by simp)
 simp (config := { maxSteps := 2000000 }) [IGroupPlan_2,made,settle,elems,wholeP,DV.allNew,DV.adopt,adoptP,newP,S0,n1,n2,tk,tk2,tk3]
set_option maxHeartbeats 4000000 in
theorem sGroupPlan_3 {us:List T} {z:Int} {v:Bool} {X:List C3} {L:List (List Int)} (hu:us.length≤1048576) (z0:0≤z) (hL:L.length≤1048576) (hT:totR L≤1048576) (hR:∀ r∈L,(r.length:Int)≤1048576) (hX:X.length≤100) (S:call lf n_laws_szIntSS [.sl 0 (L.map eR),.i (1048576 - (us.length:Int))]=some (.i z,[])) (C1:call lf n_impl_GroupPlan [.sl 0 (us.map e2),.sl 0 (L.map eR)]=some (.tup [.fr 3 (X.map e3),.b v],[])) (C2:call lf n_spec_GroupPlan [.sl 0 (us.map e2),.sl 0 (L.map eR)]=some (.tup [.fr 3 (X.map e3),.b v],[])):∃ S1,ex lf IGroupPlan_3 ⟨[(0,.sl 0 (us.map e2)),(1,.sl 0 (L.map eR)),(5,.i (1048576 - (us.length:Int)))],[]⟩=some (.normal,S1)∧∀ g∈([]:List (Nat×DV)),made S1 g:=by
 have n1:¬ (1048576:Int) < us.length:=by omega
 have n2:¬ (1048576:Int) - us.length < 0:=by omega
 have n0:¬ z < 0:=by omega
 have n3:¬ 1+2 * (us.length:Int)+(totR L:Int) < 0:=by omega
 have n4:¬ 1+3 * (X.length:Int) < 0:=by omega
 simp (config := { maxSteps := 2000000 }) [IGroupPlan_3,made,settle,elems,wholeP,DV.allNew,DV.adopt,adoptP,newP,n1,n2,n0,n3,n4]
set_option maxHeartbeats 4000000 in
theorem sGroupPlan_4 {us:List T} {z:Int} {v:Bool} {X:List C3} {L:List (List Int)} (hu:us.length≤1048576) (z0:0≤z) (hL:L.length≤1048576) (hT:totR L≤1048576) (hR:∀ r∈L,(r.length:Int)≤1048576) (hX:X.length≤100) (S:call lf n_laws_szIntSS [.sl 0 (L.map eR),.i (1048576 - (us.length:Int))]=some (.i z,[])) (C1:call lf n_impl_GroupPlan [.sl 0 (us.map e2),.sl 0 (L.map eR)]=some (.tup [.fr 3 (X.map e3),.b v],[])) (C2:call lf n_spec_GroupPlan [.sl 0 (us.map e2),.sl 0 (L.map eR)]=some (.tup [.fr 3 (X.map e3),.b v],[])):∃ S1,ex lf IGroupPlan_4 ⟨[(0,.sl 0 (us.map e2)),(1,.sl 0 (L.map eR)),(5,.i (1048576 - (us.length:Int)))],[]⟩=some (.normal,S1)∧∀ g∈([(5,.i (z))]:List (Nat×DV)),made S1 g:=by
 have tk:List.take L.length (L.map eN)=L.map eN:=List.take_of_length_le (by simp)
 have tk2:List.take us.length (us.map e2)=us.map e2:=List.take_of_length_le (by simp)
 have tk3:List.take X.length (X.map e3)=X.map e3:=List.take_of_length_le (by simp)
 simp (config := { maxSteps := 2000000 }) [IGroupPlan_4,made,settle,elems,wholeP,DV.allNew,DV.adopt,adoptP,newP,S,tk,tk2,tk3]
set_option maxHeartbeats 4000000 in
theorem sGroupPlan_5 {us:List T} {z:Int} {v:Bool} {X:List C3} {L:List (List Int)} (hu:us.length≤1048576) (z0:0≤z) (hL:L.length≤1048576) (hT:totR L≤1048576) (hR:∀ r∈L,(r.length:Int)≤1048576) (hX:X.length≤100) (S:call lf n_laws_szIntSS [.sl 0 (L.map eR),.i (1048576 - (us.length:Int))]=some (.i z,[])) (C1:call lf n_impl_GroupPlan [.sl 0 (us.map e2),.sl 0 (L.map eR)]=some (.tup [.fr 3 (X.map e3),.b v],[])) (C2:call lf n_spec_GroupPlan [.sl 0 (us.map e2),.sl 0 (L.map eR)]=some (.tup [.fr 3 (X.map e3),.b v],[])):∃ S1,ex lf IGroupPlan_5 ⟨[(0,.sl 0 (us.map e2)),(1,.sl 0 (L.map eR)),(5,.i (z))],[]⟩=some (.normal,S1)∧∀ g∈([]:List (Nat×DV)),made S1 g:=by
 have n1:¬ (1048576:Int) < us.length:=by omega
 have n2:¬ (1048576:Int) - us.length < 0:=by omega
 have n0:¬ z < 0:=by omega
 have n3:¬ 1+2 * (us.length:Int)+(totR L:Int) < 0:=by omega
 have n4:¬ 1+3 * (X.length:Int) < 0:=by omega
 simp (config := { maxSteps := 2000000 }) [IGroupPlan_5,made,settle,elems,wholeP,DV.allNew,DV.adopt,adoptP,newP,n1,n2,n0,n3,n4]
set_option maxHeartbeats 4000000 in
theorem sGroupPlan_6 {us:List T} {z:Int} {v:Bool} {X:List C3} {L:List (List Int)} (hu:us.length≤1048576) (z0:0≤z) (hL:L.length≤1048576) (hT:totR L≤1048576) (hR:∀ r∈L,(r.length:Int)≤1048576) (hX:X.length≤100) (S:call lf n_laws_szIntSS [.sl 0 (L.map eR),.i (1048576 - (us.length:Int))]=some (.i z,[])) (C1:call lf n_impl_GroupPlan [.sl 0 (us.map e2),.sl 0 (L.map eR)]=some (.tup [.fr 3 (X.map e3),.b v],[])) (C2:call lf n_spec_GroupPlan [.sl 0 (us.map e2),.sl 0 (L.map eR)]=some (.tup [.fr 3 (X.map e3),.b v],[])):∃ S1,ex lf IGroupPlan_6 ⟨[(0,.sl 0 (us.map e2)),(1,.sl 0 (L.map eR))],[]⟩=some (.normal,S1)∧∀ g∈([(6,.sl 1 (X.map e3)),(7,.b v)]:List (Nat×DV)),made S1 g:=by
 have A0:=c_toTestS us (by omega)
 have A:=c_toIntSS L (by omega) hR
 have tk:List.take L.length (L.map eN)=L.map eN:=List.take_of_length_le (by simp)
 have tk2:List.take us.length (us.map e2)=us.map e2:=List.take_of_length_le (by simp)
 have tk3:List.take X.length (X.map e3)=X.map e3:=List.take_of_length_le (by simp)
 simp (config := { maxSteps := 2000000 }) [IGroupPlan_6,made,settle,elems,wholeP,DV.allNew,DV.adopt,adoptP,newP,A0,A,tk,tk2,tk3,C2]
set_option maxHeartbeats 4000000 in
theorem sGroupPlan_7 {us:List T} {z:Int} {v:Bool} {X:List C3} {L:List (List Int)} (hu:us.length≤1048576) (z0:0≤z) (hL:L.length≤1048576) (hT:totR L≤1048576) (hR:∀ r∈L,(r.length:Int)≤1048576) (hX:X.length≤100) (S:call lf n_laws_szIntSS [.sl 0 (L.map eR),.i (1048576 - (us.length:Int))]=some (.i z,[])) (C1:call lf n_impl_GroupPlan [.sl 0 (us.map e2),.sl 0 (L.map eR)]=some (.tup [.fr 3 (X.map e3),.b v],[])) (C2:call lf n_spec_GroupPlan [.sl 0 (us.map e2),.sl 0 (L.map eR)]=some (.tup [.fr 3 (X.map e3),.b v],[])):∃ S1,ex lf IGroupPlan_7 ⟨[(0,.sl 0 (us.map e2)),(1,.sl 0 (L.map eR)),(6,.sl 0 (X.map e3)),(7,.b v)],[]⟩=some (.normal,S1)∧∀ g∈([(8,.sl 1 (us.map e2))]:List (Nat×DV)),made S1 g:=by
 have A0:=c_toTestS us (by omega)
 have tk:List.take L.length (L.map eN)=L.map eN:=List.take_of_length_le (by simp)
 have tk2:List.take us.length (us.map e2)=us.map e2:=List.take_of_length_le (by simp)
 have tk3:List.take X.length (X.map e3)=X.map e3:=List.take_of_length_le (by simp)
 simp (config := { maxSteps := 2000000 }) [IGroupPlan_7,made,settle,elems,wholeP,DV.allNew,DV.adopt,adoptP,newP,A0,tk,tk2,tk3]
set_option maxHeartbeats 4000000 in
theorem sGroupPlan_8 {us:List T} {z:Int} {v:Bool} {X:List C3} {L:List (List Int)} (hu:us.length≤1048576) (z0:0≤z) (hL:L.length≤1048576) (hT:totR L≤1048576) (hR:∀ r∈L,(r.length:Int)≤1048576) (hX:X.length≤100) (S:call lf n_laws_szIntSS [.sl 0 (L.map eR),.i (1048576 - (us.length:Int))]=some (.i z,[])) (C1:call lf n_impl_GroupPlan [.sl 0 (us.map e2),.sl 0 (L.map eR)]=some (.tup [.fr 3 (X.map e3),.b v],[])) (C2:call lf n_spec_GroupPlan [.sl 0 (us.map e2),.sl 0 (L.map eR)]=some (.tup [.fr 3 (X.map e3),.b v],[])):∃ S1,ex lf IGroupPlan_8 ⟨[(0,.sl 0 (us.map e2)),(1,.sl 0 (L.map eR)),(6,.sl 0 (X.map e3)),(7,.b v),(8,.sl 0 (us.map e2))],[]⟩=some (.normal,S1)∧∀ g∈([(9,.sl 1 (L.map eN))]:List (Nat×DV)),made S1 g:=by
 have A:=c_toIntSS L (by omega) hR
 have tk:List.take L.length (L.map eN)=L.map eN:=List.take_of_length_le (by simp)
 have tk2:List.take us.length (us.map e2)=us.map e2:=List.take_of_length_le (by simp)
 have tk3:List.take X.length (X.map e3)=X.map e3:=List.take_of_length_le (by simp)
 simp (config := { maxSteps := 2000000 }) [IGroupPlan_8,made,settle,elems,wholeP,DV.allNew,DV.adopt,adoptP,newP,A,tk,tk2,tk3]
set_option maxHeartbeats 4000000 in
theorem sGroupPlan_9 {us:List T} {z:Int} {v:Bool} {X:List C3} {L:List (List Int)} (hu:us.length≤1048576) (z0:0≤z) (hL:L.length≤1048576) (hT:totR L≤1048576) (hR:∀ r∈L,(r.length:Int)≤1048576) (hX:X.length≤100) (S:call lf n_laws_szIntSS [.sl 0 (L.map eR),.i (1048576 - (us.length:Int))]=some (.i z,[])) (C1:call lf n_impl_GroupPlan [.sl 0 (us.map e2),.sl 0 (L.map eR)]=some (.tup [.fr 3 (X.map e3),.b v],[])) (C2:call lf n_spec_GroupPlan [.sl 0 (us.map e2),.sl 0 (L.map eR)]=some (.tup [.fr 3 (X.map e3),.b v],[])):∃ S1,ex lf IGroupPlan_9 ⟨[(0,.sl 0 (us.map e2)),(1,.sl 0 (L.map eR)),(6,.sl 0 (X.map e3)),(7,.b v),(8,.sl 0 (us.map e2)),(9,.sl 0 (L.map eR))],[]⟩=some (.normal,S1)∧∀ g∈([(10,.sl 1 (X.map e3)),(11,.b v)]:List (Nat×DV)),made S1 g:=by
 have tk:List.take L.length (L.map eN)=L.map eN:=List.take_of_length_le (by simp)
 have tk2:List.take us.length (us.map e2)=us.map e2:=List.take_of_length_le (by simp)
 have tk3:List.take X.length (X.map e3)=X.map e3:=List.take_of_length_le (by simp)
 simp (config := { maxSteps := 2000000 }) [IGroupPlan_9,made,settle,elems,wholeP,DV.allNew,DV.adopt,adoptP,newP,tk,tk2,tk3,C1]
set_option maxHeartbeats 4000000 in
theorem sGroupPlan_10 {us:List T} {z:Int} {v:Bool} {X:List C3} {L:List (List Int)} (hu:us.length≤1048576) (z0:0≤z) (hL:L.length≤1048576) (hT:totR L≤1048576) (hR:∀ r∈L,(r.length:Int)≤1048576) (hX:X.length≤100) (S:call lf n_laws_szIntSS [.sl 0 (L.map eR),.i (1048576 - (us.length:Int))]=some (.i z,[])) (C1:call lf n_impl_GroupPlan [.sl 0 (us.map e2),.sl 0 (L.map eR)]=some (.tup [.fr 3 (X.map e3),.b v],[])) (C2:call lf n_spec_GroupPlan [.sl 0 (us.map e2),.sl 0 (L.map eR)]=some (.tup [.fr 3 (X.map e3),.b v],[])):∃ S1,ex lf IGroupPlan_10 ⟨[(0,.sl 0 (us.map e2)),(1,.sl 0 (L.map eR)),(6,.sl 0 (X.map e3)),(7,.b v),(8,.sl 0 (us.map e2)),(9,.sl 0 (L.map eR)),(10,.sl 0 (X.map e3)),(11,.b v)],[]⟩=some (.normal,S1)∧∀ g∈([]:List (Nat×DV)),made S1 g:=by
 have Q1:=c_eqChoiceS_self X (by omega)
 have tk:List.take L.length (L.map eN)=L.map eN:=List.take_of_length_le (by simp)
 have tk2:List.take us.length (us.map e2)=us.map e2:=List.take_of_length_le (by simp)
 have tk3:List.take X.length (X.map e3)=X.map e3:=List.take_of_length_le (by simp)
 simp (config := { maxSteps := 2000000 }) [IGroupPlan_10,made,settle,elems,wholeP,DV.allNew,DV.adopt,adoptP,newP,Q1,tk,tk2,tk3]
set_option maxHeartbeats 4000000 in
theorem sGroupPlan_11 {us:List T} {z:Int} {v:Bool} {X:List C3} {L:List (List Int)} (hu:us.length≤1048576) (z0:0≤z) (hL:L.length≤1048576) (hT:totR L≤1048576) (hR:∀ r∈L,(r.length:Int)≤1048576) (hX:X.length≤100) (S:call lf n_laws_szIntSS [.sl 0 (L.map eR),.i (1048576 - (us.length:Int))]=some (.i z,[])) (C1:call lf n_impl_GroupPlan [.sl 0 (us.map e2),.sl 0 (L.map eR)]=some (.tup [.fr 3 (X.map e3),.b v],[])) (C2:call lf n_spec_GroupPlan [.sl 0 (us.map e2),.sl 0 (L.map eR)]=some (.tup [.fr 3 (X.map e3),.b v],[])):∃ S1,ex lf IGroupPlan_11 ⟨[(0,.sl 0 (us.map e2)),(1,.sl 0 (L.map eR)),(6,.sl 0 (X.map e3)),(7,.b v),(8,.sl 0 (us.map e2)),(9,.sl 0 (L.map eR)),(10,.sl 0 (X.map e3)),(11,.b v)],[]⟩=some (.normal,S1)∧∀ g∈([]:List (Nat×DV)),made S1 g:=by
 have A0:=c_toTestS us (by omega)
 have Q0:=c_eqTestS_self us (by omega)
 have tk:List.take L.length (L.map eN)=L.map eN:=List.take_of_length_le (by simp)
 have tk2:List.take us.length (us.map e2)=us.map e2:=List.take_of_length_le (by simp)
 have tk3:List.take X.length (X.map e3)=X.map e3:=List.take_of_length_le (by simp)
 simp (config := { maxSteps := 2000000 }) [IGroupPlan_11,made,settle,elems,wholeP,DV.allNew,DV.adopt,adoptP,newP,A0,Q0,tk,tk2,tk3]
set_option maxHeartbeats 4000000 in
theorem sGroupPlan_12 {us:List T} {z:Int} {v:Bool} {X:List C3} {L:List (List Int)} (hu:us.length≤1048576) (z0:0≤z) (hL:L.length≤1048576) (hT:totR L≤1048576) (hR:∀ r∈L,(r.length:Int)≤1048576) (hX:X.length≤100) (S:call lf n_laws_szIntSS [.sl 0 (L.map eR),.i (1048576 - (us.length:Int))]=some (.i z,[])) (C1:call lf n_impl_GroupPlan [.sl 0 (us.map e2),.sl 0 (L.map eR)]=some (.tup [.fr 3 (X.map e3),.b v],[])) (C2:call lf n_spec_GroupPlan [.sl 0 (us.map e2),.sl 0 (L.map eR)]=some (.tup [.fr 3 (X.map e3),.b v],[])):∃ S1,ex lf IGroupPlan_12 ⟨[(0,.sl 0 (us.map e2)),(1,.sl 0 (L.map eR)),(6,.sl 0 (X.map e3)),(7,.b v),(8,.sl 0 (us.map e2)),(9,.sl 0 (L.map eR)),(10,.sl 0 (X.map e3)),(11,.b v)],[]⟩=some (.normal,S1)∧∀ g∈([]:List (Nat×DV)),made S1 g:=by
 have A:=c_toIntSS L (by omega) hR
 have Q:=c_eqIntSS_self L (by omega) hR
 have Q1:=c_eqChoiceS_self X (by omega)
 have tk:List.take L.length (L.map eN)=L.map eN:=List.take_of_length_le (by simp)
 have tk2:List.take us.length (us.map e2)=us.map e2:=List.take_of_length_le (by simp)
 have tk3:List.take X.length (X.map e3)=X.map e3:=List.take_of_length_le (by simp)
 simp (config := { maxSteps := 2000000 }) [IGroupPlan_12,made,settle,elems,wholeP,DV.allNew,DV.adopt,adoptP,newP,A,Q,Q1,tk,tk2,tk3]
set_option maxHeartbeats 4000000 in
theorem sGroupPlan_13 {us:List T} {z:Int} {v:Bool} {X:List C3} {L:List (List Int)} (hu:us.length≤1048576) (z0:0≤z) (hL:L.length≤1048576) (hT:totR L≤1048576) (hR:∀ r∈L,(r.length:Int)≤1048576) (hX:X.length≤100) (S:call lf n_laws_szIntSS [.sl 0 (L.map eR),.i (1048576 - (us.length:Int))]=some (.i z,[])) (C1:call lf n_impl_GroupPlan [.sl 0 (us.map e2),.sl 0 (L.map eR)]=some (.tup [.fr 3 (X.map e3),.b v],[])) (C2:call lf n_spec_GroupPlan [.sl 0 (us.map e2),.sl 0 (L.map eR)]=some (.tup [.fr 3 (X.map e3),.b v],[])):∃ S1,ex lf IGroupPlan_13 ⟨[(0,.sl 0 (us.map e2)),(1,.sl 0 (L.map eR)),(6,.sl 0 (X.map e3)),(7,.b v),(8,.sl 0 (us.map e2)),(9,.sl 0 (L.map eR)),(10,.sl 0 (X.map e3)),(11,.b v)],[]⟩=some (.normal,S1)∧∀ g∈([(12,.i (1))]:List (Nat×DV)),made S1 g:=by
 simp (config := { maxSteps := 2000000 }) [IGroupPlan_13,made,settle,elems,wholeP,DV.allNew,DV.adopt,adoptP,newP,]
set_option maxHeartbeats 4000000 in
theorem sGroupPlan_16 {us:List T} {z:Int} {v:Bool} {X:List C3} {L:List (List Int)} (hu:us.length≤1048576) (z0:0≤z) (hL:L.length≤1048576) (hT:totR L≤1048576) (hR:∀ r∈L,(r.length:Int)≤1048576) (hX:X.length≤100) (S:call lf n_laws_szIntSS [.sl 0 (L.map eR),.i (1048576 - (us.length:Int))]=some (.i z,[])) (C1:call lf n_impl_GroupPlan [.sl 0 (us.map e2),.sl 0 (L.map eR)]=some (.tup [.fr 3 (X.map e3),.b v],[])) (C2:call lf n_spec_GroupPlan [.sl 0 (us.map e2),.sl 0 (L.map eR)]=some (.tup [.fr 3 (X.map e3),.b v],[])):∃ S1,ex lf IGroupPlan_16 ⟨[(0,.sl 0 (us.map e2)),(1,.sl 0 (L.map eR)),(6,.sl 0 (X.map e3)),(7,.b v),(10,.sl 0 (X.map e3)),(11,.b v),(12,.i (1+2 * (us.length:Int)+(totR L:Int)))],[]⟩=some (.normal,S1)∧∀ g∈([]:List (Nat×DV)),made S1 g:=by
 have n1:¬ (1048576:Int) < us.length:=by omega
 have n2:¬ (1048576:Int) - us.length < 0:=by omega
 have n0:¬ z < 0:=by omega
 have Q1:=c_eqChoiceS_self X (by omega)
 have n3:¬ 1+2 * (us.length:Int)+(totR L:Int) < 0:=by omega
 have n4:¬ 1+3 * (X.length:Int) < 0:=by omega
 have tk:List.take L.length (L.map eN)=L.map eN:=List.take_of_length_le (by simp)
 have tk2:List.take us.length (us.map e2)=us.map e2:=List.take_of_length_le (by simp)
 have tk3:List.take X.length (X.map e3)=X.map e3:=List.take_of_length_le (by simp)
 simp (config := { maxSteps := 2000000 }) [IGroupPlan_16,made,settle,elems,wholeP,DV.allNew,DV.adopt,adoptP,newP,n1,n2,n0,Q1,n3,n4,tk,tk2,tk3]
set_option maxHeartbeats 4000000 in
theorem sGroupPlan_17 {us:List T} {z:Int} {v:Bool} {X:List C3} {L:List (List Int)} (hu:us.length≤1048576) (z0:0≤z) (hL:L.length≤1048576) (hT:totR L≤1048576) (hR:∀ r∈L,(r.length:Int)≤1048576) (hX:X.length≤100) (S:call lf n_laws_szIntSS [.sl 0 (L.map eR),.i (1048576 - (us.length:Int))]=some (.i z,[])) (C1:call lf n_impl_GroupPlan [.sl 0 (us.map e2),.sl 0 (L.map eR)]=some (.tup [.fr 3 (X.map e3),.b v],[])) (C2:call lf n_spec_GroupPlan [.sl 0 (us.map e2),.sl 0 (L.map eR)]=some (.tup [.fr 3 (X.map e3),.b v],[])):∃ S1,ex lf IGroupPlan_17 ⟨[(0,.sl 0 (us.map e2)),(1,.sl 0 (L.map eR)),(6,.sl 0 (X.map e3)),(7,.b v),(10,.sl 0 (X.map e3))],[]⟩=some (.normal,S1)∧∀ g∈([(13,.i (1))]:List (Nat×DV)),made S1 g:=by
 simp (config := { maxSteps := 2000000 }) [IGroupPlan_17,made,settle,elems,wholeP,DV.allNew,DV.adopt,adoptP,newP,]
set_option maxHeartbeats 4000000 in
theorem sGroupPlan_19 {us:List T} {z:Int} {v:Bool} {X:List C3} {L:List (List Int)} (hu:us.length≤1048576) (z0:0≤z) (hL:L.length≤1048576) (hT:totR L≤1048576) (hR:∀ r∈L,(r.length:Int)≤1048576) (hX:X.length≤100) (S:call lf n_laws_szIntSS [.sl 0 (L.map eR),.i (1048576 - (us.length:Int))]=some (.i z,[])) (C1:call lf n_impl_GroupPlan [.sl 0 (us.map e2),.sl 0 (L.map eR)]=some (.tup [.fr 3 (X.map e3),.b v],[])) (C2:call lf n_spec_GroupPlan [.sl 0 (us.map e2),.sl 0 (L.map eR)]=some (.tup [.fr 3 (X.map e3),.b v],[])):∃ S1,ex lf IGroupPlan_19 ⟨[(0,.sl 0 (us.map e2)),(1,.sl 0 (L.map eR)),(6,.sl 0 (X.map e3)),(7,.b v),(10,.sl 0 ((mkC 1 X.length).map e3)),(13,.i (1+3 * (X.length:Int)))],[]⟩=some (.normal,S1)∧∀ g∈([(14,.i (1))]:List (Nat×DV)),made S1 g:=by
 simp (config := { maxSteps := 2000000 }) [IGroupPlan_19,made,settle,elems,wholeP,DV.allNew,DV.adopt,adoptP,newP,]
set_option maxHeartbeats 4000000 in
theorem sGroupPlan_20 {us:List T} {z:Int} {v:Bool} {X:List C3} {L:List (List Int)} (hu:us.length≤1048576) (z0:0≤z) (hL:L.length≤1048576) (hT:totR L≤1048576) (hR:∀ r∈L,(r.length:Int)≤1048576) (hX:X.length≤100) (S:call lf n_laws_szIntSS [.sl 0 (L.map eR),.i (1048576 - (us.length:Int))]=some (.i z,[])) (C1:call lf n_impl_GroupPlan [.sl 0 (us.map e2),.sl 0 (L.map eR)]=some (.tup [.fr 3 (X.map e3),.b v],[])) (C2:call lf n_spec_GroupPlan [.sl 0 (us.map e2),.sl 0 (L.map eR)]=some (.tup [.fr 3 (X.map e3),.b v],[])):∃ S1,ex lf IGroupPlan_20 ⟨[(0,.sl 0 (us.map e2)),(1,.sl 0 (L.map eR)),(6,.sl 0 (X.map e3)),(7,.b v),(10,.sl 0 ((mkC 1 X.length).map e3)),(13,.i (1+3 * (X.length:Int))),(14,.i (1))],[]⟩=some (.normal,S1)∧∀ g∈([(14,.i (1+3 * (X.length:Int)))]:List (Nat×DV)),made S1 g:=by
 have HH:=c_heldChoiceS X.length 1 (by omega) (by omega) (by omega)
 rw [mk3_mkC] at HH
 have tk:List.take L.length (L.map eN)=L.map eN:=List.take_of_length_le (by simp)
 have tk2:List.take us.length (us.map e2)=us.map e2:=List.take_of_length_le (by simp)
 have tk3:List.take X.length (X.map e3)=X.map e3:=List.take_of_length_le (by simp)
 simp (config := { maxSteps := 2000000 }) [IGroupPlan_20,made,settle,elems,wholeP,DV.allNew,DV.adopt,adoptP,newP,HH,tk,tk2,tk3]
set_option maxHeartbeats 4000000 in
theorem sGroupPlan_21 {us:List T} {z:Int} {v:Bool} {X:List C3} {L:List (List Int)} (hu:us.length≤1048576) (z0:0≤z) (hL:L.length≤1048576) (hT:totR L≤1048576) (hR:∀ r∈L,(r.length:Int)≤1048576) (hX:X.length≤100) (S:call lf n_laws_szIntSS [.sl 0 (L.map eR),.i (1048576 - (us.length:Int))]=some (.i z,[])) (C1:call lf n_impl_GroupPlan [.sl 0 (us.map e2),.sl 0 (L.map eR)]=some (.tup [.fr 3 (X.map e3),.b v],[])) (C2:call lf n_spec_GroupPlan [.sl 0 (us.map e2),.sl 0 (L.map eR)]=some (.tup [.fr 3 (X.map e3),.b v],[])):∃ S1,ex lf IGroupPlan_21 ⟨[(0,.sl 0 (us.map e2)),(1,.sl 0 (L.map eR)),(6,.sl 0 (X.map e3)),(7,.b v),(10,.sl 0 ((mkC 1 X.length).map e3)),(13,.i (1+3 * (X.length:Int))),(14,.i (1+3 * (X.length:Int)))],[]⟩=some (.normal,S1)∧∀ g∈([]:List (Nat×DV)),made S1 g:=by
 have n1:¬ (1048576:Int) < us.length:=by omega
 have n2:¬ (1048576:Int) - us.length < 0:=by omega
 have n0:¬ z < 0:=by omega
 have n3:¬ 1+2 * (us.length:Int)+(totR L:Int) < 0:=by omega
 have n4:¬ 1+3 * (X.length:Int) < 0:=by omega
 simp (config := { maxSteps := 2000000 }) [IGroupPlan_21,made,settle,elems,wholeP,DV.allNew,DV.adopt,adoptP,newP,n1,n2,n0,n3,n4]
set_option maxHeartbeats 4000000 in
theorem sGroupPlan_22 {us:List T} {z:Int} {v:Bool} {X:List C3} {L:List (List Int)} (hu:us.length≤1048576) (z0:0≤z) (hL:L.length≤1048576) (hT:totR L≤1048576) (hR:∀ r∈L,(r.length:Int)≤1048576) (hX:X.length≤100) (S:call lf n_laws_szIntSS [.sl 0 (L.map eR),.i (1048576 - (us.length:Int))]=some (.i z,[])) (C1:call lf n_impl_GroupPlan [.sl 0 (us.map e2),.sl 0 (L.map eR)]=some (.tup [.fr 3 (X.map e3),.b v],[])) (C2:call lf n_spec_GroupPlan [.sl 0 (us.map e2),.sl 0 (L.map eR)]=some (.tup [.fr 3 (X.map e3),.b v],[])):∃ S1,ex lf IGroupPlan_22 ⟨[(0,.sl 0 (us.map e2)),(1,.sl 0 (L.map eR)),(6,.sl 0 (X.map e3)),(7,.b v),(10,.sl 0 ((mkC 1 X.length).map e3)),(13,.i (1+3 * (X.length:Int))),(14,.i (1+3 * (X.length:Int)))],[]⟩=some (.normal,S1)∧∀ g∈([]:List (Nat×DV)),made S1 g:=by
 simp (config := { maxSteps := 2000000 }) [IGroupPlan_22,made,settle,elems,wholeP,DV.allNew,DV.adopt,adoptP,newP,]
set_option maxHeartbeats 4000000 in
theorem sGroupPlan_23 {us:List T} {z:Int} {v:Bool} {X:List C3} {L:List (List Int)} (hu:us.length≤1048576) (z0:0≤z) (hL:L.length≤1048576) (hT:totR L≤1048576) (hR:∀ r∈L,(r.length:Int)≤1048576) (hX:X.length≤100) (S:call lf n_laws_szIntSS [.sl 0 (L.map eR),.i (1048576 - (us.length:Int))]=some (.i z,[])) (C1:call lf n_impl_GroupPlan [.sl 0 (us.map e2),.sl 0 (L.map eR)]=some (.tup [.fr 3 (X.map e3),.b v],[])) (C2:call lf n_spec_GroupPlan [.sl 0 (us.map e2),.sl 0 (L.map eR)]=some (.tup [.fr 3 (X.map e3),.b v],[])):∃ S1,ex lf IGroupPlan_23 ⟨[(0,.sl 0 (us.map e2)),(1,.sl 0 (L.map eR)),(6,.sl 0 (X.map e3)),(7,.b v),(10,.sl 0 ((mkC 1 X.length).map e3)),(13,.i (1+3 * (X.length:Int)))],[]⟩=some (.normal,S1)∧∀ g∈([(15,.sl 1 (X.map e3)),(16,.b v)]:List (Nat×DV)),made S1 g:=by
 have A0:=c_toTestS us (by omega)
 have A:=c_toIntSS L (by omega) hR
 have tk:List.take L.length (L.map eN)=L.map eN:=List.take_of_length_le (by simp)
 have tk2:List.take us.length (us.map e2)=us.map e2:=List.take_of_length_le (by simp)
 have tk3:List.take X.length (X.map e3)=X.map e3:=List.take_of_length_le (by simp)
 simp (config := { maxSteps := 2000000 }) [IGroupPlan_23,made,settle,elems,wholeP,DV.allNew,DV.adopt,adoptP,newP,A0,A,tk,tk2,tk3,C1]
set_option maxHeartbeats 4000000 in
theorem sGroupPlan_24 {us:List T} {z:Int} {v:Bool} {X:List C3} {L:List (List Int)} (hu:us.length≤1048576) (z0:0≤z) (hL:L.length≤1048576) (hT:totR L≤1048576) (hR:∀ r∈L,(r.length:Int)≤1048576) (hX:X.length≤100) (S:call lf n_laws_szIntSS [.sl 0 (L.map eR),.i (1048576 - (us.length:Int))]=some (.i z,[])) (C1:call lf n_impl_GroupPlan [.sl 0 (us.map e2),.sl 0 (L.map eR)]=some (.tup [.fr 3 (X.map e3),.b v],[])) (C2:call lf n_spec_GroupPlan [.sl 0 (us.map e2),.sl 0 (L.map eR)]=some (.tup [.fr 3 (X.map e3),.b v],[])):∃ S1,ex lf IGroupPlan_24 ⟨[(6,.sl 0 (X.map e3)),(7,.b v),(10,.sl 0 ((mkC 1 X.length).map e3)),(13,.i (1+3 * (X.length:Int))),(15,.sl 0 (X.map e3)),(16,.b v)],[]⟩=some (.normal,S1)∧∀ g∈([]:List (Nat×DV)),made S1 g:=by
 have Q1:=c_eqChoiceS_self X (by omega)
 have tk:List.take L.length (L.map eN)=L.map eN:=List.take_of_length_le (by simp)
 have tk2:List.take us.length (us.map e2)=us.map e2:=List.take_of_length_le (by simp)
 have tk3:List.take X.length (X.map e3)=X.map e3:=List.take_of_length_le (by simp)
 simp (config := { maxSteps := 2000000 }) [IGroupPlan_24,made,settle,elems,wholeP,DV.allNew,DV.adopt,adoptP,newP,Q1,tk,tk2,tk3]
set_option maxHeartbeats 4000000 in
theorem sGroupPlan_25 {us:List T} {z:Int} {v:Bool} {X:List C3} {L:List (List Int)} (hu:us.length≤1048576) (z0:0≤z) (hL:L.length≤1048576) (hT:totR L≤1048576) (hR:∀ r∈L,(r.length:Int)≤1048576) (hX:X.length≤100) (S:call lf n_laws_szIntSS [.sl 0 (L.map eR),.i (1048576 - (us.length:Int))]=some (.i z,[])) (C1:call lf n_impl_GroupPlan [.sl 0 (us.map e2),.sl 0 (L.map eR)]=some (.tup [.fr 3 (X.map e3),.b v],[])) (C2:call lf n_spec_GroupPlan [.sl 0 (us.map e2),.sl 0 (L.map eR)]=some (.tup [.fr 3 (X.map e3),.b v],[])):∃ S1,ex lf IGroupPlan_25 ⟨[(10,.sl 0 ((mkC 1 X.length).map e3)),(13,.i (1+3 * (X.length:Int)))],[]⟩=some (.normal,S1)∧∀ g∈([(14,.i (1))]:List (Nat×DV)),made S1 g:=by
 simp (config := { maxSteps := 2000000 }) [IGroupPlan_25,made,settle,elems,wholeP,DV.allNew,DV.adopt,adoptP,newP,]
set_option maxHeartbeats 4000000 in
theorem sGroupPlan_26 {us:List T} {z:Int} {v:Bool} {X:List C3} {L:List (List Int)} (hu:us.length≤1048576) (z0:0≤z) (hL:L.length≤1048576) (hT:totR L≤1048576) (hR:∀ r∈L,(r.length:Int)≤1048576) (hX:X.length≤100) (S:call lf n_laws_szIntSS [.sl 0 (L.map eR),.i (1048576 - (us.length:Int))]=some (.i z,[])) (C1:call lf n_impl_GroupPlan [.sl 0 (us.map e2),.sl 0 (L.map eR)]=some (.tup [.fr 3 (X.map e3),.b v],[])) (C2:call lf n_spec_GroupPlan [.sl 0 (us.map e2),.sl 0 (L.map eR)]=some (.tup [.fr 3 (X.map e3),.b v],[])):∃ S1,ex lf IGroupPlan_26 ⟨[(10,.sl 0 ((mkC 1 X.length).map e3)),(13,.i (1+3 * (X.length:Int))),(14,.i (1))],[]⟩=some (.normal,S1)∧∀ g∈([(14,.i (1+3 * (X.length:Int)))]:List (Nat×DV)),made S1 g:=by
 have HH:=c_heldChoiceS X.length 1 (by omega) (by omega) (by omega)
 rw [mk3_mkC] at HH
 have tk:List.take L.length (L.map eN)=L.map eN:=List.take_of_length_le (by simp)
 have tk2:List.take us.length (us.map e2)=us.map e2:=List.take_of_length_le (by simp)
 have tk3:List.take X.length (X.map e3)=X.map e3:=List.take_of_length_le (by simp)
 simp (config := { maxSteps := 2000000 }) [IGroupPlan_26,made,settle,elems,wholeP,DV.allNew,DV.adopt,adoptP,newP,HH,tk,tk2,tk3]
set_option maxHeartbeats 4000000 in
theorem sGroupPlan_27 {us:List T} {z:Int} {v:Bool} {X:List C3} {L:List (List Int)} (hu:us.length≤1048576) (z0:0≤z) (hL:L.length≤1048576) (hT:totR L≤1048576) (hR:∀ r∈L,(r.length:Int)≤1048576) (hX:X.length≤100) (S:call lf n_laws_szIntSS [.sl 0 (L.map eR),.i (1048576 - (us.length:Int))]=some (.i z,[])) (C1:call lf n_impl_GroupPlan [.sl 0 (us.map e2),.sl 0 (L.map eR)]=some (.tup [.fr 3 (X.map e3),.b v],[])) (C2:call lf n_spec_GroupPlan [.sl 0 (us.map e2),.sl 0 (L.map eR)]=some (.tup [.fr 3 (X.map e3),.b v],[])):∃ S1,ex lf IGroupPlan_27 ⟨[(13,.i (1+3 * (X.length:Int))),(14,.i (1+3 * (X.length:Int)))],[]⟩=some (.normal,S1)∧∀ g∈([]:List (Nat×DV)),made S1 g:=by
 have n1:¬ (1048576:Int) < us.length:=by omega
 have n2:¬ (1048576:Int) - us.length < 0:=by omega
 have n0:¬ z < 0:=by omega
 have n3:¬ 1+2 * (us.length:Int)+(totR L:Int) < 0:=by omega
 have n4:¬ 1+3 * (X.length:Int) < 0:=by omega
 simp (config := { maxSteps := 2000000 }) [IGroupPlan_27,made,settle,elems,wholeP,DV.allNew,DV.adopt,adoptP,newP,n1,n2,n0,n3,n4]
set_option maxHeartbeats 4000000 in
theorem sGroupPlan_28 {us:List T} {z:Int} {v:Bool} {X:List C3} {L:List (List Int)} (hu:us.length≤1048576) (z0:0≤z) (hL:L.length≤1048576) (hT:totR L≤1048576) (hR:∀ r∈L,(r.length:Int)≤1048576) (hX:X.length≤100) (S:call lf n_laws_szIntSS [.sl 0 (L.map eR),.i (1048576 - (us.length:Int))]=some (.i z,[])) (C1:call lf n_impl_GroupPlan [.sl 0 (us.map e2),.sl 0 (L.map eR)]=some (.tup [.fr 3 (X.map e3),.b v],[])) (C2:call lf n_spec_GroupPlan [.sl 0 (us.map e2),.sl 0 (L.map eR)]=some (.tup [.fr 3 (X.map e3),.b v],[])):∃ S1,ex lf IGroupPlan_28 ⟨[(13,.i (1+3 * (X.length:Int))),(14,.i (1+3 * (X.length:Int)))],[]⟩=some (.normal,S1)∧∀ g∈([]:List (Nat×DV)),made S1 g:=by
 simp (config := { maxSteps := 2000000 }) [IGroupPlan_28,made,settle,elems,wholeP,DV.allNew,DV.adopt,adoptP,newP,]
set_option maxHeartbeats 4000000 in
theorem sGroupPlan_29 {us:List T} {z:Int} {v:Bool} {X:List C3} {L:List (List Int)} (hu:us.length≤1048576) (z0:0≤z) (hL:L.length≤1048576) (hT:totR L≤1048576) (hR:∀ r∈L,(r.length:Int)≤1048576) (hX:X.length≤100) (S:call lf n_laws_szIntSS [.sl 0 (L.map eR),.i (1048576 - (us.length:Int))]=some (.i z,[])) (C1:call lf n_impl_GroupPlan [.sl 0 (us.map e2),.sl 0 (L.map eR)]=some (.tup [.fr 3 (X.map e3),.b v],[])) (C2:call lf n_spec_GroupPlan [.sl 0 (us.map e2),.sl 0 (L.map eR)]=some (.tup [.fr 3 (X.map e3),.b v],[])):∃ S1,ex lf IGroupPlan_29 ⟨[],[]⟩=some (.normal,S1)∧∀ g∈([(4,.b true)]:List (Nat×DV)),made S1 g:=by
 simp (config := { maxSteps := 2000000 }) [IGroupPlan_29,made,settle,elems,wholeP,DV.allNew,DV.adopt,adoptP,newP,]
section
variable {P:Go.Program} {dc:Array Go.Oper→Bool}
set_option maxHeartbeats 4000000 in
theorem law_FnExactGroupPlan (hok:∀ f F,lf f=some F→OkF P dc f F) (hD:∀ Γ,FnSound P Γ→DrawOk P Γ dc) (hB:BackSound P) (us:List T) (hu0:us.length≤Go.maxLen) (L:List (List Int)) (hL0:L.length≤Go.maxLen∧∀ r∈L,r.length≤Go.maxLen) {w:Go.World} (hg:GlobC ⟨w,fun _=>True,[]⟩) {v0 v1:Go.Value} (h0:CR w w.heap.size (okb (fun _=>True) w.heap.size fun _=>none) (rs2 us) v0) (h1:CR w w.heap.size (okb (fun _=>True) w.heap.size fun _=>none) (rss L) v1) :
  Go.Calls P n_laws_FnExactGroupPlan #[v0,v1] w fun e w'=>e=.returned (.bool true)∧Go.RowKit.Below w.heap.size w w':=by
 have hS:∀ n,CallOk P (callN lf n):=fun n=>callOk_of (callN_sound hok hD hB n)
 have S0:=c_szTestS us 1048576 (by omega) (by omega) (by unfold Go.maxLen at hu0; omega)
 by_cases hbig:(1048576:Int) < us.length
 ·have C:call lf n_laws_FnExactGroupPlan [rs2 us,rss L]=some (.b true,[]):=by
   show call lf n_laws_FnExactGroupPlan [.sl 0 (us.map e2),.sl 0 (L.map eR)]=_
   rw [call_k lf n_laws_FnExactGroupPlan _ (F:=F_laws_FnExactGroupPlan) rfl rfl]
   simp [F_laws_FnExactGroupPlan,S0,hbig]
  exact law_calls (call_sound hok hD hB C) (entry_top hg rfl (by simp [rs2,rss,refW]) (fun j d u hd hu=>by
   match j,hd,hu with
   | 0,hd,hu=>simp at hd hu; subst hd; subst hu; exact .cr _ _ h0
   | 1,hd,hu=>simp at hd hu; subst hd; subst hu; exact .cr _ _ h1
   | j+2,hd,hu=>simp at hd))
 have hu:us.length≤1048576:=by omega
 have n2:¬ (1048576:Int) - us.length < 0:=by omega
 rcases c_szIntSS L (1048576 - us.length) (by omega) hL0.1 hL0.2 with S | ⟨z,z0,z1,zL,zF,S⟩
 ·have C:call lf n_laws_FnExactGroupPlan [rs2 us,rss L]=some (.b true,[]):=by
   show call lf n_laws_FnExactGroupPlan [.sl 0 (us.map e2),.sl 0 (L.map eR)]=_
   rw [call_k lf n_laws_FnExactGroupPlan _ (F:=F_laws_FnExactGroupPlan) rfl rfl]
   simp [F_laws_FnExactGroupPlan,S0,hbig,S,n2]
  exact law_calls (call_sound hok hD hB C) (entry_top hg rfl (by simp [rs2,rss,refW]) (fun j d u hd hu=>by
   match j,hd,hu with
   | 0,hd,hu=>simp at hd hu; subst hd; subst hu; exact .cr _ _ h0
   | 1,hd,hu=>simp at hd hu; subst hd; subst hu; exact .cr _ _ h1
   | j+2,hd,hu=>simp at hd))
 have hT:totR L≤1048576:=by rw [totR_flat]; omega
 have hL:L.length≤1048576:=by omega
 have hR:∀ r∈L,(r.length:Int)≤1048576:=fun r hr=>by
  obtain ⟨i,hi⟩:=List.mem_iff_getElem?.1 hr
  have:=totR_mem L i r hi
  omega
 have C1:=c_impl_GroupPlan us L (by omega) (by omega)
 have C2:=c_spec_GroupPlan us L (by omega) (by omega) (by omega)
 have hX:=gpL_leX us L
 generalize gpL us L=X at *
 generalize (tsOk us && gokB us.length L)=v at *
 refine law_start hok (F:=F_laws_FnExactGroupPlan) rfl rfl rfl rfl hg (fs:=[oF w 0 (rs2 us),oF w 1 (rss L)]) (by
  intro f hf
  simp only [List.mem_cons,List.not_mem_nil,or_false] at hf
  rcases hf with rfl | rfl
  ·exact ⟨in_fact h0 (by simp [rs2,DV.allOld,al_e2]),by show (0:Nat) < 2; omega⟩
  ·exact ⟨in_fact h1 (by simp [rss,DV.allOld,al_eR]),by show (1:Nat) < 2; omega⟩) (fun N code a0 hv hc hs0=>?_)
 rw [body_GroupPlan] at hv
 refine hs0.base hS (l1:=IGroupPlan_0) (l2:=RGroupPlan_1) hv hc rfl [oF w 0 (rs2 us),oF w 1 (rss L)] (by
  intro f hf
  simp only [List.mem_cons,List.not_mem_nil,or_false] at hf
  rcases hf with rfl | rfl <;> exact ⟨by simp [oF,nF],by dsimp only [oF,nF]; decide⟩) [] (by
  simp only [envF,oF,nF,List.map_cons,List.map_nil,DV.lend,rs2,rss,lend_e2,lend_eN,lend_eR,lend_e3,lend_ints_]
  exact sGroupPlan_0 hu z0 hL hT hR hX S C1 C2) (fun c1 a1 w1 hv1 hc1 hz1 hs1=>?_)
 replace hs1:=hs1.sub (gs:=[oF w 0 (rs2 us),oF w 1 (rss L)]) (by
  intro g hg
  refine hs1.so g ?_
  simp only [List.cons_append,List.nil_append,List.map_cons,List.map_nil,newF,nF,oF]
  simp only [List.mem_cons,List.not_mem_nil,or_false] at hg ⊢
  rcases hg with rfl | rfl <;> simp [oF,nF])
 refine hs1.base hS (l1:=IGroupPlan_1) (l2:=RGroupPlan_2) hv1 hc1 rfl [oF w 0 (rs2 us),oF w 1 (rss L)] (by
  intro f hf
  simp only [List.mem_cons,List.not_mem_nil,or_false] at hf
  rcases hf with rfl | rfl <;> exact ⟨by simp [oF,nF],by dsimp only [oF,nF]; decide⟩) [(5,.i (1048576))] (by
  simp only [envF,oF,nF,List.map_cons,List.map_nil,DV.lend,rs2,rss,lend_e2,lend_eN,lend_eR,lend_e3,lend_ints_]
  exact sGroupPlan_1 hu z0 hL hT hR hX S C1 C2) (fun c2 a2 w2 hv2 hc2 hz2 hs2=>?_)
 replace hs2:=hs2.sub (gs:=[oF w 0 (rs2 us),oF w 1 (rss L),nF w1 w2 5 (.i (1048576))]) (by
  intro g hg
  refine hs2.so g ?_
  simp only [List.cons_append,List.nil_append,List.map_cons,List.map_nil,newF,nF,oF]
  simp only [List.mem_cons,List.not_mem_nil,or_false] at hg ⊢
  rcases hg with rfl | rfl | rfl <;> simp [oF,nF])
 refine hs2.base hS (l1:=IGroupPlan_2) (l2:=RGroupPlan_3) hv2 hc2 rfl [oF w 0 (rs2 us),oF w 1 (rss L)] (by
  intro f hf
  simp only [List.mem_cons,List.not_mem_nil,or_false] at hf
  rcases hf with rfl | rfl <;> exact ⟨by simp [oF,nF],by dsimp only [oF,nF]; decide⟩) [(5,.i (1048576 - (us.length:Int)))] (by
  simp only [envF,oF,nF,List.map_cons,List.map_nil,DV.lend,rs2,rss,lend_e2,lend_eN,lend_eR,lend_e3,lend_ints_]
  exact sGroupPlan_2 hu z0 hL hT hR hX S C1 C2) (fun c3 a3 w3 hv3 hc3 hz3 hs3=>?_)
 replace hs3:=hs3.sub (gs:=[oF w 0 (rs2 us),oF w 1 (rss L),nF w2 w3 5 (.i (1048576 - (us.length:Int)))]) (by
  intro g hg
  refine hs3.so g ?_
  simp only [List.cons_append,List.nil_append,List.map_cons,List.map_nil,newF,nF,oF]
  simp only [List.mem_cons,List.not_mem_nil,or_false] at hg ⊢
  rcases hg with rfl | rfl | rfl <;> simp [oF,nF])
 refine hs3.base hS (l1:=IGroupPlan_3) (l2:=RGroupPlan_4) hv3 hc3 rfl [oF w 0 (rs2 us),oF w 1 (rss L),nF w2 w3 5 (.i (1048576 - (us.length:Int)))] (by
  intro f hf
  simp only [List.mem_cons,List.not_mem_nil,or_false] at hf
  rcases hf with rfl | rfl | rfl <;> exact ⟨by simp [oF,nF],by dsimp only [oF,nF]; decide⟩) [] (by
  simp only [envF,oF,nF,List.map_cons,List.map_nil,DV.lend,rs2,rss,lend_e2,lend_eN,lend_eR,lend_e3,lend_ints_]
  exact sGroupPlan_3 hu z0 hL hT hR hX S C1 C2) (fun c4 a4 w4 hv4 hc4 hz4 hs4=>?_)
 replace hs4:=hs4.sub (gs:=[oF w 0 (rs2 us),oF w 1 (rss L),nF w2 w3 5 (.i (1048576 - (us.length:Int)))]) (by
  intro g hg
  refine hs4.so g ?_
  simp only [List.cons_append,List.nil_append,List.map_cons,List.map_nil,newF,nF,oF]
  simp only [List.mem_cons,List.not_mem_nil,or_false] at hg ⊢
  rcases hg with rfl | rfl | rfl <;> simp [oF,nF])
 refine hs4.base hS (l1:=IGroupPlan_4) (l2:=RGroupPlan_5) hv4 hc4 rfl [oF w 0 (rs2 us),oF w 1 (rss L)] (by
  intro f hf
  simp only [List.mem_cons,List.not_mem_nil,or_false] at hf
  rcases hf with rfl | rfl <;> exact ⟨by simp [oF,nF],by dsimp only [oF,nF]; decide⟩) [(5,.i (z))] (by
  simp only [envF,oF,nF,List.map_cons,List.map_nil,DV.lend,rs2,rss,lend_e2,lend_eN,lend_eR,lend_e3,lend_ints_]
  exact sGroupPlan_4 hu z0 hL hT hR hX S C1 C2) (fun c5 a5 w5 hv5 hc5 hz5 hs5=>?_)
 replace hs5:=hs5.sub (gs:=[oF w 0 (rs2 us),oF w 1 (rss L),nF w4 w5 5 (.i (z))]) (by
  intro g hg
  refine hs5.so g ?_
  simp only [List.cons_append,List.nil_append,List.map_cons,List.map_nil,newF,nF,oF]
  simp only [List.mem_cons,List.not_mem_nil,or_false] at hg ⊢
  rcases hg with rfl | rfl | rfl <;> simp [oF,nF])
 refine hs5.base hS (l1:=IGroupPlan_5) (l2:=RGroupPlan_6) hv5 hc5 rfl [oF w 0 (rs2 us),oF w 1 (rss L)] (by
  intro f hf
  simp only [List.mem_cons,List.not_mem_nil,or_false] at hf
  rcases hf with rfl | rfl <;> exact ⟨by simp [oF,nF],by dsimp only [oF,nF]; decide⟩) [] (by
  simp only [envF,oF,nF,List.map_cons,List.map_nil,DV.lend,rs2,rss,lend_e2,lend_eN,lend_eR,lend_e3,lend_ints_]
  exact sGroupPlan_5 hu z0 hL hT hR hX S C1 C2) (fun c6 a6 w6 hv6 hc6 hz6 hs6=>?_)
 replace hs6:=hs6.sub (gs:=[oF w 0 (rs2 us),oF w 1 (rss L)]) (by
  intro g hg
  refine hs6.so g ?_
  simp only [List.cons_append,List.nil_append,List.map_cons,List.map_nil,newF,nF,oF]
  simp only [List.mem_cons,List.not_mem_nil,or_false] at hg ⊢
  rcases hg with rfl | rfl <;> simp [oF,nF])
 refine hs6.base hS (l1:=IGroupPlan_6) (l2:=RGroupPlan_7) hv6 hc6 rfl [oF w 0 (rs2 us),oF w 1 (rss L)] (by
  intro f hf
  simp only [List.mem_cons,List.not_mem_nil,or_false] at hf
  rcases hf with rfl | rfl <;> exact ⟨by simp [oF,nF],by dsimp only [oF,nF]; decide⟩) [(6,.sl 1 (X.map e3)),(7,.b v)] (by
  simp only [envF,oF,nF,List.map_cons,List.map_nil,DV.lend,rs2,rss,lend_e2,lend_eN,lend_eR,lend_e3,lend_ints_]
  exact sGroupPlan_6 hu z0 hL hT hR hX S C1 C2) (fun c7 a7 w7 hv7 hc7 hz7 hs7=>?_)
 replace hs7:=hs7.sub (gs:=[oF w 0 (rs2 us),oF w 1 (rss L),nF w6 w7 6 (.sl 1 (X.map e3)),nF w6 w7 7 (.b v)]) (by
  intro g hg
  refine hs7.so g ?_
  simp only [List.cons_append,List.nil_append,List.map_cons,List.map_nil,newF,nF,oF]
  simp only [List.mem_cons,List.not_mem_nil,or_false] at hg ⊢
  rcases hg with rfl | rfl | rfl | rfl <;> simp [oF,nF])
 refine hs7.base hS (l1:=IGroupPlan_7) (l2:=RGroupPlan_8) hv7 hc7 rfl [oF w 0 (rs2 us),oF w 1 (rss L),nF w6 w7 6 (.sl 1 (X.map e3)),nF w6 w7 7 (.b v)] (by
  intro f hf
  simp only [List.mem_cons,List.not_mem_nil,or_false] at hf
  rcases hf with rfl | rfl | rfl | rfl <;> exact ⟨by simp [oF,nF],by dsimp only [oF,nF]; decide⟩) [(8,.sl 1 (us.map e2))] (by
  simp only [envF,oF,nF,List.map_cons,List.map_nil,DV.lend,rs2,rss,lend_e2,lend_eN,lend_eR,lend_e3,lend_ints_]
  exact sGroupPlan_7 hu z0 hL hT hR hX S C1 C2) (fun c8 a8 w8 hv8 hc8 hz8 hs8=>?_)
 replace hs8:=hs8.sub (gs:=[oF w 0 (rs2 us),oF w 1 (rss L),nF w6 w7 6 (.sl 1 (X.map e3)),nF w6 w7 7 (.b v),nF w7 w8 8 (.sl 1 (us.map e2))]) (by
  intro g hg
  refine hs8.so g ?_
  simp only [List.cons_append,List.nil_append,List.map_cons,List.map_nil,newF,nF,oF]
  simp only [List.mem_cons,List.not_mem_nil,or_false] at hg ⊢
  rcases hg with rfl | rfl | rfl | rfl | rfl <;> simp [oF,nF])
 refine hs8.base hS (l1:=IGroupPlan_8) (l2:=RGroupPlan_9) hv8 hc8 rfl [oF w 0 (rs2 us),oF w 1 (rss L),nF w6 w7 6 (.sl 1 (X.map e3)),nF w6 w7 7 (.b v),nF w7 w8 8 (.sl 1 (us.map e2))] (by
  intro f hf
  simp only [List.mem_cons,List.not_mem_nil,or_false] at hf
  rcases hf with rfl | rfl | rfl | rfl | rfl <;> exact ⟨by simp [oF,nF],by dsimp only [oF,nF]; decide⟩) [(9,.sl 1 (L.map eN))] (by
  simp only [envF,oF,nF,List.map_cons,List.map_nil,DV.lend,rs2,rss,lend_e2,lend_eN,lend_eR,lend_e3,lend_ints_]
  exact sGroupPlan_8 hu z0 hL hT hR hX S C1 C2) (fun c9 a9 w9 hv9 hc9 hz9 hs9=>?_)
 replace hs9:=hs9.sub (gs:=[oF w 0 (rs2 us),oF w 1 (rss L),nF w6 w7 6 (.sl 1 (X.map e3)),nF w6 w7 7 (.b v),nF w7 w8 8 (.sl 1 (us.map e2)),nF w8 w9 9 (.sl 1 (L.map eN))]) (by
  intro g hg
  refine hs9.so g ?_
  simp only [List.cons_append,List.nil_append,List.map_cons,List.map_nil,newF,nF,oF]
  simp only [List.mem_cons,List.not_mem_nil,or_false] at hg ⊢
  rcases hg with rfl | rfl | rfl | rfl | rfl | rfl <;> simp [oF,nF])
 refine hs9.base hS (l1:=IGroupPlan_9) (l2:=RGroupPlan_10) hv9 hc9 rfl [oF w 0 (rs2 us),oF w 1 (rss L),nF w6 w7 6 (.sl 1 (X.map e3)),nF w6 w7 7 (.b v),nF w7 w8 8 (.sl 1 (us.map e2)),nF w8 w9 9 (.sl 1 (L.map eN))] (by
  intro f hf
  simp only [List.mem_cons,List.not_mem_nil,or_false] at hf
  rcases hf with rfl | rfl | rfl | rfl | rfl | rfl <;> exact ⟨by simp [oF,nF],by dsimp only [oF,nF]; decide⟩) [(10,.sl 1 (X.map e3)),(11,.b v)] (by
  simp only [envF,oF,nF,List.map_cons,List.map_nil,DV.lend,rs2,rss,lend_e2,lend_eN,lend_eR,lend_e3,lend_ints_]
  exact sGroupPlan_9 hu z0 hL hT hR hX S C1 C2) (fun c10 a10 w10 hv10 hc10 hz10 hs10=>?_)
 replace hs10:=hs10.sub (gs:=[oF w 0 (rs2 us),oF w 1 (rss L),nF w6 w7 6 (.sl 1 (X.map e3)),nF w6 w7 7 (.b v),nF w7 w8 8 (.sl 1 (us.map e2)),nF w8 w9 9 (.sl 1 (L.map eN)),nF w9 w10 10 (.sl 1 (X.map e3)),nF w9 w10 11 (.b v)]) (by
  intro g hg
  refine hs10.so g ?_
  simp only [List.cons_append,List.nil_append,List.map_cons,List.map_nil,newF,nF,oF]
  simp only [List.mem_cons,List.not_mem_nil,or_false] at hg ⊢
  rcases hg with rfl | rfl | rfl | rfl | rfl | rfl | rfl | rfl <;> simp [oF,nF])
 refine hs10.base hS (l1:=IGroupPlan_10) (l2:=RGroupPlan_11) hv10 hc10 rfl [oF w 0 (rs2 us),oF w 1 (rss L),nF w6 w7 6 (.sl 1 (X.map e3)),nF w6 w7 7 (.b v),nF w7 w8 8 (.sl 1 (us.map e2)),nF w8 w9 9 (.sl 1 (L.map eN)),nF w9 w10 10 (.sl 1 (X.map e3)),nF w9 w10 11 (.b v)] (by
  intro f hf
  simp only [List.mem_cons,List.not_mem_nil,or_false] at hf
  rcases hf with rfl | rfl | rfl | rfl | rfl | rfl | rfl | rfl <;> exact ⟨by simp [oF,nF],by dsimp only [oF,nF]; decide⟩) [] (by
  simp only [envF,oF,nF,List.map_cons,List.map_nil,DV.lend,rs2,rss,lend_e2,lend_eN,lend_eR,lend_e3,lend_ints_]
  exact sGroupPlan_10 hu z0 hL hT hR hX S C1 C2) (fun c11 a11 w11 hv11 hc11 hz11 hs11=>?_)
 replace hs11:=hs11.sub (gs:=[oF w 0 (rs2 us),oF w 1 (rss L),nF w6 w7 6 (.sl 1 (X.map e3)),nF w6 w7 7 (.b v),nF w7 w8 8 (.sl 1 (us.map e2)),nF w8 w9 9 (.sl 1 (L.map eN)),nF w9 w10 10 (.sl 1 (X.map e3)),nF w9 w10 11 (.b v)]) (by
  intro g hg
  refine hs11.so g ?_
  simp only [List.cons_append,List.nil_append,List.map_cons,List.map_nil,newF,nF,oF]
  simp only [List.mem_cons,List.not_mem_nil,or_false] at hg ⊢
  rcases hg with rfl | rfl | rfl | rfl | rfl | rfl | rfl | rfl <;> simp [oF,nF])
 refine hs11.base hS (l1:=IGroupPlan_11) (l2:=RGroupPlan_12) hv11 hc11 rfl [oF w 0 (rs2 us),oF w 1 (rss L),nF w6 w7 6 (.sl 1 (X.map e3)),nF w6 w7 7 (.b v),nF w7 w8 8 (.sl 1 (us.map e2)),nF w8 w9 9 (.sl 1 (L.map eN)),nF w9 w10 10 (.sl 1 (X.map e3)),nF w9 w10 11 (.b v)] (by
  intro f hf
  simp only [List.mem_cons,List.not_mem_nil,or_false] at hf
  rcases hf with rfl | rfl | rfl | rfl | rfl | rfl | rfl | rfl <;> exact ⟨by simp [oF,nF],by dsimp only [oF,nF]; decide⟩) [] (by
  simp only [envF,oF,nF,List.map_cons,List.map_nil,DV.lend,rs2,rss,lend_e2,lend_eN,lend_eR,lend_e3,lend_ints_]
  exact sGroupPlan_11 hu z0 hL hT hR hX S C1 C2) (fun c12 a12 w12 hv12 hc12 hz12 hs12=>?_)
 replace hs12:=hs12.sub (gs:=[oF w 0 (rs2 us),oF w 1 (rss L),nF w6 w7 6 (.sl 1 (X.map e3)),nF w6 w7 7 (.b v),nF w7 w8 8 (.sl 1 (us.map e2)),nF w8 w9 9 (.sl 1 (L.map eN)),nF w9 w10 10 (.sl 1 (X.map e3)),nF w9 w10 11 (.b v)]) (by
  intro g hg
  refine hs12.so g ?_
  simp only [List.cons_append,List.nil_append,List.map_cons,List.map_nil,newF,nF,oF]
  simp only [List.mem_cons,List.not_mem_nil,or_false] at hg ⊢
  rcases hg with rfl | rfl | rfl | rfl | rfl | rfl | rfl | rfl <;> simp [oF,nF])
 refine hs12.base hS (l1:=IGroupPlan_12) (l2:=RGroupPlan_13) hv12 hc12 rfl [oF w 0 (rs2 us),oF w 1 (rss L),nF w6 w7 6 (.sl 1 (X.map e3)),nF w6 w7 7 (.b v),nF w7 w8 8 (.sl 1 (us.map e2)),nF w8 w9 9 (.sl 1 (L.map eN)),nF w9 w10 10 (.sl 1 (X.map e3)),nF w9 w10 11 (.b v)] (by
  intro f hf
  simp only [List.mem_cons,List.not_mem_nil,or_false] at hf
  rcases hf with rfl | rfl | rfl | rfl | rfl | rfl | rfl | rfl <;> exact ⟨by simp [oF,nF],by dsimp only [oF,nF]; decide⟩) [] (by
  simp only [envF,oF,nF,List.map_cons,List.map_nil,DV.lend,rs2,rss,lend_e2,lend_eN,lend_eR,lend_e3,lend_ints_]
  exact sGroupPlan_12 hu z0 hL hT hR hX S C1 C2) (fun c13 a13 w13 hv13 hc13 hz13 hs13=>?_)
 replace hs13:=hs13.sub (gs:=[oF w 0 (rs2 us),oF w 1 (rss L),nF w6 w7 6 (.sl 1 (X.map e3)),nF w6 w7 7 (.b v),nF w7 w8 8 (.sl 1 (us.map e2)),nF w8 w9 9 (.sl 1 (L.map eN)),nF w9 w10 10 (.sl 1 (X.map e3)),nF w9 w10 11 (.b v)]) (by
  intro g hg
  refine hs13.so g ?_
  simp only [List.cons_append,List.nil_append,List.map_cons,List.map_nil,newF,nF,oF]
  simp only [List.mem_cons,List.not_mem_nil,or_false] at hg ⊢
  rcases hg with rfl | rfl | rfl | rfl | rfl | rfl | rfl | rfl <;> simp [oF,nF])
 refine hs13.base hS (l1:=IGroupPlan_13) (l2:=RGroupPlan_14) hv13 hc13 rfl [oF w 0 (rs2 us),oF w 1 (rss L),nF w6 w7 6 (.sl 1 (X.map e3)),nF w6 w7 7 (.b v),nF w7 w8 8 (.sl 1 (us.map e2)),nF w8 w9 9 (.sl 1 (L.map eN)),nF w9 w10 10 (.sl 1 (X.map e3)),nF w9 w10 11 (.b v)] (by
  intro f hf
  simp only [List.mem_cons,List.not_mem_nil,or_false] at hf
  rcases hf with rfl | rfl | rfl | rfl | rfl | rfl | rfl | rfl <;> exact ⟨by simp [oF,nF],by dsimp only [oF,nF]; decide⟩) [(12,.i (1))] (by
  simp only [envF,oF,nF,List.map_cons,List.map_nil,DV.lend,rs2,rss,lend_e2,lend_eN,lend_eR,lend_e3,lend_ints_]
  exact sGroupPlan_13 hu z0 hL hT hR hX S C1 C2) (fun c14 a14 w14 hv14 hc14 hz14 hs14=>?_)
 replace hs14:=hs14.sub (gs:=[oF w 0 (rs2 us),oF w 1 (rss L),nF w6 w7 6 (.sl 1 (X.map e3)),nF w6 w7 7 (.b v),nF w7 w8 8 (.sl 1 (us.map e2)),nF w8 w9 9 (.sl 1 (L.map eN)),nF w9 w10 10 (.sl 1 (X.map e3)),nF w9 w10 11 (.b v),nF w13 w14 12 (.i (1))]) (by
  intro g hg
  refine hs14.so g ?_
  simp only [List.cons_append,List.nil_append,List.map_cons,List.map_nil,newF,nF,oF]
  simp only [List.mem_cons,List.not_mem_nil,or_false] at hg ⊢
  rcases hg with rfl | rfl | rfl | rfl | rfl | rfl | rfl | rfl | rfl <;> simp [oF,nF])
 refine hs14.markS hv14 hc14 (x:=8) (x2:=64) (k:=12) (k2:=65) (r:=66) (l2:=RGroupPlan_15) (List.mem_of_getElem? (i:=4) rfl) (List.mem_of_getElem? (i:=8) rfl) (row_markTestS hok hD hB us 1 (by omega) (by omega) (by omega)) (by omega) (fun b h=>h.1) (by decide) [oF w 0 (rs2 us),oF w 1 (rss L),nF w6 w7 6 (.sl 1 (X.map e3)),nF w6 w7 7 (.b v),nF w8 w9 9 (.sl 1 (L.map eN)),nF w9 w10 10 (.sl 1 (X.map e3)),nF w9 w10 11 (.b v)] (by
  intro g hg
  simp only [List.mem_cons,List.not_mem_nil,or_false] at hg
  rcases hg with rfl | rfl | rfl | rfl | rfl | rfl | rfl <;> exact ⟨by simp [oF,nF],by dsimp only [oF,nF]; decide,by dsimp only [oF,nF]; decide,by dsimp only [oF,nF]; decide,by dsimp only [oF,nF]; decide⟩) (by
  intro g hg b h1 h2
  simp only [List.mem_cons,List.not_mem_nil,or_false] at hg
  rcases hg with rfl | rfl | rfl | rfl | rfl | rfl | rfl <;> simp only [oF,nF] at h1 h2 <;> omega) (fun c15 a15 w15 d15 hv15 hc15 hz15 hR15 hs15=>?_)
 have hs15:=hs15.sub (gs:=[nF w13 w14 12 (.i (1+2 * (us.length:Int))),oF w 0 (rs2 us),oF w 1 (rss L),nF w6 w7 6 (.sl 1 (X.map e3)),nF w6 w7 7 (.b v),nF w8 w9 9 (.sl 1 (L.map eN)),nF w9 w10 10 (.sl 1 (X.map e3)),nF w9 w10 11 (.b v)]) (fun g hg=>hs15.so g (List.mem_cons_of_mem _ hg))
 replace hs15:=hs15.sub (gs:=[oF w 0 (rs2 us),oF w 1 (rss L),nF w6 w7 6 (.sl 1 (X.map e3)),nF w6 w7 7 (.b v),nF w8 w9 9 (.sl 1 (L.map eN)),nF w9 w10 10 (.sl 1 (X.map e3)),nF w9 w10 11 (.b v),nF w13 w14 12 (.i (1+2 * (us.length:Int)))]) (by
  intro g hg
  refine hs15.so g ?_
  simp only [List.mem_cons,List.not_mem_nil,or_false] at hg ⊢
  rcases hg with rfl | rfl | rfl | rfl | rfl | rfl | rfl | rfl <;> simp [oF,nF])
 refine hs15.markS hv15 hc15 (x:=9) (x2:=67) (k:=12) (k2:=68) (r:=69) (l2:=RGroupPlan_16) (List.mem_of_getElem? (i:=4) rfl) (List.mem_of_getElem? (i:=7) rfl) (rows_markIntSS hok hD hB L (1+2 * (us.length:Int)) (by omega) (by omega) (by omega) hT) (by omega) (fun b h=>h.1) (by decide) [oF w 0 (rs2 us),oF w 1 (rss L),nF w6 w7 6 (.sl 1 (X.map e3)),nF w6 w7 7 (.b v),nF w9 w10 10 (.sl 1 (X.map e3)),nF w9 w10 11 (.b v)] (by
  intro g hg
  simp only [List.mem_cons,List.not_mem_nil,or_false] at hg
  rcases hg with rfl | rfl | rfl | rfl | rfl | rfl <;> exact ⟨by simp [oF,nF],by dsimp only [oF,nF]; decide,by dsimp only [oF,nF]; decide,by dsimp only [oF,nF]; decide,by dsimp only [oF,nF]; decide⟩) (by
  intro g hg b h1 h2
  simp only [List.mem_cons,List.not_mem_nil,or_false] at hg
  rcases hg with rfl | rfl | rfl | rfl | rfl | rfl <;> simp only [oF,nF] at h1 h2 <;> omega) (fun c16 a16 w16 d16 hv16 hc16 hz16 hR16 hs16=>?_)
 have hs16:=hs16.sub (gs:=[nF w13 w14 12 (.i (1+2 * (us.length:Int)+(totR L:Int))),oF w 0 (rs2 us),oF w 1 (rss L),nF w6 w7 6 (.sl 1 (X.map e3)),nF w6 w7 7 (.b v),nF w9 w10 10 (.sl 1 (X.map e3)),nF w9 w10 11 (.b v)]) (fun g hg=>hs16.so g (List.mem_cons_of_mem _ hg))
 replace hs16:=hs16.sub (gs:=[oF w 0 (rs2 us),oF w 1 (rss L),nF w6 w7 6 (.sl 1 (X.map e3)),nF w6 w7 7 (.b v),nF w9 w10 10 (.sl 1 (X.map e3)),nF w9 w10 11 (.b v),nF w13 w14 12 (.i (1+2 * (us.length:Int)+(totR L:Int)))]) (by
  intro g hg
  refine hs16.so g ?_
  simp only [List.mem_cons,List.not_mem_nil,or_false] at hg ⊢
  rcases hg with rfl | rfl | rfl | rfl | rfl | rfl | rfl <;> simp [oF,nF])
 refine hs16.base hS (l1:=IGroupPlan_16) (l2:=RGroupPlan_17) hv16 hc16 rfl [oF w 0 (rs2 us),oF w 1 (rss L),nF w6 w7 6 (.sl 1 (X.map e3)),nF w6 w7 7 (.b v),nF w9 w10 10 (.sl 1 (X.map e3))] (by
  intro f hf
  simp only [List.mem_cons,List.not_mem_nil,or_false] at hf
  rcases hf with rfl | rfl | rfl | rfl | rfl <;> exact ⟨by simp [oF,nF],by dsimp only [oF,nF]; decide⟩) [] (by
  simp only [envF,oF,nF,List.map_cons,List.map_nil,DV.lend,rs2,rss,lend_e2,lend_eN,lend_eR,lend_e3,lend_ints_]
  exact sGroupPlan_16 hu z0 hL hT hR hX S C1 C2) (fun c17 a17 w17 hv17 hc17 hz17 hs17=>?_)
 replace hs17:=hs17.sub (gs:=[oF w 0 (rs2 us),oF w 1 (rss L),nF w6 w7 6 (.sl 1 (X.map e3)),nF w6 w7 7 (.b v),nF w9 w10 10 (.sl 1 (X.map e3))]) (by
  intro g hg
  refine hs17.so g ?_
  simp only [List.cons_append,List.nil_append,List.map_cons,List.map_nil,newF,nF,oF]
  simp only [List.mem_cons,List.not_mem_nil,or_false] at hg ⊢
  rcases hg with rfl | rfl | rfl | rfl | rfl <;> simp [oF,nF])
 refine hs17.base hS (l1:=IGroupPlan_17) (l2:=RGroupPlan_18) hv17 hc17 rfl [oF w 0 (rs2 us),oF w 1 (rss L),nF w6 w7 6 (.sl 1 (X.map e3)),nF w6 w7 7 (.b v),nF w9 w10 10 (.sl 1 (X.map e3))] (by
  intro f hf
  simp only [List.mem_cons,List.not_mem_nil,or_false] at hf
  rcases hf with rfl | rfl | rfl | rfl | rfl <;> exact ⟨by simp [oF,nF],by dsimp only [oF,nF]; decide⟩) [(13,.i (1))] (by
  simp only [envF,oF,nF,List.map_cons,List.map_nil,DV.lend,rs2,rss,lend_e2,lend_eN,lend_eR,lend_e3,lend_ints_]
  exact sGroupPlan_17 hu z0 hL hT hR hX S C1 C2) (fun c18 a18 w18 hv18 hc18 hz18 hs18=>?_)
 replace hs18:=hs18.sub (gs:=[oF w 0 (rs2 us),oF w 1 (rss L),nF w6 w7 6 (.sl 1 (X.map e3)),nF w6 w7 7 (.b v),nF w9 w10 10 (.sl 1 (X.map e3)),nF w17 w18 13 (.i (1))]) (by
  intro g hg
  refine hs18.so g ?_
  simp only [List.cons_append,List.nil_append,List.map_cons,List.map_nil,newF,nF,oF]
  simp only [List.mem_cons,List.not_mem_nil,or_false] at hg ⊢
  rcases hg with rfl | rfl | rfl | rfl | rfl | rfl <;> simp [oF,nF])
 refine hs18.markS hv18 hc18 (x:=10) (x2:=83) (k:=13) (k2:=84) (r:=85) (l2:=RGroupPlan_19) (List.mem_of_getElem? (i:=4) rfl) (List.mem_of_getElem? (i:=5) rfl) (row_markChoiceS hok hD hB X 1 (by omega) (by omega) (by omega)) (by omega) (fun b h=>h.1) (by decide) [oF w 0 (rs2 us),oF w 1 (rss L),nF w6 w7 6 (.sl 1 (X.map e3)),nF w6 w7 7 (.b v)] (by
  intro g hg
  simp only [List.mem_cons,List.not_mem_nil,or_false] at hg
  rcases hg with rfl | rfl | rfl | rfl <;> exact ⟨by simp [oF,nF],by dsimp only [oF,nF]; decide,by dsimp only [oF,nF]; decide,by dsimp only [oF,nF]; decide,by dsimp only [oF,nF]; decide⟩) (by
  intro g hg b h1 h2
  simp only [List.mem_cons,List.not_mem_nil,or_false] at hg
  rcases hg with rfl | rfl | rfl | rfl <;> simp only [oF,nF] at h1 h2 <;> omega) (fun c19 a19 w19 d19 hv19 hc19 hz19 hR19 hs19=>?_)
 subst hR19
 replace hs19:=hs19.sub (gs:=[oF w 0 (rs2 us),oF w 1 (rss L),nF w6 w7 6 (.sl 1 (X.map e3)),nF w6 w7 7 (.b v),nF w9 w10 10 (.sl 1 ((mkC 1 X.length).map e3)),nF w17 w18 13 (.i (1+3 * (X.length:Int)))]) (by
  intro g hg
  refine hs19.so g ?_
  simp only [List.mem_cons,List.not_mem_nil,or_false] at hg ⊢
  rcases hg with rfl | rfl | rfl | rfl | rfl | rfl <;> simp [oF,nF])
 refine hs19.base hS (l1:=IGroupPlan_19) (l2:=RGroupPlan_20) hv19 hc19 rfl [oF w 0 (rs2 us),oF w 1 (rss L),nF w6 w7 6 (.sl 1 (X.map e3)),nF w6 w7 7 (.b v),nF w9 w10 10 (.sl 1 ((mkC 1 X.length).map e3)),nF w17 w18 13 (.i (1+3 * (X.length:Int)))] (by
  intro f hf
  simp only [List.mem_cons,List.not_mem_nil,or_false] at hf
  rcases hf with rfl | rfl | rfl | rfl | rfl | rfl <;> exact ⟨by simp [oF,nF],by dsimp only [oF,nF]; decide⟩) [(14,.i (1))] (by
  simp only [envF,oF,nF,List.map_cons,List.map_nil,DV.lend,rs2,rss,lend_e2,lend_eN,lend_eR,lend_e3,lend_ints_]
  exact sGroupPlan_19 hu z0 hL hT hR hX S C1 C2) (fun c20 a20 w20 hv20 hc20 hz20 hs20=>?_)
 replace hs20:=hs20.sub (gs:=[oF w 0 (rs2 us),oF w 1 (rss L),nF w6 w7 6 (.sl 1 (X.map e3)),nF w6 w7 7 (.b v),nF w9 w10 10 (.sl 1 ((mkC 1 X.length).map e3)),nF w17 w18 13 (.i (1+3 * (X.length:Int))),nF w19 w20 14 (.i (1))]) (by
  intro g hg
  refine hs20.so g ?_
  simp only [List.cons_append,List.nil_append,List.map_cons,List.map_nil,newF,nF,oF]
  simp only [List.mem_cons,List.not_mem_nil,or_false] at hg ⊢
  rcases hg with rfl | rfl | rfl | rfl | rfl | rfl | rfl <;> simp [oF,nF])
 refine hs20.base hS (l1:=IGroupPlan_20) (l2:=RGroupPlan_21) hv20 hc20 rfl [oF w 0 (rs2 us),oF w 1 (rss L),nF w6 w7 6 (.sl 1 (X.map e3)),nF w6 w7 7 (.b v),nF w9 w10 10 (.sl 1 ((mkC 1 X.length).map e3)),nF w17 w18 13 (.i (1+3 * (X.length:Int)))] (by
  intro f hf
  simp only [List.mem_cons,List.not_mem_nil,or_false] at hf
  rcases hf with rfl | rfl | rfl | rfl | rfl | rfl <;> exact ⟨by simp [oF,nF],by dsimp only [oF,nF]; decide⟩) [(14,.i (1+3 * (X.length:Int)))] (by
  simp only [envF,oF,nF,List.map_cons,List.map_nil,DV.lend,rs2,rss,lend_e2,lend_eN,lend_eR,lend_e3,lend_ints_]
  exact sGroupPlan_20 hu z0 hL hT hR hX S C1 C2) (fun c21 a21 w21 hv21 hc21 hz21 hs21=>?_)
 replace hs21:=hs21.sub (gs:=[oF w 0 (rs2 us),oF w 1 (rss L),nF w6 w7 6 (.sl 1 (X.map e3)),nF w6 w7 7 (.b v),nF w9 w10 10 (.sl 1 ((mkC 1 X.length).map e3)),nF w17 w18 13 (.i (1+3 * (X.length:Int))),nF w20 w21 14 (.i (1+3 * (X.length:Int)))]) (by
  intro g hg
  refine hs21.so g ?_
  simp only [List.cons_append,List.nil_append,List.map_cons,List.map_nil,newF,nF,oF]
  simp only [List.mem_cons,List.not_mem_nil,or_false] at hg ⊢
  rcases hg with rfl | rfl | rfl | rfl | rfl | rfl | rfl <;> simp [oF,nF])
 refine hs21.base hS (l1:=IGroupPlan_21) (l2:=RGroupPlan_22) hv21 hc21 rfl [oF w 0 (rs2 us),oF w 1 (rss L),nF w6 w7 6 (.sl 1 (X.map e3)),nF w6 w7 7 (.b v),nF w9 w10 10 (.sl 1 ((mkC 1 X.length).map e3)),nF w17 w18 13 (.i (1+3 * (X.length:Int))),nF w20 w21 14 (.i (1+3 * (X.length:Int)))] (by
  intro f hf
  simp only [List.mem_cons,List.not_mem_nil,or_false] at hf
  rcases hf with rfl | rfl | rfl | rfl | rfl | rfl | rfl <;> exact ⟨by simp [oF,nF],by dsimp only [oF,nF]; decide⟩) [] (by
  simp only [envF,oF,nF,List.map_cons,List.map_nil,DV.lend,rs2,rss,lend_e2,lend_eN,lend_eR,lend_e3,lend_ints_]
  exact sGroupPlan_21 hu z0 hL hT hR hX S C1 C2) (fun c22 a22 w22 hv22 hc22 hz22 hs22=>?_)
 replace hs22:=hs22.sub (gs:=[oF w 0 (rs2 us),oF w 1 (rss L),nF w6 w7 6 (.sl 1 (X.map e3)),nF w6 w7 7 (.b v),nF w9 w10 10 (.sl 1 ((mkC 1 X.length).map e3)),nF w17 w18 13 (.i (1+3 * (X.length:Int))),nF w20 w21 14 (.i (1+3 * (X.length:Int)))]) (by
  intro g hg
  refine hs22.so g ?_
  simp only [List.cons_append,List.nil_append,List.map_cons,List.map_nil,newF,nF,oF]
  simp only [List.mem_cons,List.not_mem_nil,or_false] at hg ⊢
  rcases hg with rfl | rfl | rfl | rfl | rfl | rfl | rfl <;> simp [oF,nF])
 refine hs22.base hS (l1:=IGroupPlan_22) (l2:=RGroupPlan_23) hv22 hc22 rfl [oF w 0 (rs2 us),oF w 1 (rss L),nF w6 w7 6 (.sl 1 (X.map e3)),nF w6 w7 7 (.b v),nF w9 w10 10 (.sl 1 ((mkC 1 X.length).map e3)),nF w17 w18 13 (.i (1+3 * (X.length:Int)))] (by
  intro f hf
  simp only [List.mem_cons,List.not_mem_nil,or_false] at hf
  rcases hf with rfl | rfl | rfl | rfl | rfl | rfl <;> exact ⟨by simp [oF,nF],by dsimp only [oF,nF]; decide⟩) [] (by
  simp only [envF,oF,nF,List.map_cons,List.map_nil,DV.lend,rs2,rss,lend_e2,lend_eN,lend_eR,lend_e3,lend_ints_]
  exact sGroupPlan_22 hu z0 hL hT hR hX S C1 C2) (fun c23 a23 w23 hv23 hc23 hz23 hs23=>?_)
 replace hs23:=hs23.sub (gs:=[oF w 0 (rs2 us),oF w 1 (rss L),nF w6 w7 6 (.sl 1 (X.map e3)),nF w6 w7 7 (.b v),nF w9 w10 10 (.sl 1 ((mkC 1 X.length).map e3)),nF w17 w18 13 (.i (1+3 * (X.length:Int)))]) (by
  intro g hg
  refine hs23.so g ?_
  simp only [List.cons_append,List.nil_append,List.map_cons,List.map_nil,newF,nF,oF]
  simp only [List.mem_cons,List.not_mem_nil,or_false] at hg ⊢
  rcases hg with rfl | rfl | rfl | rfl | rfl | rfl <;> simp [oF,nF])
 refine hs23.base hS (l1:=IGroupPlan_23) (l2:=RGroupPlan_24) hv23 hc23 rfl [nF w6 w7 6 (.sl 1 (X.map e3)),nF w6 w7 7 (.b v),nF w9 w10 10 (.sl 1 ((mkC 1 X.length).map e3)),nF w17 w18 13 (.i (1+3 * (X.length:Int)))] (by
  intro f hf
  simp only [List.mem_cons,List.not_mem_nil,or_false] at hf
  rcases hf with rfl | rfl | rfl | rfl <;> exact ⟨by simp [oF,nF],by dsimp only [oF,nF]; decide⟩) [(15,.sl 1 (X.map e3)),(16,.b v)] (by
  simp only [envF,oF,nF,List.map_cons,List.map_nil,DV.lend,rs2,rss,lend_e2,lend_eN,lend_eR,lend_e3,lend_ints_]
  exact sGroupPlan_23 hu z0 hL hT hR hX S C1 C2) (fun c24 a24 w24 hv24 hc24 hz24 hs24=>?_)
 replace hs24:=hs24.sub (gs:=[nF w6 w7 6 (.sl 1 (X.map e3)),nF w6 w7 7 (.b v),nF w9 w10 10 (.sl 1 ((mkC 1 X.length).map e3)),nF w17 w18 13 (.i (1+3 * (X.length:Int))),nF w23 w24 15 (.sl 1 (X.map e3)),nF w23 w24 16 (.b v)]) (by
  intro g hg
  refine hs24.so g ?_
  simp only [List.cons_append,List.nil_append,List.map_cons,List.map_nil,newF,nF,oF]
  simp only [List.mem_cons,List.not_mem_nil,or_false] at hg ⊢
  rcases hg with rfl | rfl | rfl | rfl | rfl | rfl <;> simp [oF,nF])
 refine hs24.base hS (l1:=IGroupPlan_24) (l2:=RGroupPlan_25) hv24 hc24 rfl [nF w9 w10 10 (.sl 1 ((mkC 1 X.length).map e3)),nF w17 w18 13 (.i (1+3 * (X.length:Int)))] (by
  intro f hf
  simp only [List.mem_cons,List.not_mem_nil,or_false] at hf
  rcases hf with rfl | rfl <;> exact ⟨by simp [oF,nF],by dsimp only [oF,nF]; decide⟩) [] (by
  simp only [envF,oF,nF,List.map_cons,List.map_nil,DV.lend,rs2,rss,lend_e2,lend_eN,lend_eR,lend_e3,lend_ints_]
  exact sGroupPlan_24 hu z0 hL hT hR hX S C1 C2) (fun c25 a25 w25 hv25 hc25 hz25 hs25=>?_)
 replace hs25:=hs25.sub (gs:=[nF w9 w10 10 (.sl 1 ((mkC 1 X.length).map e3)),nF w17 w18 13 (.i (1+3 * (X.length:Int)))]) (by
  intro g hg
  refine hs25.so g ?_
  simp only [List.cons_append,List.nil_append,List.map_cons,List.map_nil,newF,nF,oF]
  simp only [List.mem_cons,List.not_mem_nil,or_false] at hg ⊢
  rcases hg with rfl | rfl <;> simp [oF,nF])
 refine hs25.base hS (l1:=IGroupPlan_25) (l2:=RGroupPlan_26) hv25 hc25 rfl [nF w9 w10 10 (.sl 1 ((mkC 1 X.length).map e3)),nF w17 w18 13 (.i (1+3 * (X.length:Int)))] (by
  intro f hf
  simp only [List.mem_cons,List.not_mem_nil,or_false] at hf
  rcases hf with rfl | rfl <;> exact ⟨by simp [oF,nF],by dsimp only [oF,nF]; decide⟩) [(14,.i (1))] (by
  simp only [envF,oF,nF,List.map_cons,List.map_nil,DV.lend,rs2,rss,lend_e2,lend_eN,lend_eR,lend_e3,lend_ints_]
  exact sGroupPlan_25 hu z0 hL hT hR hX S C1 C2) (fun c26 a26 w26 hv26 hc26 hz26 hs26=>?_)
 replace hs26:=hs26.sub (gs:=[nF w9 w10 10 (.sl 1 ((mkC 1 X.length).map e3)),nF w17 w18 13 (.i (1+3 * (X.length:Int))),nF w25 w26 14 (.i (1))]) (by
  intro g hg
  refine hs26.so g ?_
  simp only [List.cons_append,List.nil_append,List.map_cons,List.map_nil,newF,nF,oF]
  simp only [List.mem_cons,List.not_mem_nil,or_false] at hg ⊢
  rcases hg with rfl | rfl | rfl <;> simp [oF,nF])
 refine hs26.base hS (l1:=IGroupPlan_26) (l2:=RGroupPlan_27) hv26 hc26 rfl [nF w17 w18 13 (.i (1+3 * (X.length:Int)))] (by
  intro f hf
  simp only [List.mem_cons,List.not_mem_nil,or_false] at hf
  rcases hf with rfl <;> exact ⟨by simp [oF,nF],by dsimp only [oF,nF]; decide⟩) [(14,.i (1+3 * (X.length:Int)))] (by
  simp only [envF,oF,nF,List.map_cons,List.map_nil,DV.lend,rs2,rss,lend_e2,lend_eN,lend_eR,lend_e3,lend_ints_]
  exact sGroupPlan_26 hu z0 hL hT hR hX S C1 C2) (fun c27 a27 w27 hv27 hc27 hz27 hs27=>?_)
 replace hs27:=hs27.sub (gs:=[nF w17 w18 13 (.i (1+3 * (X.length:Int))),nF w26 w27 14 (.i (1+3 * (X.length:Int)))]) (by
  intro g hg
  refine hs27.so g ?_
  simp only [List.cons_append,List.nil_append,List.map_cons,List.map_nil,newF,nF,oF]
  simp only [List.mem_cons,List.not_mem_nil,or_false] at hg ⊢
  rcases hg with rfl | rfl <;> simp [oF,nF])
 refine hs27.base hS (l1:=IGroupPlan_27) (l2:=RGroupPlan_28) hv27 hc27 rfl [nF w17 w18 13 (.i (1+3 * (X.length:Int))),nF w26 w27 14 (.i (1+3 * (X.length:Int)))] (by
  intro f hf
  simp only [List.mem_cons,List.not_mem_nil,or_false] at hf
  rcases hf with rfl | rfl <;> exact ⟨by simp [oF,nF],by dsimp only [oF,nF]; decide⟩) [] (by
  simp only [envF,oF,nF,List.map_cons,List.map_nil,DV.lend,rs2,rss,lend_e2,lend_eN,lend_eR,lend_e3,lend_ints_]
  exact sGroupPlan_27 hu z0 hL hT hR hX S C1 C2) (fun c28 a28 w28 hv28 hc28 hz28 hs28=>?_)
 replace hs28:=hs28.sub (gs:=[nF w17 w18 13 (.i (1+3 * (X.length:Int))),nF w26 w27 14 (.i (1+3 * (X.length:Int)))]) (by
  intro g hg
  refine hs28.so g ?_
  simp only [List.cons_append,List.nil_append,List.map_cons,List.map_nil,newF,nF,oF]
  simp only [List.mem_cons,List.not_mem_nil,or_false] at hg ⊢
  rcases hg with rfl | rfl <;> simp [oF,nF])
 refine hs28.base hS (l1:=IGroupPlan_28) (l2:=RGroupPlan_29) hv28 hc28 rfl [] (by
  intro f hf
  cases hf) [] (by
  simp only [envF,oF,nF,List.map_cons,List.map_nil,DV.lend,rs2,rss,lend_e2,lend_eN,lend_eR,lend_e3,lend_ints_]
  exact sGroupPlan_28 hu z0 hL hT hR hX S C1 C2) (fun c29 a29 w29 hv29 hc29 hz29 hs29=>?_)
 refine hs29.base hS (l1:=IGroupPlan_29) (l2:=RGroupPlan_30) hv29 hc29 rfl [] (by
  intro f hf
  cases hf) [(4,.b true)] (by
  simp only [envF,oF,nF,List.map_cons,List.map_nil,DV.lend,rs2,rss,lend_e2,lend_eN,lend_eR,lend_e3,lend_ints_]
  exact sGroupPlan_29 hu z0 hL hT hR hX S C1 C2) (fun c30 a30 w30 hv30 hc30 hz30 hs30=>?_)
 replace hs30:=hs30.sub (gs:=[nF w29 w30 4 (.b true)]) (by
  intro g hg
  refine hs30.so g ?_
  simp only [List.cons_append,List.nil_append,List.map_cons,List.map_nil,newF,nF,oF]
  simp only [List.mem_cons,List.not_mem_nil,or_false] at hg ⊢
  rcases hg with rfl <;> simp [oF,nF])
 exact law_ret hv30 hs30 rfl
end
end
end Zz
