/- What the functions answer, as equations: EB. No conditions. -/
import Derived.Test.YtahkmbihhkjebabDoorEAzx
import Derived.Test.YtahkmbihhkjebabDoorLgEzx
set_option linter.unusedSectionVars false
set_option linter.unusedVariables false
set_option linter.unusedSimpArgs false
namespace Zz
open Go.Lg Md
set_option linter.unusedSimpArgs false
set_option linter.unusedVariables false
attribute [local simp] tm_mv tm_newnil tm_pick tm_bin tm_eqb tm_eqs tm_un tm_len tm_lens tm_chk tm_fld tm_fldv tm_idxa tm_idx tm_load tm_store tm_slice tm_slices tm_make tm_alloc tm_box tm_build tm_app tm_conv tm_ext tm_call tm_calld tm_mkfn tm_mm tm_idxp tm_eqn tm_callg tm_callm tm_bslice0 tm_bslice1 tm_bslice2 tm_bslice nt_nil nt_cons nc_nil' nc_cons sa_mkfn cv_adr cv_i cv_y cv_b cv_w sa_calld nm_def nh_nil nh_cons nxM_some nxM_none sc_st sd_i sd_y sd_b sd_s sd_w sd_q sc_i sc_y sc_b sc_s sc_w sc_q sa_bslice sa_app nc_own nc_nil sa_call sa_alloc sa_build sa_callm rm_nil rm_one rm_gen bq_mul bq_eql ia_mv ia_newnil ia_pick ia_bin ia_eqb ia_eqs ia_un ia_len ia_lens ia_chk ia_fld ia_fldv ia_idxa ia_idx ia_load ia_store ia_slice ia_slices ia_make ia_alloc ia_box ia_build ia_bslice ia_app ia_b2i ia_i2b ia_i2i ia_same ia_b2s ia_s2b ia_ext ia_mm ia_idxp ia_calld ia_mkfn ia_i2r ia_r2s ia_call pt_nil pt_cons mi_nil mi_cons md_bslice md_mv md_newnil md_pick md_bin md_eqb md_un md_len md_lens md_fld md_fldv md_idxa md_idx md_load md_store md_slice md_slices md_make md_alloc md_box md_build md_app md_conv md_ext md_call md_calld md_callg md_mkfn md_mm md_idxp md_eqn md_eqs md_chk tg_bslice tg_mv tg_newnil tg_pick tg_bin tg_eqb tg_un tg_len tg_lens tg_fld tg_fldv tg_idxa tg_idx tg_load tg_store tg_slice tg_slices tg_make tg_alloc tg_box tg_build tg_app tg_conv tg_ext tg_call tg_calld tg_callg tg_mkfn tg_mm tg_idxp tg_eqn tg_eqs tg_chk rp_eq ro_eq ifP_t ifP_f np_def ng1_nil ng2_nil ng_gate ng_gen tgA_t tgA_0 tgA_1 tgA_2 aC_nil aC_c aC_t nxP_some nxP_none rq_nil rq_gen rq_gate nxR_some nxR_none ru_nil ru_gen ru_gate pl_none pl_some gt_nil gt_t gt_c di_some di_none an_nil an_cons nxG_some nxG_none rg_nil rg_gen rg_gate oldO_some oa_nil oa_i oa_y oa_b oa_s oa_st oa_sl oa_own oa_oad oa_nl al_nil al_cons al_i al_y al_b al_s al_st al_sl nxF_some nxF_none rf_nil rf_gen rf_gate hk_newnil hk_make hk_alloc hk_box hk_build hk_bslice hk_call hk_store hk_app hk_appn em_cel mm_cel ok_cel ov_cel so_cel il_cel oi_cel oj_cel ol_cel nm_cel hk_appc ef_bslice5 ef_app_cel ks_shut shu_own shc_none shc_cel cl_nil cl_cons ai_nil ai_cons il_i il_y il_b il_s il_st il_sl il_own il_adr il_oad il_ref il_fr il_tup il_nil il_np il_und il_dead ol_adr ol_b ol_dead ol_e ol_fn ol_fr ol_i ol_nil ol_np ol_oad ol_own ol_q ol_r ol_ref ol_s ol_sl ol_st ol_tup ol_und ol_w ol_y oj_e oj_i oj_y oj_b oj_s oj_st oj_sl oj_own oj_adr oj_oad oj_ref oj_fr oj_tup oj_nil oj_np oj_und oj_dead oj_w oj_q oj_r oj_fn oi_e oi_i oi_y oi_b oi_s oi_st oi_sl oi_own oi_adr oi_oad oi_ref oi_fr oi_tup oi_nil oi_np oi_und oi_dead as_nil as_cons ao_nil ao_cons av_i av_y av_b av_s av_st av_sl av_own av_adr av_oad av_ref av_fr av_tup av_nil av_np av_und av_dead pro_cons ghK_some ks_promote ks_freeze frz_own ks_rename ren_own dropO adoptP newP wholeP cutP allOldL ex_skip ex_ret ex_exit ks_region ks_seq ks_cond ks_block seqK_n seqK_e seqK_r regK_some condK_t condK_f blkK_n blkK_r blkK_e endK_n endK_r rr_false rr_true rd_free mo_nil mo_cons drK_some drK_none nxW_some nxW_none rw_nil rw_gen rw_gate ak_newnil ak_make ak_alloc ak_box ak_build ak_bslice ak_call ak_store ak_app iw_mm iw_eqn iw_idxp ef_callg cgK_some gv_e gv_own gv_i gv_sl gv_st gv_b gv_nil gvK_some gvO_some iw_callg ia_callg ak_callg hk_callg is_mv is_newnil is_pick is_bin is_eqb is_eqs is_un is_len is_lens is_chk is_fld is_fldv is_idxa is_idx is_load is_slice is_slices is_make is_alloc is_box is_build is_bslice is_app is_conv is_ext is_call is_calld is_callg is_mkfn is_mm is_idxp is_eqn is_store rt_nil rt_gen rt_gate nxT_some nxT_none ef_eqn_nil ef_eqn_sl ef_eqn_own ia_eqn ef_mmx ef_mmn ef_idxp nxD_some nxD_none ov_i ov_y ov_b ov_s ov_st ov_sl ov_own ov_oad ov_adr ov_nil ov_np ov_und ov_dead ov_tup oldN_some oldN_nil oldN_none so_none so_i so_y so_b so_s so_st so_sl so_adr so_nil so_np so_und so_dead anyM_nil anyM_t anyM_c so_own so_oad rd_nil rd_gen rd_mv rd_gate iw_mv iw_newnil iw_pick iw_bin iw_eqb iw_eqs iw_un iw_len iw_lens iw_chk iw_fld iw_fldv iw_idxa iw_idx iw_load iw_store iw_slice iw_slices iw_make iw_alloc iw_box iw_build iw_bslice iw_app iw_b2i iw_i2b iw_i2i iw_same iw_b2s iw_s2b iw_ext iw_call nm_i nm_y nm_b nm_s nm_st nm_sl nm_own nm_oad nm_adr nm_nil nm_np nm_und nm_dead nm_tup rl_nil rl_gate rl_mv rl_gen opv_t opv_c nx_some nx_none gate_tt gate_tf gate_ft gate_ff gate_u fr_ap em_nil em_i em_y em_b em_s em_st em_sl em_own em_adr em_oad em_ref em_nl em_np em_und em_dead em_tup0 em_tup_i em_tup_b em_tup_s em_tup_sl em_tup_st em_tup_np em_tup_own em_tup_oad mm_i mm_y mm_b mm_s mm_st mm_sl mm_own mm_oad mm_adr mm_nil mm_np mm_und mm_dead ef_mv ef_newnil ef_pickt ef_pickf ef_bin ef_eqb ef_eqs ef_un ef_lens ef_len_sl ef_len_own ef_len_nil ef_chk_adr ef_chk_oad ef_fld_adr ef_fld_oad ef_fldv idxR_some ef_idxa_sl ef_idxa_own ef_idx ef_load_adr_st ef_load_adr_i ef_load_adr_y ef_load_adr_b ef_load_adr_s ef_load_adr_sl atN_nil atN_zero atN_succ ef_load_oad ef_store ef_slice ef_slices ef_make ef_alloc ef_box ef_build ef_bslice ef_app_own ef_app_nil ef_b2i ef_i2b ef_i2i ef_same ef_ext ret1 ret2_some calL_some ef_call retC_i retC_y retC_b retC_s retC_st retC_sl retC_np retC_fr retC_ref retC_tup rk_nil rk_i rk_y rk_b rk_s rk_st rk_sl rk_own rk_oad rk_nl ok_nil ok_i ok_y ok_b ok_s ok_st ok_sl ok_own ok_oad ok_nl lo_nil lo_i lo_y lo_b lo_s lo_st lo_sl lo_own lo_oad lo_nl pr_nil pr_i pr_y pr_b pr_s pr_st pr_sl pr_own pr_nl pr_oad nr_i nr_y nr_b nr_s nr_st nr_sl nr_fr nr_np nr_tup ng_i ng_b ng_s ng_fr ng_nil resV effP_eff binD bi_add bi_sub bi_mul bi_quo bi_rem bi_eql bi_neq bi_lss bi_leq bi_gtr bi_geq bi_shl bi_shr bi_and bi_or bi_xor bi_andNot binY binS unD look put putD LS.get LS.drop killE sweep lookO putO dropO enter leave giveBackL giveBack outs lendArgs lendArg newOuts takeIn takeInL lendL DV.lend adoptL DV.adopt elems apartKs part DV.cells unpart settle settleL over mkId szId fillP fillE tk_e2 tk_i tk_y lt_e2 lt_i lt_y lend_rep al_e2 al_is al_ys al_rep al_app lend_app adopt_app new_app lend_e2 lend_i lend_y adopt_e2 adopt_i adopt_y new_e2 new_i allNewL DV.allNew bounds sliceD sliceS em_w em_q em_r em_fn em_tup_w em_tup_q em_tup_r mm_w mm_q mm_r mm_fn ef_load_adr_w ef_load_adr_q ef_load_adr_r retC_w retC_q retC_r rk_w rk_q rk_r rk_fn ok_w ok_q ok_r ok_fn lo_w lo_q lo_r lo_fn pr_w pr_q pr_r pr_fn nr_w nr_q nr_r ng_w ng_q ng_r oa_w oa_q oa_r oa_fn al_w al_q al_r al_fn ov_w ov_q ov_r ov_fn so_w so_q so_r so_fn il_w il_q il_r il_fn oi_w oi_q oi_r oi_fn av_w av_q av_r av_fn nm_w nm_q nm_r nm_fn ef_i2r ef_r2s ef_mkfn ef_mkbd ef_idxp_adr ef_idxp_q ef_calld_nil ef_calld_adr ef_calld_bd DV.capB capsOk DV.cell List.all_cons List.all_nil rk_own_t lo_own_t lk_f lk_t pr_own_t mutB ak_calld hk_calld iw_calld iw_mkfn iw_i2r iw_r2s bw_and bw_or bw_xor bw_andNot bw_eql bw_neq sw_shl sw_shr sq_shl gEnv_nil rk_adr ok_adr lo_adr pr_adr oa_adr capL capArg DV.cap ak_mkfn hk_mkfn hk_mkbd ef_callm gf_ap ga_nil ga_cons tgv_own gk_e gk_giv gk_i gk_y gk_b gk_s gk_w gk_q gk_r gk_fn gk_st gk_sl gk_own gk_oad gk_adr gk_nl gk_np rk_giv ok_giv lo_giv pr_giv oa_giv iw_callm hk_callm ak_callm is_callm ia_callm tg_callm md_callm ef_i2q ef_q2i ef_q2q iw_i2q iw_q2i iw_q2q ia_i2q ia_q2i ia_q2q bq_and bq_add bq_shr sq_shr tgv_nil gk_ref rk_ref ok_ref lo_ref pr_ref oa_ref retC_fn nr_fn ef_load_adr_fn ks_close cls_oad
attribute [local congr] nxM_congr ifP_congr nxP_congr nxR_congr nxT_congr nxG_congr nxF_congr ghK_congr gate_congr nx_congr nxD_congr runL_congr runD_congr eff_congr calL_congr ret2_congr seqK_congr regK_congr condK_congr endK_congr drK_congr nxW_congr
attribute [local simp ↓] nxM_some rm_nil rm_one rm_gen nxT_some rt_nil rt_gen rt_gate nxP_some rq_nil rq_gen rq_gate nxR_some ru_nil ru_gen ru_gate nxG_some rg_nil rg_gen rg_gate nxF_some rf_nil rf_gen rf_gate ks_promote ks_freeze frz_own ks_rename ghK_some gate_tt gate_tf gate_ft gate_ff gate_u nx_some nxD_some rl_nil rl_mv rl_gen rl_gate rd_nil rd_mv rd_gen rd_gate rd_free rr_false rr_true drK_some drK_none nxW_some rw_nil rw_gen rw_gate ks_region ks_seq ks_cond ks_block seqK_n seqK_e seqK_r regK_some condK_t condK_f blkK_n blkK_r endK_n endK_r calL_some ret2_some opv_t opv_c
section
def orL : List Nat → List T
 | [] => []
 | k :: r => (0,(k : Int)) :: r.flatMap fun (j : Nat) => [(0,(j : Int)),(3,0)]
def grL : List (List Nat) → List T
 | [] => []
 | g :: R => orL g ++ R.flatMap fun h => orL h ++ [(2,0)]
def orX (x : Tm) (r : List Nat) : Tm := r.foldl (fun x j => .or x (.tst j)) x
def orTm : List Nat → Tm
 | [] => .tst 0
 | k :: r => orX (.tst k) r
def anX (x : Tm) (R : List (List Nat)) : Tm := R.foldl (fun x h => .and x (orTm h)) x
def grTm : List (List Nat) → Tm
 | [] => .tst 0
 | g :: R => anX (orTm g) R
theorem flt_orX : ∀ (r : List Nat) (x : Tm),flt (orX x r) = flt x ++ r.flatMap fun (j : Nat) => [(0,(j : Int)),(3,0)]
 | [],x => by simp [orX]
 | k :: r,x => by
  have ih := flt_orX r (.or x (.tst k))
  have e : orX x (k :: r) = orX (.or x (.tst k)) r := rfl
  rw [e,ih]
  simp [flt]
theorem flt_orTm {g : List Nat} (h : g ≠ []) : flt (orTm g) = orL g := by
 cases g with
 | nil => exact absurd rfl h
 | cons k r => simp only [orTm,orL]; rw [flt_orX]; rfl
theorem flt_anX : ∀ (R : List (List Nat)) (x : Tm),(∀ g ∈ R,g ≠ []) → flt (anX x R) = flt x ++ R.flatMap fun h => orL h ++ [(2,0)]
 | [],x,_ => by simp [anX]
 | g :: R,x,h => by
  have ih := flt_anX R (.and x (orTm g)) fun y hy => h y (List.mem_cons_of_mem _ hy)
  have e : anX x (g :: R) = anX (.and x (orTm g)) R := rfl
  rw [e,ih]
  simp [flt,flt_orTm (h g List.mem_cons_self)]
theorem flt_grTm {L : List (List Nat)} (hL : L ≠ []) (h : ∀ g ∈ L,g ≠ []) : flt (grTm L) = grL L := by
 cases L with
 | nil => exact absurd rfl hL
 | cons g R =>
  simp only [grTm,grL]
  rw [flt_anX R _ fun y hy => h y (List.mem_cons_of_mem _ hy),flt_orTm (h g List.mem_cons_self)]
theorem tb_orX {m : Int} : ∀ (r : List Nat) (x : Tm),tb m x → (∀ k ∈ r,(k : Int) < m) → tb m (orX x r)
 | [],x,hx,_ => hx
 | k :: r,x,hx,h => tb_orX r (.or x (.tst k)) ⟨hx,h k List.mem_cons_self⟩ fun j hj => h j (List.mem_cons_of_mem _ hj)
theorem tb_orTm {m : Int} {g : List Nat} (hg : g ≠ []) (h : ∀ k ∈ g,(k : Int) < m) : tb m (orTm g) := by
 cases g with
 | nil => exact absurd rfl hg
 | cons k r => exact tb_orX r (.tst k) (h k List.mem_cons_self) fun j hj => h j (List.mem_cons_of_mem _ hj)
theorem tb_anX {m : Int} : ∀ (R : List (List Nat)) (x : Tm),tb m x → (∀ g ∈ R,g ≠ []) → (∀ g ∈ R,∀ k ∈ g,(k : Int) < m) → tb m (anX x R)
 | [],x,hx,_,_ => hx
 | g :: R,x,hx,hn,h => tb_anX R (.and x (orTm g)) ⟨hx,tb_orTm (hn g List.mem_cons_self) (h g List.mem_cons_self)⟩ (fun y hy => hn y (List.mem_cons_of_mem _ hy)) fun y hy => h y (List.mem_cons_of_mem _ hy)
theorem tb_grTm {m : Int} {L : List (List Nat)} (hL : L ≠ []) (hn : ∀ g ∈ L,g ≠ []) (h : ∀ g ∈ L,∀ k ∈ g,(k : Int) < m) : tb m (grTm L) := by
 cases L with
 | nil => exact absurd rfl hL
 | cons g R => exact tb_anX R _ (tb_orTm (hn g List.mem_cons_self) (h g List.mem_cons_self)) (fun y hy => hn y (List.mem_cons_of_mem _ hy)) fun y hy => h y (List.mem_cons_of_mem _ hy)
theorem ev_orX (s : Nat) : ∀ (r : List Nat) (x : Tm),ev s (orX x r) = (ev s x || r.any fun k => s.testBit k)
 | [],x => by simp [orX]
 | k :: r,x => by
  have e : orX x (k :: r) = orX (.or x (.tst k)) r := rfl
  rw [e,ev_orX s r]
  simp [ev,Bool.or_assoc]
theorem ev_orTm (s : Nat) {g : List Nat} (h : g ≠ []) : ev s (orTm g) = g.any fun k => s.testBit k := by
 cases g with
 | nil => exact absurd rfl h
 | cons k r => simp only [orTm]; rw [ev_orX]; simp [ev]
theorem ev_anX (s : Nat) : ∀ (R : List (List Nat)) (x : Tm),(∀ g ∈ R,g ≠ []) → ev s (anX x R) = (ev s x && gV R s)
 | [],x,_ => by simp [anX,gV]
 | g :: R,x,h => by
  have e : anX x (g :: R) = anX (.and x (orTm g)) R := rfl
  rw [e,ev_anX s R _ fun y hy => h y (List.mem_cons_of_mem _ hy)]
  simp [ev,gV,ev_orTm s (h g List.mem_cons_self),Bool.and_assoc]
theorem ev_grTm (s : Nat) {L : List (List Nat)} (hL : L ≠ []) (h : ∀ g ∈ L,g ≠ []) : ev s (grTm L) = gV L s := by
 cases L with
 | nil => exact absurd rfl hL
 | cons g R =>
  simp only [grTm]
  rw [ev_anX s R _ fun y hy => h y (List.mem_cons_of_mem _ hy),ev_orTm s (h g List.mem_cons_self)]
  simp [gV]
theorem occ_orX (a : Nat) : ∀ (r : List Nat) (x : Tm),occ a (orX x r) = true ↔ occ a x = true ∨ a ∈ r
 | [],x => by simp [orX]
 | k :: r,x => by
  have e : orX x (k :: r) = orX (.or x (.tst k)) r := rfl
  rw [e,occ_orX a r]
  have ek : (k = a) = (a = k) := propext eq_comm
  simp only [occ,Bool.or_eq_true,beq_iff_eq,List.mem_cons,or_assoc,ek]
theorem occ_orTm (a : Nat) {g : List Nat} (h : g ≠ []) : occ a (orTm g) = true ↔ a ∈ g := by
 cases g with
 | nil => exact absurd rfl h
 | cons k r =>
  simp only [orTm]
  rw [occ_orX]
  have ek : (k = a) = (a = k) := propext eq_comm
  simp only [occ,beq_iff_eq,List.mem_cons,ek]
theorem occ_anX (a : Nat) : ∀ (R : List (List Nat)) (x : Tm),(∀ g ∈ R,g ≠ []) → (occ a (anX x R) = true ↔ occ a x = true ∨ a ∈ R.flatten)
 | [],x,_ => by simp [anX]
 | g :: R,x,h => by
  have e : anX x (g :: R) = anX (.and x (orTm g)) R := rfl
  rw [e,occ_anX a R _ fun y hy => h y (List.mem_cons_of_mem _ hy)]
  simp only [occ,Bool.or_eq_true,List.flatten_cons,List.mem_append,or_assoc]
  rw [occ_orTm a (h g List.mem_cons_self)]
theorem occ_grTm (a : Nat) {L : List (List Nat)} (hL : L ≠ []) (h : ∀ g ∈ L,g ≠ []) : occ a (grTm L) = true ↔ a ∈ L.flatten := by
 cases L with
 | nil => exact absurd rfl hL
 | cons g R =>
  simp only [grTm]
  rw [occ_anX a R _ fun y hy => h y (List.mem_cons_of_mem _ hy),occ_orTm a (h g List.mem_cons_self)]
  simp
theorem ton_orX : ∀ (r : List Nat) (x : Tm),ton x → r.Nodup → (∀ k ∈ r,occ k x = false) → ton (orX x r)
 | [],x,hx,_,_ => hx
 | k :: r,x,hx,nd,h => by
  obtain ⟨n1,n2⟩ := List.nodup_cons.1 nd
  refine ton_orX r (.or x (.tst k)) ⟨hx,trivial,fun a ha => ?_⟩ n2 fun j hj => ?_
  ·simp only [occ]
   rw [beq_eq_false_iff_ne]
   intro e
   have := h k List.mem_cons_self
   rw [e,ha] at this
   cases this
  ·simp only [occ]
   rw [h j (List.mem_cons_of_mem _ hj),Bool.false_or,beq_eq_false_iff_ne]
   intro e
   exact n1 (by rw [e]; exact hj)
theorem ton_orTm {g : List Nat} (nd : g.Nodup) : ton (orTm g) := by
 cases g with
 | nil => trivial
 | cons k r =>
  obtain ⟨n1,n2⟩ := List.nodup_cons.1 nd
  refine ton_orX r (.tst k) trivial n2 fun j hj => ?_
  simp only [occ]
  rw [beq_eq_false_iff_ne]
  intro e
  exact n1 (by rw [e]; exact hj)
theorem ton_anX : ∀ (R : List (List Nat)) (x : Tm),ton x → R.flatten.Nodup → (∀ g ∈ R,g ≠ []) → (∀ k ∈ R.flatten,occ k x = false) → ton (anX x R)
 | [],x,hx,_,_,_ => hx
 | g :: R,x,hx,nd,hn,h => by
  rw [List.flatten_cons] at nd h
  obtain ⟨n1,n2,n3⟩ := List.nodup_append.1 nd
  refine ton_anX R (.and x (orTm g)) ⟨hx,ton_orTm n1,fun a ha => ?_⟩ n2 (fun y hy => hn y (List.mem_cons_of_mem _ hy)) fun k hk => ?_
  ·rw [← Bool.not_eq_true,occ_orTm a (hn g List.mem_cons_self)]
   intro q
   rw [h a (List.mem_append_left _ q)] at ha
   cases ha
  ·simp only [occ]
   rw [h k (List.mem_append_right _ hk),Bool.false_or,← Bool.not_eq_true,occ_orTm k (hn g List.mem_cons_self)]
   intro q
   exact n3 k q k hk rfl
theorem ton_grTm {L : List (List Nat)} (nd : L.flatten.Nodup) (hn : ∀ g ∈ L,g ≠ []) : ton (grTm L) := by
 cases L with
 | nil => trivial
 | cons g R =>
  rw [List.flatten_cons] at nd
  obtain ⟨n1,n2,n3⟩ := List.nodup_append.1 nd
  refine ton_anX R _ (ton_orTm n1) n2 (fun y hy => hn y (List.mem_cons_of_mem _ hy)) fun k hk => ?_
  rw [← Bool.not_eq_true,occ_orTm k (hn g List.mem_cons_self)]
  intro q
  exact n3 k q k hk rfl
theorem ton_once {m : Int} (h1 : 1 ≤ m) (h5 : m ≤ 5) : ∀ {x : Tm},tb m x → ∀ {s : Int} {r : List T},0 ≤ s → s < 2 ^ m.toNat → ton x → (∀ a,occ a x = true → s.toNat.testBit a = false) → onceM r ((flt x).foldl letF s) = true → onceM (flt x ++ r) s = true
 | .tst b,hb,s,r,h0,h2,_,ha,h => by
  have := ha b (by simp [occ])
  rw [← fl_bit h0] at this
  simp [flt,onceM,this]
  simpa [flt,letF] using h
 | .neg x,hb,s,r,h0,h2,ht,ha,h => by
  rw [flt,List.append_assoc]
  refine ton_once h1 h5 (x := x) hb h0 h2 ht ha ?_
  simp [onceM]
  simpa [flt,letF] using h
 | .and x y,hb,s,r,h0,h2,ht,ha,h => by
  rw [flt,List.append_assoc,List.append_assoc]
  obtain ⟨l1,l2⟩ := lett_occ h1 h5 (x := x) hb.1 h0 h2
  refine ton_once h1 h5 (x := x) hb.1 h0 h2 ht.1 (fun a q => ha a (by simp [occ,q])) ?_
  refine ton_once h1 h5 (x := y) hb.2 l1.1 l1.2 ht.2.1 (fun a q => ?_) ?_
  ·rw [l2,ha a (by simp [occ,q]),Bool.false_or]
   cases hx : occ a x with
   | false => rfl
   | true => rw [ht.2.2 a hx] at q; cases q
  ·simp [onceM]
   simpa [flt,letF] using h
 | .or x y,hb,s,r,h0,h2,ht,ha,h => by
  rw [flt,List.append_assoc,List.append_assoc]
  obtain ⟨l1,l2⟩ := lett_occ h1 h5 (x := x) hb.1 h0 h2
  refine ton_once h1 h5 (x := x) hb.1 h0 h2 ht.1 (fun a q => ha a (by simp [occ,q])) ?_
  refine ton_once h1 h5 (x := y) hb.2 l1.1 l1.2 ht.2.1 (fun a q => ?_) ?_
  ·rw [l2,ha a (by simp [occ,q]),Bool.false_or]
   cases hx : occ a x with
   | false => rfl
   | true => rw [ht.2.2 a hx] at q; cases q
  ·simp [onceM]
   simpa [flt,letF] using h
theorem run_flt {m : Int} (h1 : 1 ≤ m) (h5 : m ≤ 5) : ∀ {x : Tm},tb m x → ∀ (p : Int) (r : List T),0 ≤ p → runM m p (flt x ++ r) = runM m (p + 1) r
 | .tst a,hb,p,r,hp => by
  have hb' : (a : Int) < m := hb
  simp [flt,runM,mkS]
  grind
 | .neg x,hb,p,r,hp => by
  rw [flt,List.append_assoc,run_flt h1 h5 (x := x) hb p _ hp]
  simp [runM,mkS]
  grind
 | .and x y,hb,p,r,hp => by
  rw [flt,List.append_assoc,List.append_assoc,run_flt h1 h5 (x := x) hb.1 p _ hp,run_flt h1 h5 (x := y) hb.2 (p + 1) _ (by omega)]
  simp [runM,mkS]
  grind
 | .or x y,hb,p,r,hp => by
  rw [flt,List.append_assoc,List.append_assoc,run_flt h1 h5 (x := x) hb.1 p _ hp,run_flt h1 h5 (x := y) hb.2 (p + 1) _ (by omega)]
  simp [runM,mkS]
  grind
theorem orL_len {g : List Nat} (h : g ≠ []) : (orL g).length + 1 = 2 * g.length := by
 cases g with
 | nil => exact absurd rfl h
 | cons k r =>
  simp only [orL,List.length_cons]
  clear h
  induction r with
  | nil => rfl
  | cons j r ih => simp only [List.flatMap_cons,List.length_append,List.length_cons,List.length_nil] at ih ⊢; omega
theorem grR_len : ∀ {R : List (List Nat)},(∀ g ∈ R,g ≠ []) → (R.flatMap fun h => orL h ++ [(2,0)]).length = 2 * R.flatten.length
 | [],_ => rfl
 | g :: R,h => by
  have ih := grR_len (R := R) fun y hy => h y (List.mem_cons_of_mem _ hy)
  have := orL_len (h g List.mem_cons_self)
  simp only [List.flatMap_cons,List.length_append,List.flatten_cons,List.length_cons,List.length_nil] at ih ⊢
  omega
theorem grL_len {L : List (List Nat)} (hL : L ≠ []) (h : ∀ g ∈ L,g ≠ []) : (grL L).length + 1 = 2 * L.flatten.length := by
 cases L with
 | nil => exact absurd rfl hL
 | cons g R =>
  have a := orL_len (h g List.mem_cons_self)
  have b := grR_len (R := R) fun y hy => h y (List.mem_cons_of_mem _ hy)
  simp only [grL,List.length_append,List.flatten_cons]
  omega
theorem gok_ne {m : Nat} (hm : 1 ≤ m) {L : List (List Nat)} (G : Gok m L) : L ≠ [] := fun e => by
 have := G.all 0 (by omega)
 rw [e] at this
 cases this
/-- the term of groups is a term,reads each test once,and all of them -/
theorem gr_term {m : Nat} (h1 : 1 ≤ m) (h5 : m ≤ 5) {L : List (List Nat)} (G : Gok m L) :
  tmOk m (grL L) = true ∧ onceOk m (grL L) = true ∧ letOf m (grL L) = 2 ^ m - 1 ∧ ∀ s,s < 2 ^ m → tv (grL L) s = gV L s := by
 have hL := gok_ne h1 G
 have hb := tb_grTm (m := m) hL G.ne fun g hg k hk => by have := G.lt g hg k hk; omega
 have hf := flt_grTm hL G.ne
 have ln := grL_len hL G.ne
 rw [gok_len G] at ln
 have tm : tmOk m (grL L) = true := tmOk_iff.2 ⟨by omega,by omega,by
  have := run_flt (m := m) (by omega) (by omega) hb 0 [] (by omega)
  rw [List.append_nil,hf] at this
  rw [this]
  rfl⟩
 obtain ⟨p1,p2,p3⟩ := pow5 (m := m) (by omega) (by omega)
 rw [Int.toNat_natCast] at p1 p2 p3
 have on : onceM (grL L) 0 = true := by
  have := ton_once (m := m) (by omega) (by omega) hb (s := 0) (r := []) (by omega) (by rw [Int.toNat_natCast]; omega) (ton_grTm G.nd G.ne) (fun a _ => by simp) rfl
  rwa [List.append_nil,hf] at this
 obtain ⟨l1,l2⟩ := lett_occ (m := m) (by omega) (by omega) hb (s := 0) (by omega) (by rw [Int.toNat_natCast]; omega)
 rw [hf] at l1 l2
 rw [Int.toNat_natCast] at l1
 refine ⟨tm,by unfold onceOk; rw [tm,on]; rfl,?_,fun s hs => ?_⟩
 ·unfold letOf lett
  rw [tm,if_pos rfl]
  have e : ((grL L).foldl letF 0).toNat = 2 ^ m - 1 := by
   apply Nat.eq_of_testBit_eq
   intro k
   rw [l2,Nat.testBit_two_pow_sub_one]
   by_cases hk : k < m
   ·rw [(occ_grTm k hL G.ne).2 (G.all k hk)]
    simp [hk]
   ·have : occ k (grTm L) = false := by
     rw [← Bool.not_eq_true,occ_grTm k hL G.ne]
     intro q
     obtain ⟨g,g1,g2⟩ := List.mem_flatten.1 q
     exact hk (G.lt g g1 k g2)
    rw [this]
    simp [hk]
  omega
 ·have := tv_flt (m := m) (by omega) hb (s := s) (by omega)
  rw [hf,ev_grTm s hL G.ne] at this
  exact this
end
section
/-- .. as a row costs -/
theorem rA_gD (us : List T) : ∀ (l : List Int) (on : Int),rA us 1 on l = on * gD ((l.map Int.toNat).map (itT us))
 | [],on => by simp [rA,gD]
 | a :: r,on => by
  simp only [rA,List.map_cons,gD]
  rw [rA_gD us r,its_M,List.length_map,Int.pow_succ]
  have e1 : (itT us a.toNat).1 = 6 * cA us a.toNat := rfl
  have e2 : (itT us a.toNat).2.2 - (itT us a.toNat).2.1 = 6 - pA us a.toNat := rfl
  have e3 : eA us 1 a.toNat = pA us a.toNat := by unfold eA pA; rfl
  rw [e1,e2,e3]
  grind
theorem grC_all {us : List T} (h : us.all tOk = true) {l : List Nat} (hl : l.Perm (List.range us.length)) : grC us l = rA us 1 1 (rO us 1 us.length) := by
 have lt : ∀ k ∈ l,k < us.length := fun k hk => List.mem_range.1 (hl.mem_iff.1 hk)
 have P : ((rO us 1 us.length).map Int.toNat).Perm l := by
  refine ((rO_perm us 1 us.length).map Int.toNat).trans ?_
  refine List.Perm.trans ?_ hl.symm
  unfold rng
  rw [List.map_map]
  have : (Int.toNat ∘ fun (k : Nat) => (k : Int)) = id := by funext k; simp
  rw [this,List.map_id]
 have S := rO_sorted h 1 us.length (Nat.le_refl _)
 rw [rA_gD,Int.one_mul]
 refine gB_sorted (its_ok h lt) (P.map _) ?_
 rw [List.map_map]
 refine List.Pairwise.map _ (fun a b q => ?_) S
 unfold rLe at q
 unfold gLe
 rw [decide_eq_true_eq] at q ⊢
 have e3 : ∀ a : Int,eA us 1 a.toNat = pA us a.toNat := fun a => by unfold eA pA; rfl
 rw [e3,e3] at q
 show 6 * cA us a.toNat * pA us b.toNat ≤ 6 * cA us b.toNat * pA us a.toNat
 rw [Int.mul_assoc,Int.mul_assoc]
 omega
end
section
def tLt (us : List T) (a b : Nat) : Prop := cA us a * pA us b < cA us b * pA us a ∨ cA us b * pA us a = cA us a * pA us b ∧ a < b
theorem tLt_trans {us : List T} {a b c : Nat} (ha : 1 ≤ pA us a) (hb : 1 ≤ pA us b) (hc : 1 ≤ pA us c) (h1 : tLt us a b) (h2 : tLt us b c) : tLt us a c := by
 unfold tLt at *
 revert h1 h2 ha hb hc
 generalize cA us a = x
 generalize cA us b = y
 generalize cA us c = z
 generalize pA us a = p
 generalize pA us b = q
 generalize pA us c = r
 intro ha hb hc h1 h2
 have k1 : x * q ≤ y * p := by omega
 have k2 : y * r ≤ z * q := by omega
 have m1 := Int.mul_le_mul_of_nonneg_right k1 (show 0 ≤ r by omega)
 have m2 := Int.mul_le_mul_of_nonneg_right k2 (show 0 ≤ p by omega)
 have e1 : x * q * r = x * r * q := by grind
 have e2 : y * p * r = y * r * p := by grind
 have e3 : z * q * p = z * p * q := by grind
 have le : x * r ≤ z * p := by
  refine Int.le_of_mul_le_mul_right (a := q) ?_ (by omega)
  omega
 by_cases e : x * r = z * p
 ·right
  have s : x * r * q = z * p * q := by rw [e]
  have t1 : x * q * r = y * p * r := by omega
  have t2 : y * r * p = z * q * p := by omega
  have u1 : x * q = y * p := Int.eq_of_mul_eq_mul_right (by omega) t1
  have u2 : y * r = z * q := Int.eq_of_mul_eq_mul_right (by omega) t2
  refine ⟨e.symm,?_⟩
  omega
 ·left
  omega
theorem tLt_asymm {us : List T} {a b : Nat} (h1 : tLt us a b) (h2 : tLt us b a) : False := by
 unfold tLt at *
 omega
theorem insT_t {us : List T} (h : us.all tOk = true) {k : Nat} (hk : k < us.length) : ∀ {l : List Nat},(∀ o ∈ l,o < us.length) → l.Pairwise (fun a b => ¬ tLt us b a) → (insT us k l).Pairwise (fun a b => ¬ tLt us b a)
 | [],_,_ => List.pairwise_singleton _ _
 | o :: r,hm,hp => by
  obtain ⟨p1,p2⟩ := List.pairwise_cons.1 hp
  have ho := hm o List.mem_cons_self
  have hr : ∀ y ∈ r,y < us.length := fun y hy => hm y (List.mem_cons_of_mem _ hy)
  simp only [insT]
  split
  ·rename_i hc
   have hc' : tLt us k o := hc
   refine List.pairwise_cons.2 ⟨fun y hy q => ?_,hp⟩
   rcases List.mem_cons.1 hy with rfl | hy
   ·exact tLt_asymm hc' q
   ·exact p1 y hy (tLt_trans (pA_bd h (hr y hy)).1 (pA_bd h hk).1 (pA_bd h ho).1 q hc')
  ·rename_i hc
   have hc' : ¬ tLt us k o := hc
   refine List.pairwise_cons.2 ⟨fun y hy => ?_,insT_t h hk hr p2⟩
   rcases List.mem_cons.1 ((insT_perm us k r).mem_iff.1 hy) with rfl | hy
   ·exact hc'
   ·exact p1 y hy
theorem inT_tA {us : List T} (h : us.all tOk = true) : ∀ (l a : List Nat),(∀ k ∈ l,k < us.length) → (∀ k ∈ a,k < us.length) → a.Pairwise (fun a b => ¬ tLt us b a) → (l.foldl (fun a k => insT us k a) a).Pairwise (fun a b => ¬ tLt us b a)
 | [],a,_,_,hp => hp
 | k :: r,a,hl,ha,hp => by
  simp only [List.foldl_cons]
  have hk := hl k List.mem_cons_self
  refine inT_tA h r _ (fun j hj => hl j (List.mem_cons_of_mem _ hj)) (fun j hj => ?_) (insT_t h hk ha hp)
  rcases List.mem_cons.1 ((insT_perm us k a).mem_iff.1 hj) with rfl | q
  ·exact hk
  ·exact ha j q
end
section
attribute [-simp] DV.cells
attribute [local simp] sliceD cells_st cells_sl cells_i cells_y cells_b cells_s cells_w
theorem lend_eR (L : List (List Int)) : lendL (L.map eR) = L.map eR := by
 rw [lendL_map,List.map_map]
 apply List.map_congr_left
 intro r _
 simp [eR,DV.lend]
theorem al_eR (L : List (List Int)) : allOldL (L.map eR) = true := by
 rw [allOldL_all,List.all_map,List.all_eq_true]
 intro r _
 simp [eR,DV.allOld]
attribute [local simp] lend_eR al_eR
def gokB (m : Int) (L : List (List Int)) : Bool := L.all (fun r => !r.isEmpty) && orOk m L.flatten
def gAl (m : Int) : Nat → List (List Int) → Bool
 | _,[] => true
 | n,r :: L => decide (1 ≤ (r.length : Int) ∧ (r.length : Int) ≤ m - n) && gAl m (n + r.length) L
theorem gAl_iff {m : Int} : ∀ {L : List (List Int)} {n : Nat},(n : Int) ≤ m → (gAl m n L = true ↔ L.all (fun r => !r.isEmpty) = true ∧ ((n + L.flatten.length : Nat) : Int) ≤ m)
 | [],n,h => by simp [gAl,h]
 | r :: L,n,h => by
  simp only [gAl,Bool.and_eq_true,decide_eq_true_eq,List.all_cons,List.flatten_cons,List.length_append]
  by_cases hr : (r.length : Int) ≤ m - n
  ·rw [gAl_iff (L := L) (n := n + r.length) (by omega)]
   cases r with
   | nil => simp
   | cons a r =>
    simp only [List.isEmpty_cons,Bool.not_false,true_and,List.length_cons] at *
    constructor
    ·rintro ⟨_,h1,h2⟩; exact ⟨h1,by omega⟩
    ·rintro ⟨h1,h2⟩; exact ⟨⟨by omega,by omega⟩,h1,by omega⟩
  ·constructor
   ·rintro ⟨⟨_,h2⟩,_⟩; exact absurd h2 hr
   ·rintro ⟨_,h2⟩; omega
theorem gokB_al {m : Int} (hm : 1 ≤ m ∧ m ≤ 5) (L : List (List Int)) : gokB m L = (gAl m 0 L && orOk m L.flatten) := by
 unfold gokB
 cases h : orOk m L.flatten with
 | false => simp
 | true =>
  have := orOk_len h
  rw [Bool.and_true,Bool.and_true,Bool.eq_iff_iff,gAl_iff (by omega)]
  exact ⟨fun h => ⟨h,by omega⟩,fun h => h.1⟩
def stGk (m : Int) (L : List (List Int)) (acc : List Int) (k : Nat) : LS := ⟨[(0,.i m),(5,.own 2568 acc.length 0 acc.length),(11,.sl 0 (L.map eR)),(12,.i L.length),(13,.i k)],[(2568,acc.map .i)]⟩
theorem l_impl_GroupsOk {m : Int} (hm : 1 ≤ m ∧ m ≤ 5) (A : List (List Int)) (hb : (A.length : Int) < 1099511627776) : ∀ (L : List (List Int)) (k : Nat) (acc : List Int),(acc.length : Int) ≤ m → k + L.length = A.length → A.drop k = L →
  ex lf F_impl_GroupsOk_W0 (stGk m A acc k) = if gAl m acc.length L = true then some (.exit 0,stGk m A (acc ++ L.flatten) A.length) else some (.ret,⟨[(4,.b false)],[]⟩)
 | [],k,acc,ha,hk,hd => by
  have e : k = A.length := by simpa using hk
  subst e
  rw [w_impl_GroupsOk_0]
  simp [stGk,F_impl_GroupsOk_L0,gAl]
 | r :: L,k,acc,ha,hk,hd => by
  simp only [List.length_cons] at hk
  have hlt : (k : Int) < A.length := by omega
  have hd2 : A.drop (k + 1) = L := by rw [← List.drop_drop,hd]; rfl
  have hat : A[k]? = some r := by
   have := congrArg (fun l => l[0]?) hd
   simpa using this
  have at1 : atI (A.map eR) (k : Int) = some (.sl 0 (r.map .i)) := by
   simp only [atI,if_pos (Int.natCast_nonneg k)]
   show (A.map eR)[(k : Int).toNat]? = _
   rw [Int.toNat_natCast,List.getElem?_map,hat]; rfl
  have w1 : wr ((k : Int) + 1) = ((k + 1 : Nat) : Int) := by rw [wr_id (by omega) (by omega)]; omega
  have w2 : wr (m - acc.length) = m - acc.length := wr_id (by omega) (by omega)
  have W := c_impl_isWithin (r.length : Int) 1 (m - acc.length)
  rw [w_impl_GroupsOk_0]
  by_cases hr : 1 ≤ (r.length : Int) ∧ (r.length : Int) ≤ m - acc.length
  ·rw [decide_eq_true hr] at W
   have ih := l_impl_GroupsOk hm A hb L (k + 1) (acc ++ r) (by simp; omega) (by omega) hd2
   have e : gAl m acc.length (r :: L) = gAl m (acc ++ r).length L := by simp only [gAl]; rw [decide_eq_true hr]; simp
   rw [e,List.flatten_cons,← List.append_assoc,← ih]
   have c1 : acc.length + r.length ≤ bound := by unfold bound; omega
   unfold stGk
   simp [F_impl_GroupsOk_L0,hlt,at1,w1,w2,W,c1,-Int.natCast_add]
  ·rw [decide_eq_false hr] at W
   have e : gAl m acc.length (r :: L) = false := by simp only [gAl]; rw [decide_eq_false hr]; rfl
   rw [e]
   unfold stGk
   simp [F_impl_GroupsOk_L0,hlt,at1,w1,w2,W,-Int.natCast_add]
theorem c_impl_GroupsOk (m : Int) (L : List (List Int)) (hb : (L.length : Int) < 1099511627776) : call lf n_impl_GroupsOk [.i m,.sl 0 (L.map eR)] = some (.b (gokB m L),[]) := by
 rw [call_k lf n_impl_GroupsOk _ (F := F_impl_GroupsOk) rfl rfl]
 cases h1 : nOk m with
 | false =>
  have e : gokB m L = false := by unfold gokB orOk; simp [h1]
  simp [F_impl_GroupsOk,c_impl_manyOk,h1,e]
 | true =>
  have hm := nOk_iff.1 h1
  rw [gokB_al hm]
  have I := l_impl_GroupsOk hm L hb L 0 [] (by simp; omega) (by simp) rfl
  unfold stGk at I
  simp only [List.length_nil,List.map_nil,Int.natCast_zero,List.nil_append] at I
  cases h2 : gAl m 0 L with
  | false =>
   rw [h2] at I
   simp at I
   simp [F_impl_GroupsOk,c_impl_manyOk,h1,I]
  | true =>
   rw [h2,if_pos rfl] at I
   have l5 := ((gAl_iff (n := 0) (by omega)).1 h2).2
   have C := c_impl_OrderOk m L.flatten (by omega)
   generalize L.flatten = M at *
   have tk : List.take M.length (M.map DV.i) = M.map .i := List.take_of_length_le (by simp)
   simp [F_impl_GroupsOk,c_impl_manyOk,h1,I,C,tk]
end
section
attribute [-simp] DV.cells
attribute [local simp] sliceD cells_st cells_sl cells_i cells_y cells_b cells_s cells_w
attribute [local simp] lend_eR al_eR
theorem at_eR {A : List (List Int)} {k : Nat} {r : List Int} (h : A[k]? = some r) : atI (A.map eR) (k : Int) = some (.sl 0 (r.map .i)) := by
 simp only [atI,if_pos (Int.natCast_nonneg k)]
 show (A.map eR)[(k : Int).toNat]? = _
 rw [Int.toNat_natCast,List.getElem?_map,h]; rfl
theorem atI_int {r : List Int} {j : Nat} {a : Int} (h : r[j]? = some a) : atI (r.map DV.i) (j : Int) = some (.i a) := by
 simp only [atI,if_pos (Int.natCast_nonneg j)]
 show (r.map DV.i)[(j : Int).toNat]? = _
 rw [Int.toNat_natCast,List.getElem?_map,h]; rfl
theorem drop_cons {α : Type} {A : List α} {k : Nat} {r : α} {L : List α} (h : A.drop k = r :: L) : k < A.length ∧ A[k]? = some r ∧ A.drop (k + 1) = L := by
 have hk : k < A.length := by
  rcases Nat.lt_or_ge k A.length with h1 | h1
  ·exact h1
  ·rw [List.drop_eq_nil_of_le h1] at h; cases h
 refine ⟨hk,?_,by rw [← List.drop_drop,h]; rfl⟩
 have := congrArg (fun l => l[0]?) h
 simpa using this
theorem wr_succ {k : Nat} (h : (k : Int) < 1099511627776) : wr ((k : Int) + 1) = ((k + 1 : Nat) : Int) := by rw [wr_id (by omega) (by omega)]; omega
def stGi (m : Int) (A : List (List Int)) (so n k j : Nat) : LS := ⟨[(0,.i m),(1,.sl 0 (A.map eR)),(5,.i so),(6,.i n),(7,.i k),(8,.i j)],[]⟩
theorem gs_inner (m : Int) (A : List (List Int)) {k : Nat} {R : List Int} (hk : A[k]? = some R) (hkl : (k : Int) < A.length) : ∀ (r : List Int) (j so n : Nat),so < 32 → ((n + r.length : Nat) : Int) < 1099511627776 → (R.length : Int) < 1099511627776 → R.drop j = r → j + r.length = R.length →
  ex lf F_spec_GroupsOk_W1 (stGi m A so n k j) = if orS (min m 5) so r = true then some (.exit 2,stGi m A (setO so r) (n + r.length) k R.length) else some (.ret,⟨[(4,.b false)],[]⟩) := by
 intro r
 induction r with
 | nil =>
  intro j so n hs hn hR hd hj
  have at1 := at_eR hk
  have e : j = R.length := by simpa using hj
  subst e
  rw [w_spec_GroupsOk_1]
  simp [stGi,F_spec_GroupsOk_L1,orS,setO,at1,hkl]
 | cons a r ih0 =>
  intro j so n hs hn hR hd hj
  have at1 := at_eR hk
  obtain ⟨j1,j2,j3⟩ := drop_cons hd
  have j1' : (j : Int) < R.length := by omega
  have at2 := atI_int j2
  simp only [List.length_cons] at hn hj
  have w1 := wr_succ (k := j) (by omega)
  have w2 := wr_succ (k := n) (by omega)
  rw [w_spec_GroupsOk_1]
  by_cases a0 : a < 0
  ·have e2 : decide (0 ≤ a ∧ a < min m 5) = false := decide_eq_false (by omega)
   simp only [orS,e2,Bool.false_and]
   simp [stGi,F_spec_GroupsOk_L1,at1,at2,hkl,j1,j1',a0]
  ·by_cases a1 : m ≤ a
   ·have e2 : decide (0 ≤ a ∧ a < min m 5) = false := decide_eq_false (by omega)
    simp only [orS,e2,Bool.false_and]
    simp [stGi,F_spec_GroupsOk_L1,at1,at2,hkl,j1,j1',a0,a1]
   ·by_cases a5 : 5 ≤ a
    ·have e2 : decide (0 ≤ a ∧ a < min m 5) = false := decide_eq_false (by omega)
     simp only [orS,e2,Bool.false_and]
     simp [stGi,F_spec_GroupsOk_L1,at1,at2,hkl,j1,j1',a0,a1,a5]
    ·have e2 : decide (0 ≤ a ∧ a < min m 5) = true := decide_eq_true (by omega)
     have o := or_i (so := so) (by omega) (by omega : 0 ≤ a) (by omega : a < 5)
     have bb := bit_bI (a := so) (s := a.toNat) (by omega)
     rw [Int.toNat_of_nonneg (by omega)] at bb
     have ih := ih0 (j + 1) (so ||| 2 ^ a.toNat) (n + 1) (or_lt2 (m := 5) hs (by omega)) (by omega) hR j3 (by omega)
     rw [show n + 1 + r.length = n + (r.length + 1) by omega] at ih
     simp only [orS,e2,Bool.true_and,setO,List.length_cons]
     unfold stGi at *
     cases hb : so.testBit a.toNat with
     | true =>
      rw [hb] at bb
      have q : (bI true == 1) = true := rfl
      simp [F_spec_GroupsOk_L1,at1,at2,hkl,j1,j1',a0,a1,a5,bb,q]
     | false =>
      rw [hb] at bb
      have q : (bI false == 1) = false := rfl
      simp [F_spec_GroupsOk_L1,at1,at2,hkl,j1,j1',a0,a1,a5,bb,q,o,w1,w2,ih,-Int.natCast_add]
def gSp (m : Int) : Nat → List (List Int) → Bool
 | _,[] => true
 | so,r :: L => !r.isEmpty && (orS m so r && gSp m (setO so r) L)
theorem gSp_eq (m : Int) : ∀ (L : List (List Int)) (so : Nat),gSp m so L = (L.all (fun r => !r.isEmpty) && orS m so L.flatten)
 | [],so => by simp [gSp,orS]
 | r :: L,so => by
  simp only [gSp,List.all_cons,List.flatten_cons,orS_app,gSp_eq m L]
  cases r.isEmpty <;> cases orS m so r <;> simp
theorem setO32 {m : Int} : ∀ {os : List Int} {so : Nat},so < 32 → orS (min m 5) so os = true → setO so os < 32
 | [],_,h,_ => h
 | a :: r,so,h,ho => by
  obtain ⟨h1,h2,h3⟩ := orS_cons.1 ho
  exact setO32 (os := r) (or_lt2 (m := 5) h (by omega)) h3
def stGo (m : Int) (A : List (List Int)) (so n k : Nat) : LS := ⟨[(0,.i m),(1,.sl 0 (A.map eR)),(5,.i so),(6,.i n),(7,.i k)],[]⟩
theorem gs_outer (m : Int) (A : List (List Int)) (hb : (A.length : Int) < 1099511627776) : ∀ (L : List (List Int)) (k so n : Nat),so < 32 → ((n + L.flatten.length : Nat) : Int) < 1099511627776 → A.drop k = L → k + L.length = A.length →
  ex lf F_spec_GroupsOk_W0 (stGo m A so n k) = if gSp (min m 5) so L = true then some (.exit 0,stGo m A (setO so L.flatten) (n + L.flatten.length) A.length) else some (.ret,⟨[(4,.b false)],[]⟩) := by
 intro L
 induction L with
 | nil =>
  intro k so n hs hn hd hk
  have e : k = A.length := by simpa using hk
  subst e
  rw [w_spec_GroupsOk_0]
  simp [stGo,F_spec_GroupsOk_L0,gSp,setO]
 | cons R L ih0 =>
  intro k so n hs hn hd hk
  obtain ⟨k1,k2,k3⟩ := drop_cons hd
  have k1' : (k : Int) < A.length := by omega
  have at1 := at_eR k2
  simp only [List.flatten_cons,List.length_append] at hn
  simp only [List.length_cons] at hk
  have w1 := wr_succ (k := k) (by omega)
  rw [w_spec_GroupsOk_0]
  by_cases h0 : R = []
  ·subst h0
   simp only [gSp]
   simp [stGo,F_spec_GroupsOk_L0,k1,k1',at1]
  ·have I := gs_inner m A k2 k1' R 0 so n hs (by omega) (by omega) rfl (by simp)
   have e0 : R.isEmpty = false := by simpa using h0
   have r0 : ((R.length : Int) == 0) = false := by have := List.length_pos_iff.2 h0; exact beq_false_of_ne (by omega)
   simp only [gSp,e0,Bool.not_false,Bool.true_and]
   unfold stGi at I
   unfold stGo at *
   simp only [Int.natCast_zero] at I
   cases h1 : orS (min m 5) so R with
   | false =>
    rw [h1] at I
    simp at I
    simp [F_spec_GroupsOk_L0,k1,k1',at1,r0,I]
   | true =>
    rw [h1,if_pos rfl] at I
    have ih := ih0 (k + 1) (setO so R) (n + R.length) (setO32 hs h1) (by omega) k3 (by omega)
    rw [← Nat.add_assoc,List.flatten_cons,setO_app,List.length_append,← Nat.add_assoc] at *
    simp only [Bool.true_and]
    simp [F_spec_GroupsOk_L0,k1,k1',at1,r0,I,w1,ih,-Int.natCast_add,-List.length_flatten]
theorem c_spec_GroupsOk (m : Int) (L : List (List Int)) (hb : (L.length : Int) < 1099511627776) (hf : (L.flatten.length : Int) < 1099511627776) : call lf n_spec_GroupsOk [.i m,.sl 0 (L.map eR)] = some (.b (gokB m L),[]) := by
 rw [call_k lf n_spec_GroupsOk _ (F := F_spec_GroupsOk) rfl rfl]
 have I := gs_outer m L hb L 0 0 0 (by omega) (by omega) rfl (by simp)
 unfold stGo at I
 simp only [Int.natCast_zero,Nat.zero_add] at I
 have e1 : nOk m = decide (1 ≤ m ∧ m ≤ 5) := rfl
 rw [gSp_eq] at I
 unfold gokB orOk
 rw [e1]
 by_cases hm : 1 ≤ m ∧ m ≤ 5
 ·have h1 : decide (1 ≤ m ∧ m ≤ 5) = true := decide_eq_true hm
  have e5 : min m 5 = m := by omega
  rw [e5] at I
  rw [h1]
  cases h3 : (L.all (fun r => !r.isEmpty) && orS m 0 L.flatten) with
  | false =>
   rw [h3] at I
   simp at I
   have e : (L.all (fun r => !r.isEmpty) && (true && decide ((L.flatten.length : Int) = m) && orS m 0 L.flatten)) = false := by
    rw [Bool.true_and,← Bool.and_assoc,Bool.and_right_comm,h3]; rfl
   rw [e]
   simp [F_spec_GroupsOk,I]
  | true =>
   rw [h3,if_pos rfl] at I
   rw [Bool.and_eq_true] at h3
   rw [h3.1,h3.2]
   generalize L.flatten.length = z at *
   simp [F_spec_GroupsOk,I,c_spec_l1In,h1,Bool.beq_eq_decide_eq]
 ·have h1 : decide (1 ≤ m ∧ m ≤ 5) = false := decide_eq_false hm
  rw [h1]
  cases h3 : (L.all (fun r => !r.isEmpty) && orS (min m 5) 0 L.flatten) with
  | false =>
   rw [h3] at I
   simp at I
   simp [F_spec_GroupsOk,I]
  | true =>
   rw [h3,if_pos rfl] at I
   generalize L.flatten.length = z at *
   simp [F_spec_GroupsOk,I,c_spec_l1In,h1]
end
section
attribute [-simp] DV.cells
attribute [local simp] sliceD cells_st cells_sl cells_i cells_y cells_b cells_s cells_w
attribute [local simp] lend_eR al_eR
def ni (l : List Nat) : List Int := l.map fun k : Nat => (k : Int)
theorem ni_len (l : List Nat) : (ni l).length = l.length := by simp [ni]
theorem ni_toNat (l : List Nat) : (ni l).map Int.toNat = l := by
 unfold ni
 rw [List.map_map]
 conv => rhs; rw [← List.map_id l]
 apply List.map_congr_left
 intro k _
 simp
theorem ni_app (p q : List Nat) : ni (p ++ q) = ni p ++ ni q := by simp [ni]
theorem prR_grN (us : List T) : ∀ (g : List Nat) (on : Int),prR us 1 on (ni g) = on * grN us g
 | [],on => by simp [ni,prR,grN]
 | k :: r,on => by
  have e : eA us 1 k = pA us k := by unfold eA pA; simp
  show prR us 1 (on * (6 - eA us 1 ((k : Nat) : Int).toNat)) (ni r) = _
  rw [prR_grN us r,Int.toNat_natCast,e,grN,Int.mul_assoc]
theorem atT {us : List T} {k : Nat} (hk : k < us.length) : atI (us.map e2) (k : Int) = some (.st [.i (cA us k),.i (pA us k)]) := by
 simp only [atI,if_pos (Int.natCast_nonneg k)]
 show (us.map e2)[(k : Int).toNat]? = _
 rw [Int.toNat_natCast,List.getElem?_map,List.getElem?_eq_getElem hk]
 unfold cA pA
 simp [List.getD,hk,e2]
theorem cA_bd {us : List T} (h : us.all tOk = true) {k : Nat} (hk : k < us.length) : 1 ≤ cA us k ∧ cA us k ≤ 9 := by
 have := tOk_iff.1 (List.all_eq_true.1 h us[k] (List.getElem_mem hk))
 unfold cA
 simp only [List.getD,List.getElem?_eq_getElem hk,Option.getD_some]
 exact this.1
def stLc (us : List T) (g : List Nat) (sum on : Int) (k : Nat) : LS := ⟨[(0,.sl 0 (us.map e2)),(1,.sl 0 ((ni g).map .i)),(6,.i sum),(7,.i on),(8,.i k)],[]⟩
set_option maxHeartbeats 4000000 in
theorem cost_loop {us : List T} (h : us.all tOk = true) (g : List Nat) (h5 : g.length ≤ 5) (hg : ∀ k ∈ g,k < us.length) : ∀ (rest : List Nat) (k : Nat) (on sum : Int),0 ≤ on → on ≤ 6 ^ k → 0 ≤ sum → sum ≤ 70000 * k → k + rest.length = g.length → g.drop k = rest →
  ex lf F_spec_l7Cost_W0 (stLc us g sum on k) = some (.exit 0,stLc us g (sum + rA us 1 on (ni rest)) (prR us 1 on (ni rest)) g.length) := by
 intro rest
 induction rest with
 | nil =>
  intro k on sum n0 n1 s0 s1 hn hd
  have e : k = g.length := by simpa using hn
  subst e
  rw [w_spec_l7Cost_0]
  simp [stLc,F_spec_l7Cost_L0,ni,rA,prR]
 | cons a rest ih0 =>
  intro k on sum n0 n1 s0 s1 hn hd
  obtain ⟨k1,k2,k3⟩ := drop_cons hd
  have ha : a < us.length := hg a (List.mem_of_getElem? k2)
  have k1' : (k : Int) < g.length := by omega
  have k2' : (ni g)[k]? = some (a : Int) := by unfold ni; rw [List.getElem?_map,k2]; rfl
  have at1 := atI_int k2'
  have at2 := atT ha
  have cb := cA_bd h ha
  have pb := pA_bd h ha
  have hl : rest.length + 1 = g.length - k := by simp at hn; omega
  have pp := p6le (i := k) (j := rest.length + 1) (by omega) n0 n1
  have pk := p6 (n := k) (by omega)
  have C := c_spec_l1Power (n := rest.length + 1) (by omega)
  have w1 : wr ((g.length : Int) - k) = ((rest.length + 1 : Nat) : Int) := by rw [wr_id (by omega) (by omega)]; omega
  have m1 : 0 ≤ cA us a * on ∧ cA us a * on ≤ 9 * 7776 := ⟨Int.mul_nonneg (by omega) n0,Int.mul_le_mul (by omega) (by omega) n0 (by omega)⟩
  have w2 : wr (cA us a * on) = cA us a * on := wr_id (by omega) (by omega)
  have m2 : 0 ≤ cA us a * on * 6 ^ (rest.length + 1) ∧ cA us a * on * 6 ^ (rest.length + 1) ≤ 9 * 7776 := by
   rw [Int.mul_assoc]
   exact ⟨Int.mul_nonneg (by omega) pp.1,Int.mul_le_mul (by omega) pp.2 pp.1 (by omega)⟩
  have w3 : wr (cA us a * on * 6 ^ (rest.length + 1)) = cA us a * on * 6 ^ (rest.length + 1) := wr_id (by omega) (by omega)
  have w4 : wr (sum + cA us a * on * 6 ^ (rest.length + 1)) = sum + cA us a * on * 6 ^ (rest.length + 1) := wr_id (by omega) (by omega)
  have w5 : wr (6 - pA us a) = 6 - pA us a := wr_id (by omega) (by omega)
  have m3 : 0 ≤ on * (6 - pA us a) ∧ on * (6 - pA us a) ≤ 6 ^ (k + 1) := by
   refine ⟨Int.mul_nonneg n0 (by omega),?_⟩
   rw [Int.pow_succ]
   exact Int.mul_le_mul n1 (by omega) (by omega) (by omega)
  have pk1 := p6 (n := k + 1) (by omega)
  have w6 : wr (on * (6 - pA us a)) = on * (6 - pA us a) := wr_id (by omega) (by omega)
  have w7 := wr_succ (k := k) (by omega)
  have I := ih0 (k + 1) (on * (6 - pA us a)) (sum + cA us a * on * 6 ^ (rest.length + 1)) m3.1 m3.2 (by omega) (by omega) (by simp at hn; omega) k3
  have ea : eA us 1 a = pA us a := by unfold eA pA; simp
  have e : sum + rA us 1 on (ni (a :: rest)) = sum + cA us a * on * 6 ^ (rest.length + 1) + rA us 1 (on * (6 - pA us a)) (ni rest) := by
   simp only [ni,List.map_cons,rA,List.length_map,Int.toNat_natCast,ea]; omega
  have e' : prR us 1 on (ni (a :: rest)) = prR us 1 (on * (6 - pA us a)) (ni rest) := by
   simp only [ni,List.map_cons,prR,Int.toNat_natCast,ea]
  rw [w_spec_l7Cost_0,e,e']
  unfold stLc at *
  have nl := ni_len g
  generalize (6 : Int) ^ (rest.length + 1) = P at *
  generalize rA us 1 _ (ni rest) = Z at *
  generalize prR us 1 _ (ni rest) = Y at *
  generalize cA us a = c at *
  generalize pA us a = q at *
  simp [F_spec_l7Cost_L0,k1,k1',nl,at1,at2,ha,C,w1,w2,w3,w4,w5,w6,w7,I,-Int.natCast_add]
theorem c_spec_l7Cost {us : List T} (h : tsOk us = true) {g : List Nat} (h5 : g.length ≤ 5) (hg : ∀ k ∈ g,k < us.length) :
  call lf n_spec_l7Cost [.sl 0 (us.map e2),.sl 0 ((ni g).map .i)] = some (.tup [.i (gD (g.map (itT us))),.i (grN us g)],[]) := by
 rw [call_k lf n_spec_l7Cost _ (F := F_spec_l7Cost) rfl rfl]
 have h' := tsOk_iff.1 h
 have I := cost_loop h'.2 g h5 hg g 0 1 0 (by omega) (by omega) (by omega) (by omega) (by omega) rfl
 rw [rA_gD,prR_grN,ni_toNat,Int.one_mul,Int.one_mul,Int.zero_add] at I
 unfold stLc at I
 simp only [Int.natCast_zero] at I
 simp [F_spec_l7Cost,I]
def posT (us : List T) (k : Nat) : List Nat → Nat
 | [] => 0
 | o :: r => if cA us k * pA us o < cA us o * pA us k ∨ cA us o * pA us k = cA us k * pA us o ∧ k < o then 0 else posT us k r + 1
theorem posT_le (us : List T) (k : Nat) : ∀ l : List Nat,posT us k l ≤ l.length
 | [] => Nat.le_refl _
 | o :: r => by
  have := posT_le us k r
  simp only [posT,List.length_cons]
  split <;> omega
theorem insT_pos (us : List T) (k : Nat) : ∀ l : List Nat,insT us k l = l.take (posT us k l) ++ k :: l.drop (posT us k l)
 | [] => rfl
 | o :: r => by
  simp only [insT,posT]
  split
  ·simp
  ·rw [insT_pos us k r]; simp
def stIi (us : List T) (G : List Nat) (i : Nat) (L : List Nat) (a : Nat) : LS := ⟨[(0,.sl 0 (us.map e2)),(1,.sl 0 ((ni G).map .i)),(5,.own 5640 L.length 0 L.length),(6,.i i),(7,.i a)],[(5640,(ni L).map .i)]⟩
theorem at_ni {L : List Nat} {j k : Nat} (h : L[j]? = some k) : atI ((ni L).map DV.i) (j : Int) = some (.i k) ∧ atN ((ni L).map DV.i) j = some (.i k) := by
 have h' : (ni L)[j]? = some (k : Int) := by unfold ni; rw [List.getElem?_map,h]; rfl
 refine ⟨atI_int h',?_⟩
 show ((ni L).map DV.i)[j]? = _
 rw [List.getElem?_map,h']; rfl
set_option maxHeartbeats 8000000 in
theorem in_inner {us : List T} (h : us.all tOk = true) {G : List Nat} {i k : Nat} (hi : G[i]? = some k) (hk : k < us.length) (L : List Nat) (hL : L.length ≤ 5) (hm : ∀ o ∈ L,o < us.length) : ∀ (r p : List Nat),L = p ++ r →
  ex lf F_spec_l7Inside_W1 (stIi us G i L p.length) = some (.exit 2,stIi us G i L (p.length + posT us k r)) := by
 intro r
 induction r with
 | nil =>
  intro p hp
  have e : p.length = L.length := by rw [hp]; simp
  rw [w_spec_l7Inside_1,e]
  simp [stIi,F_spec_l7Inside_L1,posT]
 | cons o r ih =>
  intro p hp
  have lp : p.length < L.length := by rw [hp]; simp
  have ho := hm o (by rw [hp]; simp)
  obtain ⟨ao,an⟩ := at_ni (L := L) (j := p.length) (k := o) (by rw [hp]; simp)
  obtain ⟨bo,bn⟩ := at_ni hi
  have hiG : (i : Int) < G.length := by have := (List.getElem?_eq_some_iff.1 hi).1; omega
  have t1 := atT ho
  have t2 := atT hk
  have c1 := cA_bd h ho
  have c2 := cA_bd h hk
  have p1 := pA_bd h ho
  have p2 := pA_bd h hk
  have m1 : 0 ≤ cA us o * pA us k ∧ cA us o * pA us k ≤ 9 * 5 := ⟨Int.mul_nonneg (by omega) (by omega),Int.mul_le_mul (by omega) (by omega) (by omega) (by omega)⟩
  have m2 : 0 ≤ cA us k * pA us o ∧ cA us k * pA us o ≤ 9 * 5 := ⟨Int.mul_nonneg (by omega) (by omega),Int.mul_le_mul (by omega) (by omega) (by omega) (by omega)⟩
  have w1 : wr (cA us o * pA us k) = cA us o * pA us k := wr_id (by omega) (by omega)
  have w2 : wr (cA us k * pA us o) = cA us k * pA us o := wr_id (by omega) (by omega)
  have w3 := wr_succ (k := p.length) (by omega)
  have I := ih (p ++ [o]) (by rw [hp]; simp)
  rw [List.length_append,List.length_singleton] at I
  have nl := ni_len L
  have ng := ni_len G
  have ok : ((k : Int) < (o : Int)) = (k < o) := by simp
  rw [w_spec_l7Inside_1]
  simp only [posT]
  unfold stIi at *
  generalize cA us o = x1 at *
  generalize pA us o = x2 at *
  generalize cA us k = y1 at *
  generalize pA us k = y2 at *
  by_cases q1 : y1 * x2 < x1 * y2
  ·rw [if_pos (.inl q1)]
   simp [F_spec_l7Inside_L1,lp,ao,an,bo,bn,hiG,ho,hk,t1,t2,w1,w2,w3,nl,ng,q1,-Int.natCast_add]
  ·by_cases q2 : x1 * y2 = y1 * x2
   ·by_cases q3 : k < o
    ·rw [if_pos (.inr ⟨q2,q3⟩)]
     simp [F_spec_l7Inside_L1,lp,ao,an,bo,bn,hiG,ho,hk,t1,t2,w1,w2,w3,nl,ng,q1,q2,q3,-Int.natCast_add]
    ·rw [if_neg (by omega),show p.length + (posT us k r + 1) = p.length + 1 + posT us k r by omega]
     simp [F_spec_l7Inside_L1,lp,ao,an,bo,bn,hiG,ho,hk,t1,t2,w1,w2,w3,nl,ng,q1,q2,q3,I,-Int.natCast_add]
   ·rw [if_neg (by omega),show p.length + (posT us k r + 1) = p.length + 1 + posT us k r by omega]
    have q2' : (x1 * y2 == y1 * x2) = false := by simp [q2]
    simp [F_spec_l7Inside_L1,lp,ao,an,bo,bn,hiG,ho,hk,t1,t2,w1,w2,w3,nl,ng,q1,q2,q2',I,-Int.natCast_add]
end
section
attribute [-simp] DV.cells
attribute [local simp] sliceD cells_st cells_sl cells_i cells_y cells_b cells_s cells_w
attribute [local simp] lend_eR al_eR
def inTi (us : List T) (G : List Nat) (i : Nat) : List Nat := (G.take i).foldl (fun a k => insT us k a) []
theorem inTi_succ (us : List T) {G : List Nat} {i k : Nat} (h : G[i]? = some k) : inTi us G (i + 1) = insT us k (inTi us G i) := by
 unfold inTi
 rw [List.take_add_one,h,Option.toList_some,List.foldl_append]
 rfl
theorem inTi_all (us : List T) (G : List Nat) : inTi us G G.length = inT us G := by
 unfold inTi inT
 rw [List.take_length]
theorem inTi_perm (us : List T) (G : List Nat) (i : Nat) : (inTi us G i).Perm (G.take i) := by
 have := inT_permA us (G.take i) []
 rwa [List.nil_append] at this
theorem inTi_len (us : List T) {G : List Nat} {i : Nat} (h : i ≤ G.length) : (inTi us G i).length = i := by
 rw [(inTi_perm us G i).length_eq,List.length_take]; omega
def stIo (us : List T) (G : List Nat) (K : Nat) (L : List Nat) (i : Nat) : LS := ⟨[(0,.sl 0 (us.map e2)),(1,.sl 0 ((ni G).map .i)),(5,.own K L.length 0 L.length),(6,.i i)],[(K,(ni L).map .i)]⟩
set_option maxHeartbeats 8000000 in
theorem in_outer {us : List T} (h : us.all tOk = true) {G : List Nat} (h5 : G.length ≤ 5) (hg : ∀ k ∈ G,k < us.length) (j : Nat) : ∀ (i K : Nat),(K = 5640 ∨ K = 37384) → i + j = G.length →
  ex lf F_spec_l7Inside_W0 (stIo us G K (inTi us G i) i) = some (.exit 0,stIo us G 5640 (inT us G) G.length) := by
 have ng := ni_len G
 induction j with
 | zero =>
  intro i K hK hi
  have e : i = G.length := by omega
  subst e
  rw [w_spec_l7Inside_0,inTi_all]
  rcases hK with rfl | rfl <;> simp [stIo,F_spec_l7Inside_L0,ng,ni_len]
 | succ j ih =>
  intro i K hK hi
  have k2 := ih (i + 1) 37384 (.inr rfl) (by omega)
  have hlt : i < G.length := by omega
  obtain ⟨k,hk⟩ : ∃ k,G[i]? = some k := ⟨_,List.getElem?_eq_getElem hlt⟩
  have hkm := hg k (List.mem_of_getElem? hk)
  have ll := inTi_len us (G := G) (i := i) (by omega)
  have I := in_inner h hk hkm (inTi us G i) (by omega) (fun o ho => hg o (List.mem_of_mem_take ((inTi_perm us G i).mem_iff.1 ho))) (inTi us G i) [] rfl
  have pl := posT_le us k (inTi us G i)
  rw [inTi_succ us hk,insT_pos] at k2
  rw [List.length_nil,Nat.zero_add] at I
  obtain ⟨bo,bn⟩ := at_ni hk
  generalize posT us k (inTi us G i) = a at *
  generalize inTi us G i = L at *
  generalize inT us G = R at *
  obtain ⟨x,y,rfl,rfl⟩ : ∃ x y,L = x ++ y ∧ x.length = a := ⟨L.take a,L.drop a,(List.take_append_drop a L).symm,by simp; omega⟩
  have s1 : (x ++ y).take x.length = x := by simp
  have s2 : (x ++ y).drop x.length = y := by simp
  rw [s1,s2] at k2
  have lxy : x.length + y.length = i := by simpa using ll
  have w1 := wr_succ (k := i) (by omega)
  have c1 : x.length ≤ bound := by unfold bound; omega
  have c2 : x.length + 1 ≤ bound := by unfold bound; omega
  have c3 : i + 1 ≤ bound := by unfold bound; omega
  have xi : x.length ≤ i := by omega
  have nx := ni_len x
  have ny := ni_len y
  have hlt' : (i : Int) < G.length := by omega
  have t1 : ((ni (x ++ y)).map DV.i).take x.length = (ni x).map .i := by rw [ni_app,List.map_append]; exact List.take_left' (by simp [ni_len])
  have t2 : ((ni (x ++ y)).map DV.i).drop x.length = (ni y).map .i := by rw [ni_app,List.map_append]; exact List.drop_left' (by simp [ni_len])
  have hL : ((ni (x ++ y)).map DV.i).length = i := by simp [ni_len]; omega
  have t4 : List.take i ((ni (x ++ y)).map DV.i) = (ni (x ++ y)).map DV.i := List.take_of_length_le (by omega)
  have e1 : x.length + 1 + y.length = i + 1 := by omega
  have e3 : x.length + (y.length + 1) = i + 1 := by omega
  have n0 : ¬ (i < x.length) := by omega
  have ek : ni (x ++ k :: y) = ni x ++ (k : Int) :: ni y := by simp [ni]
  unfold stIo stIi at *
  rw [ll] at I ⊢
  simp only [Int.natCast_zero] at I
  rw [w_spec_l7Inside_0]
  simp only [List.length_append,List.length_cons,ek,List.map_append,List.map_cons,e3] at k2
  generalize (ni (x ++ y)).map DV.i = M at *
  rcases hK with rfl | rfl <;> simp [F_spec_l7Inside_L0,hlt,hlt',ng,bo,I,w1,hL,t1,t2,t4,c1,c2,c3,xi,nx,ny,e1,k2,-Int.natCast_add]
theorem c_spec_l7Inside {us : List T} (h : tsOk us = true) {g : List Nat} (h5 : g.length ≤ 5) (hg : ∀ k ∈ g,k < us.length) :
  call lf n_spec_l7Inside [.sl 0 (us.map e2),.sl 0 ((ni g).map .i)] = some (.fr 1 ((ni (inT us g)).map .i),[]) := by
 rw [call_k lf n_spec_l7Inside _ (F := F_spec_l7Inside) rfl rfl]
 have h' := tsOk_iff.1 h
 have L := in_outer h'.2 h5 hg g.length 0 5640 (.inl rfl) (by omega)
 have z : inTi us g 0 = [] := rfl
 rw [z] at L
 unfold stIo at L
 have z' : ni [] = [] := rfl
 rw [z'] at L
 simp only [Int.natCast_zero,List.length_nil,List.map_nil] at L
 have ll : (inT us g).length = g.length := (inT_perm us g).length_eq
 have nl := ni_len (inT us g)
 have tk : List.take g.length ((ni (inT us g)).map DV.i) = (ni (inT us g)).map .i := List.take_of_length_le (by simp [nl,ll])
 rw [ll] at L nl
 simp [F_spec_l7Inside,L,nl,tk]
theorem gok_of {m : Nat} (hm : 1 ≤ m ∧ m ≤ 5) {L : List (List Int)} (h : gokB m L = true) : ∃ N : List (List Nat),L = N.map ni ∧ Gok m N := by
 unfold gokB at h
 rw [Bool.and_eq_true] at h
 obtain ⟨h1,h2⟩ := h
 obtain ⟨o1,o2,o3⟩ := orOk_iff.1 h2
 obtain ⟨o4,o5⟩ := orS_nodup.1 o3
 have e : L = (L.map (List.map Int.toNat)).map ni := by
  rw [List.map_map]
  conv => lhs; rw [← List.map_id L]
  apply List.map_congr_left
  intro r hr
  show r = ni (r.map Int.toNat)
  unfold ni
  rw [List.map_map]
  conv => lhs; rw [← List.map_id r]
  apply List.map_congr_left
  intro a ha
  have := (o4 a (List.mem_flatten.2 ⟨r,hr,ha⟩)).1
  show a = ((a.toNat : Nat) : Int)
  omega
 have ef : (L.map (List.map Int.toNat)).flatten = L.flatten.map Int.toNat := by rw [List.map_flatten]
 have lt : ∀ g ∈ L.map (List.map Int.toNat),∀ k ∈ g,k < m := by
  intro g hg k hk
  obtain ⟨r,hr,rfl⟩ := List.mem_map.1 hg
  obtain ⟨a,ha,rfl⟩ := List.mem_map.1 hk
  have := (o4 a (List.mem_flatten.2 ⟨r,hr,ha⟩)).1
  omega
 have nd : (L.map (List.map Int.toNat)).flatten.Nodup := by
  rw [ef,List.nodup_iff_pairwise_ne,List.pairwise_map]
  refine List.Pairwise.imp_of_mem (fun {a b} ha hb hab h => hab ?_) (List.nodup_iff_pairwise_ne.1 o5)
  have := (o4 a ha).1
  have := (o4 b hb).1
  omega
 refine ⟨_,e,lt,nd,fun k hk => ?_,?_⟩
 ·rw [ef,List.mem_map]
  have p := (or_perm h2).mem_iff.2 (mem_rng.2 (show 0 ≤ (k : Int) ∧ (k : Int) < ((m : Int).toNat : Nat) by omega))
  exact ⟨(k : Int),p,by simp⟩
 ·intro g hg
  obtain ⟨r,hr,rfl⟩ := List.mem_map.1 hg
  have := List.all_eq_true.1 h1 r hr
  simpa using this
theorem gok_to {m : Nat} (hm : 1 ≤ m ∧ m ≤ 5) {N : List (List Nat)} (G : Gok m N) : gokB m (N.map ni) = true := by
 unfold gokB
 rw [Bool.and_eq_true]
 have ef : (N.map ni).flatten = ni N.flatten := by unfold ni; rw [List.map_flatten]
 refine ⟨?_,?_⟩
 ·rw [List.all_map,List.all_eq_true]
  intro g hg
  have := G.ne g hg
  cases g with
  | nil => exact absurd rfl this
  | cons a g => rfl
 ·rw [ef,orOk_iff,orS_nodup]
  refine ⟨by omega,by rw [ni_len,gok_len G],fun o ho => ?_,?_⟩
  ·obtain ⟨k,hk,rfl⟩ := List.mem_map.1 ho
   obtain ⟨g,h1,h2⟩ := List.mem_flatten.1 hk
   have := G.lt g h1 k h2
   exact ⟨by omega,by simp⟩
  ·unfold ni
   rw [List.nodup_iff_pairwise_ne,List.pairwise_map]
   exact List.Pairwise.imp (fun {a b} (hab : a ≠ b) h => hab (Int.ofNat_inj.1 h)) (List.nodup_iff_pairwise_ne.1 G.nd)
end
section
attribute [-simp] DV.cells
attribute [local simp] sliceD cells_st cells_sl cells_i cells_y cells_b cells_s cells_w
theorem c_impl_ratioOf (c q row : Int) (hq : 1 ≤ q ∧ q ≤ 5) : call lf n_impl_ratioOf [.st [.i c,.i q],.i row] = some (.st [.i c,.i (if row = 0 then 6 - q else q)],[]) := by
 rw [call_k lf n_impl_ratioOf _ (F := F_impl_ratioOf) rfl rfl]
 have C := c_impl_endChance c q row hq
 generalize (if row = 0 then 6 - q else q) = z at *
 simp [F_impl_ratioOf,C]
theorem c_impl_isLess (a b x y : Int) (h1 : 0 ≤ a * y ∧ a * y ≤ 1000) (h2 : 0 ≤ x * b ∧ x * b ≤ 1000) : call lf n_impl_ratio_isLess [.st [.i a,.i b],.st [.i x,.i y]] = some (.b (decide (a * y < x * b)),[]) := by
 rw [call_k lf n_impl_ratio_isLess _ (F := F_impl_ratio_isLess) rfl rfl]
 have w1 : wr (a * y) = a * y := wr_id (by omega) (by omega)
 have w2 : wr (x * b) = x * b := wr_id (by omega) (by omega)
 simp [F_impl_ratio_isLess,w1,w2]
theorem c_impl_less {us : List T} (h : tsOk us = true) (row : Int) {a b : Int} (ha : 0 ≤ a ∧ a < us.length) (hb : 0 ≤ b ∧ b < us.length) :
  call lf n_impl_RatioOrder_1 [.i a,.i b,.adr (.sl 0 (us.map e2)),.adr (.i row)] = some (.b (!(rLe us row b a)),[]) := by
 have h' := tsOk_iff.1 h
 obtain ⟨c1,q1,x1,x2,x3⟩ := cA_at (us := us) ha.1 ha.2
 obtain ⟨c2,q2,y1,y2,y3⟩ := cA_at (us := us) hb.1 hb.2
 have tq1 := tOk_iff.1 (List.all_eq_true.1 h'.2 us[a.toNat] (List.getElem_mem (by omega)))
 have tq2 := tOk_iff.1 (List.all_eq_true.1 h'.2 us[b.toNat] (List.getElem_mem (by omega)))
 rw [← show us.getD a.toNat (0,0) = us[a.toNat] by simp [List.getD,show a.toNat < us.length by omega],x3] at tq1
 rw [← show us.getD b.toNat (0,0) = us[b.toNat] by simp [List.getD,show b.toNat < us.length by omega],y3] at tq2
 have R1 := c_impl_ratioOf c1 q1 row tq1.2
 have R2 := c_impl_ratioOf c2 q2 row tq2.2
 have e1 : (if row = 0 then 6 - q1 else q1) = eA us row a.toNat := by unfold eA; rw [x3]
 have e2' : (if row = 0 then 6 - q2 else q2) = eA us row b.toNat := by unfold eA; rw [y3]
 rw [e1] at R1
 rw [e2'] at R2
 have b1 := eA_bd h'.2 (row := row) (a := a.toNat) (by omega)
 have b2 := eA_bd h'.2 (row := row) (a := b.toNat) (by omega)
 have t1 := tq1.1
 have t2 := tq2.1
 simp only at t1 t2
 have I := c_impl_isLess c1 (eA us row a.toNat) c2 (eA us row b.toNat) ⟨Int.mul_nonneg (by omega) (by omega),Int.le_trans (Int.mul_le_mul (show c1 ≤ 9 by omega) (show eA us row b.toNat ≤ 5 by omega) (by omega) (by omega)) (by omega)⟩ ⟨Int.mul_nonneg (by omega) (by omega),Int.le_trans (Int.mul_le_mul (show c2 ≤ 9 by omega) (show eA us row a.toNat ≤ 5 by omega) (by omega) (by omega)) (by omega)⟩
 have e : (!(rLe us row b a)) = decide (c1 * eA us row b.toNat < c2 * eA us row a.toNat) := by
  unfold rLe
  rw [← x2,← y2]
  by_cases hc : c2 * eA us row a.toNat ≤ c1 * eA us row b.toNat
  ·rw [decide_eq_true hc,decide_eq_false (by omega)]; rfl
  ·rw [decide_eq_false hc,decide_eq_true (by omega)]; rfl
 rw [e]
 have ha1 := ha.1
 have ha2 := ha.2
 have hb1 := hb.1
 have hb2 := hb.2
 rw [call_k lf n_impl_RatioOrder_1 _ (F := F_impl_RatioOrder_1) rfl rfl]
 simp [F_impl_RatioOrder_1,x1,y1,R1,R2,I]
theorem c_Insert (es : List DV) (x : DV) {n : Nat} (hn : n ≤ es.length) (hb : es.length ≤ 1000) : call lf n_slices_Insert_int_int [.gv 1 es,.i n,.gv 1 [x]] = some (.fr 1 (es.take n ++ x :: es.drop n),[]) := by
 rw [call_prim lf n_slices_Insert_int_int _ (F := F_slices_Insert_int_int) rfl rfl,ins_k,if_pos ⟨by omega,by omega,by simp [bound]; omega,by simp⟩]
 simp
def stIs (us : List T) (row k : Int) (L : List Int) (a : Nat) : LS := ⟨[(0,.own 14 L.length 0 L.length),(1,.i k),(2,.fn n_impl_RatioOrder_1 [.adr (.sl 0 (us.map e2)),.adr (.i row)]),(7,.i a)],[(14,L.map .i)]⟩
set_option maxHeartbeats 4000000 in
theorem ins_loop {us : List T} (h : tsOk us = true) (row : Int) {k : Int} (hk : 0 ≤ k ∧ k < us.length) {L : List Int} (hL : L.length ≤ 5) {p : Nat} (H : ∀ j (hj : j < L.length),(0 ≤ L[j] ∧ L[j] < us.length) ∧ rLe us row L[j] k = decide (j < p)) : ∀ d : Nat,p + d ≤ L.length →
  ex lf F_impl_inserted_int_W0 (stIs us row k L (p + d)) = some (.exit 0,stIs us row k L p) := by
 have tk : List.take L.length (L.map DV.i) = L.map .i := List.take_of_length_le (by simp)
 have one : ∀ (j : Nat) (hj : j < L.length),atI (L.map DV.i) ((j : Nat) : Int) = some (.i L[j]) ∧ atN (L.map DV.i) j = some (.i L[j]) ∧ wr (((j + 1 : Nat) : Int) - 1) = (j : Nat) ∧ (0 : Int) < ((j + 1 : Nat) : Int) ∧ call lf n_impl_RatioOrder_1 [.i k,.i L[j],.adr (.sl 0 (us.map e2)),.adr (.i row)] = some (.b (!(decide (j < p))),[]) := by
  intro j hj
  obtain ⟨h1,h2⟩ := H j hj
  refine ⟨?_,?_,?_,by omega,?_⟩
  ·simp only [atI,if_pos (Int.natCast_nonneg _)]
   show (L.map DV.i)[((j : Nat) : Int).toNat]? = _
   rw [Int.toNat_natCast]; simp [hj]
  ·show (L.map DV.i)[j]? = _
   simp [hj]
  ·rw [wr_id (by omega) (by omega)]; omega
  ·rw [c_impl_less h row hk h1,h2]
 intro d
 induction d with
 | zero =>
  intro hd
  cases p with
  | zero =>
   rw [w_impl_inserted_int_0]
   simp [stIs,F_impl_inserted_int_L0]
  | succ p =>
   obtain ⟨q1,q2,q3,q4,q5⟩ := one p (by omega)
   rw [decide_eq_true (show p < p + 1 by omega)] at q5
   have hp : p < L.length := by omega
   rw [w_impl_inserted_int_0]
   simp [stIs,F_impl_inserted_int_L0,tk,q1,q2,q3,q4,q5,hp,-Int.natCast_add]
 | succ d ih =>
  intro hd
  obtain ⟨q1,q2,q3,q4,q5⟩ := one (p + d) (by omega)
  rw [decide_eq_false (show ¬ p + d < p by omega)] at q5
  have hp : p + d < L.length := by omega
  have I := ih (by omega)
  rw [w_impl_inserted_int_0,show p + (d + 1) = p + d + 1 by omega]
  unfold stIs at *
  simp [F_impl_inserted_int_L0,tk,q1,q2,q3,q4,q5,hp,I,-Int.natCast_add]
theorem c_impl_inserted {us : List T} (h : tsOk us = true) (row : Int) {k : Int} (hk : 0 ≤ k ∧ k < us.length) {L : List Int} (hL : L.length ≤ 5) {p : Nat} (hp : p ≤ L.length) (H : ∀ j (hj : j < L.length),(0 ≤ L[j] ∧ L[j] < us.length) ∧ rLe us row L[j] k = decide (j < p)) :
  call lf n_impl_inserted_int [.gv 1 (L.map .i),.i k,.fn n_impl_RatioOrder_1 [.adr (.sl 0 (us.map e2)),.adr (.i row)]] = some (.fr 1 ((L.take p ++ k :: L.drop p).map .i),[]) := by
 have W := ins_loop h row hk hL H (L.length - p) (by omega)
 rw [show p + (L.length - p) = L.length by omega] at W
 unfold stIs at W
 have I := c_Insert (L.map .i) (.i k) (n := p) (by simpa using hp) (by simp; omega)
 have e : (L.map DV.i).take p ++ DV.i k :: (L.map DV.i).drop p = (L.take p ++ k :: L.drop p).map .i := by simp
 rw [e] at I
 have le : (L.take p ++ k :: L.drop p).length = L.length + 1 := by simp; omega
 rw [call_k lf n_impl_inserted_int _ (F := F_impl_inserted_int) rfl rfl]
 generalize L.take p ++ k :: L.drop p = M at *
 simp [F_impl_inserted_int,W,I]
theorem rO_split {us : List T} (h : tsOk us = true) (row : Int) {i : Nat} (hi : i < us.length) : ∀ j (hj : j < (rO us row i).length),(0 ≤ (rO us row i)[j] ∧ (rO us row i)[j] < us.length) ∧ rLe us row (rO us row i)[j] i = decide (j < insPos us row i (rO us row i)) := by
 have h' := tsOk_iff.1 h
 have S := rO_sorted h'.2 row i (by omega)
 have M : ∀ o ∈ rO us row i,0 ≤ o ∧ o < us.length := fun o ho => by have := rO_mem ho; omega
 generalize rO us row i = L at *
 intro j hj
 refine ⟨M _ (List.getElem_mem hj),?_⟩
 induction L generalizing j with
 | nil => simp at hj
 | cons o r ih =>
  obtain ⟨p1,p2⟩ := List.pairwise_cons.1 S
  have ih := ih p2 (fun o ho => M o (List.mem_cons_of_mem _ ho))
  by_cases hc : rLe us row o i = true
  ·have e : insPos us row i (o :: r) = insPos us row i r + 1 := by simp only [insPos]; rw [if_pos hc]
   rw [e]
   cases j with
   | zero => simp [hc]
   | succ j =>
    have := ih j (by simpa using hj)
    rw [List.getElem_cons_succ,this]
    simp
  ·have e : insPos us row i (o :: r) = 0 := by simp only [insPos]; rw [if_neg hc]
   rw [e]
   have hf : rLe us row o i = false := by simpa using hc
   cases j with
   | zero => simp [hf]
   | succ j =>
    rw [List.getElem_cons_succ]
    have hj' : j < r.length := by simpa using hj
    have hm := M _ (List.mem_cons_self ..)
    have hr := M _ (List.mem_cons_of_mem _ (List.getElem_mem hj'))
    cases hq : rLe us row r[j] i with
    | false => simp
    | true =>
     have := rLe_trans h'.2 (row := row) (a := o) (b := r[j]) (c := (i : Int)) (by omega) (by omega) (by omega) (p1 _ (List.getElem_mem hj')) hq
     rw [hf] at this; cases this
def stOi (us : List T) (row : Int) (K : Nat) (L : List Int) (i : Nat) : LS := ⟨[(5,.fn n_impl_RatioOrder_1 [.adr (.sl 0 (us.map e2)),.adr (.i row)]),(6,.own K L.length 0 L.length),(18,.i us.length),(19,.i i)],[(K,L.map .i)]⟩
set_option maxHeartbeats 4000000 in
theorem ratio_outerI {us : List T} (h : tsOk us = true) (row : Int) (j : Nat) : ∀ (i K : Nat),(K = 3080 ∨ K = 12808) → i + j = us.length →
  ex lf F_impl_RatioOrder_W0 (stOi us row K (rO us row i) i) = some (.exit 0,stOi us row 3080 (rO us row us.length) us.length) := by
 have h' := tsOk_iff.1 h
 induction j with
 | zero =>
  intro i K hK hi
  have e : i = us.length := by omega
  subst e
  rw [w_impl_RatioOrder_0]
  rcases hK with rfl | rfl <;> simp [stOi,F_impl_RatioOrder_L0]
 | succ j ih =>
  intro i K hK hi
  have k2 := ih (i + 1) 12808 (.inr rfl) (by omega)
  have hlt : i < us.length := by omega
  have ll := rO_len us row i
  have pl := insPos_le us row i (rO us row i)
  have I := c_impl_inserted h row (k := (i : Nat)) ⟨by omega,by omega⟩ (L := rO us row i) (by omega) pl (rO_split h row hlt)
  rw [← insR_pos us row i (rO us row i),show insR us row i (rO us row i) = rO us row (i + 1) from rfl] at I
  have l2 := rO_len us row (i + 1)
  have w1 : wr ((i : Int) + 1) = ((i + 1 : Nat) : Int) := by rw [wr_id (by omega) (by omega)]; omega
  have lt' : (i : Int) < us.length := by omega
  unfold stOi at *
  rw [l2] at k2
  rw [ll]
  have m1 : ((rO us row i).map DV.i).length = i := by simp [ll]
  have m2 : ((rO us row (i + 1)).map DV.i).length = i + 1 := by simp [l2]
  have lm : lendL ((rO us row i).map DV.i) = (rO us row i).map .i := by simp
  have am : ∀ b,adoptL b ((rO us row (i + 1)).map DV.i) = (rO us row (i + 1)).map .i := fun b => by simp
  rw [w_impl_RatioOrder_0]
  generalize (rO us row i).map DV.i = M at *
  generalize (rO us row (i + 1)).map DV.i = M2 at *
  rcases hK with rfl | rfl <;> simp [F_impl_RatioOrder_L0,hlt,lt',I,w1,k2,m1,m2,lm,am,-Int.natCast_add]
theorem c_impl_RatioOrder (us : List T) (row : Int) (ha : (us.length : Int) < 1099511627776) : call lf n_impl_RatioOrder [.sl 0 (us.map e2),.i row] = some (.fr 1 ((roL us row).map .i),[]) := by
 rw [call_k lf n_impl_RatioOrder _ (F := F_impl_RatioOrder) rfl rfl]
 have C1 := c_impl_TestsOk us ha
 have C2 := c_impl_rowOk row
 unfold roL
 cases h1 : tsOk us with
 | false => rw [h1] at C1; simp [F_impl_RatioOrder,C1]
 | true =>
  rw [h1] at C1
  cases h2 : rwOk row with
  | false => rw [h2] at C2; simp [F_impl_RatioOrder,C1,C2]
  | true =>
   rw [h2] at C2
   have L := ratio_outerI h1 row us.length 0 3080 (.inl rfl) (by omega)
   unfold stOi at L
   have z : (rO us row 0).map DV.i = [] := rfl
   have z' : (rO us row 0).length = 0 := rfl
   rw [z,z'] at L
   simp only [Int.natCast_zero] at L
   have ll := rO_len us row us.length
   rw [ll] at L
   simp [F_impl_RatioOrder,C1,C2,L,ll]
end
section
attribute [-simp] DV.cells
attribute [local simp] sliceD cells_st cells_sl cells_i cells_y cells_b cells_s cells_w
attribute [local simp] lend_eR al_eR
theorem eA_one (us : List T) (k : Nat) : eA us 1 ((k : Nat) : Int).toNat = pA us k := by unfold eA pA; simp
theorem insT_insR (us : List T) (k : Nat) : ∀ l : List Nat,(∀ o ∈ l,o < k) → ni (insT us k l) = insR us 1 k (ni l)
 | [],_ => rfl
 | o :: r,h => by
  have ho := h o (by simp)
  have ih := insT_insR us k r (fun x hx => h x (by simp [hx]))
  simp only [insT]
  show _ = insR us 1 (k : Int) ((o : Int) :: ni r)
  have er : rLe us 1 (o : Int) (k : Int) = decide (cA us o * pA us k ≤ cA us k * pA us o) := by
   unfold rLe
   rw [eA_one,eA_one,Int.toNat_natCast,Int.toNat_natCast]
  simp only [insR]
  by_cases hc : cA us o * pA us k ≤ cA us k * pA us o
  ·rw [if_neg (by omega),if_pos (er.trans (decide_eq_true hc)),← ih]; rfl
  ·rw [if_pos (by omega),if_neg (by rw [er]; simpa using hc)]; rfl
theorem rO_inT (us : List T) : ∀ n : Nat,rO us 1 n = ni (inT us (List.range n))
 | 0 => rfl
 | n + 1 => by
  have e : inT us (List.range (n + 1)) = insT us n (inT us (List.range n)) := by
   unfold inT
   rw [List.range_succ,List.foldl_append]; rfl
  rw [e,insT_insR us n _ (fun o ho => by have := (inT_perm us _).mem_iff.1 ho; simpa using this),← rO_inT us n]
  rfl
theorem srt_uniq {us : List T} : ∀ {a b : List Nat},a.Perm b → a.Pairwise (fun x y => ¬ tLt us y x) → b.Pairwise (fun x y => ¬ tLt us y x) → a = b
 | [],b,hp,_,_ => by rw [List.nil_perm.1 hp]
 | x :: a,[],hp,_,_ => by have := hp.length_eq; simp at this
 | x :: a,y :: b,hp,ha,hb => by
  obtain ⟨a1,a2⟩ := List.pairwise_cons.1 ha
  obtain ⟨b1,b2⟩ := List.pairwise_cons.1 hb
  by_cases e : x = y
  ·subst e
   rw [srt_uniq hp.cons_inv a2 b2]
  ·exfalso
   have hx : x ∈ b := by
    rcases List.mem_cons.1 (hp.mem_iff.1 (List.mem_cons_self (a := x) (l := a))) with h | h
    ·exact absurd h e
    ·exact h
   have hy : y ∈ a := by
    rcases List.mem_cons.1 (hp.symm.mem_iff.1 (List.mem_cons_self (a := y) (l := b))) with h | h
    ·exact absurd h.symm e
    ·exact h
   have h1 := a1 y hy
   have h2 := b1 x hx
   unfold tLt at h1 h2
   omega
theorem inT_srt {us : List T} (h : us.all tOk = true) {l : List Nat} (hl : ∀ k ∈ l,k < us.length) : (inT us l).Pairwise (fun x y => ¬ tLt us y x) :=
 inT_tA h l [] hl (fun k hk => by cases hk) List.Pairwise.nil
theorem filter_inT {us : List T} (h : us.all tOk = true) {g : List Nat} (nd : g.Nodup) (hg : ∀ k ∈ g,k < us.length) : (inT us (List.range us.length)).filter (fun k => g.contains k) = inT us g := by
 refine srt_uniq ?_ ((inT_srt h (fun k hk => List.mem_range.1 hk)).filter _) (inT_srt h hg)
 refine ((inT_perm us _).filter _).trans (List.Perm.trans ?_ (inT_perm us g).symm)
 refine (List.perm_ext_iff_of_nodup (List.nodup_range.filter _) nd).2 fun k => ?_
 rw [List.mem_filter,List.mem_range]
 constructor
 ·rintro ⟨_,h2⟩; simpa using h2
 ·intro hk; exact ⟨hg k hk,by simpa using hk⟩
def memT (us : List T) (row : List Nat) : List T := row.map fun k => us.getD k (0,0)
theorem memT_len (us : List T) (row : List Nat) : (memT us row).length = row.length := by simp [memT]
theorem memT_app (us : List T) (row : List Nat) (k : Nat) : (memT us (row ++ [k])).map e2 = (memT us row).map e2 ++ [.st [.i (cA us k),.i (pA us k)]] := by
 unfold memT
 rw [List.map_append,List.map_append]; rfl
theorem memT_ok {us : List T} (h : tsOk us = true) {row : List Nat} (hr : ∀ k ∈ row,k < us.length) (h1 : 1 ≤ row.length) (h5 : row.length ≤ 5) : tsOk (memT us row) = true := by
 have h' := tsOk_iff.1 h
 rw [tsOk_iff,memT_len,List.all_eq_true]
 refine ⟨by omega,fun t ht => ?_⟩
 obtain ⟨k,hk,rfl⟩ := List.mem_map.1 ht
 have hk' := hr k hk
 have e : us.getD k (0,0) = us[k] := by simp [List.getD,hk']
 rw [e]
 exact List.all_eq_true.1 h'.2 _ (List.getElem_mem hk')
theorem memT_it (us : List T) (row : List Nat) : (List.range row.length).map (itT (memT us row)) = row.map (itT us) := by
 apply List.ext_getElem
 ·simp
 ·intro i h1 h2
  have hi : i < row.length := by simpa using h1
  have e : (memT us row).getD i (0,0) = us.getD row[i] (0,0) := by
   unfold memT
   rw [List.getD_eq_getElem?_getD,List.getElem?_map,List.getElem?_eq_getElem hi]; rfl
  simp only [List.getElem_map,List.getElem_range]
  unfold itT cA pA
  rw [e]
theorem memT_cost {us : List T} (h : tsOk us = true) {row : List Nat} (hr : ∀ k ∈ row,k < us.length) (h1 : 1 ≤ row.length) (h5 : row.length ≤ 5) : raOf (memT us row) (roL (memT us row) 1) 1 = grC us row := by
 have hm := memT_ok h hr h1 h5
 have hm' := tsOk_iff.1 hm
 have e1 : roL (memT us row) 1 = rO (memT us row) 1 (memT us row).length := by unfold roL; rw [hm]; rfl
 have e2' : raOk (memT us row) (rO (memT us row) 1 (memT us row).length) 1 = true := by
  unfold raOk
  rw [hm,rO_ok hm]; rfl
 rw [e1]
 unfold raOf
 rw [e2',if_pos rfl,← grC_all hm'.2 (List.Perm.refl _)]
 unfold grC
 rw [memT_len,memT_it]
theorem memT_none : ∀ (us : List T) (row : List Nat),pN (memT us row) = grN us row
 | us,[] => rfl
 | us,k :: r => by
  show (6 - (us.getD k (0,0)).2) * pN (memT us r) = _
  rw [memT_none us r]; rfl
theorem memT_wt {us : List T} (h : tsOk us = true) {row : List Nat} (hr : ∀ k ∈ row,k < us.length) (h1 : 1 ≤ row.length) (h5 : row.length ≤ 5) : wtOf (memT us row) 0 = grN us row := by
 have hm := memT_ok h hr h1 h5
 have l := memT_len us row
 have s : stOk (memT us row).length 0 = true := stOk_iff.2 ⟨by omega,by omega,Int.pow_pos (by omega)⟩
 have := wt_none (memT us row)
 rw [memT_none] at this
 unfold wtOf
 rw [hm,s]
 exact this
theorem l_Index (a : Int) (A : List Int) (hA : (A.length : Int) < 1099511627776) : ∀ (r : List Int) (k : Nat),A.drop k = r → k + r.length = A.length →
  (r.contains a = true → ∃ j : Nat,ex lf F_slices_Index_int_int_W0 ⟨[(0,.sl 0 (A.map .i)),(1,.i a),(7,.i A.length),(8,.i k)],[]⟩ = some (.ret,⟨[(4,.i j)],[]⟩)) ∧
  (r.contains a = false → ex lf F_slices_Index_int_int_W0 ⟨[(0,.sl 0 (A.map .i)),(1,.i a),(7,.i A.length),(8,.i k)],[]⟩ = some (.exit 0,⟨[(0,.sl 0 (A.map .i)),(1,.i a),(7,.i A.length),(8,.i A.length)],[]⟩)) := by
 intro r
 induction r with
 | nil =>
  intro k hd hk
  have e : k = A.length := by simpa using hk
  subst e
  refine ⟨fun h => by simp at h,fun _ => ?_⟩
  rw [w_slices_Index_int_int_0]
  simp [F_slices_Index_int_int_L0]
 | cons b r ih0 =>
  intro k hd hk
  obtain ⟨k1,k2,k3⟩ := drop_cons hd
  have k1' : (k : Int) < A.length := by omega
  have at1 := atI_int k2
  simp only [List.length_cons] at hk
  have w1 := wr_succ (k := k) (by omega)
  have ih := ih0 (k + 1) k3 (by omega)
  by_cases h : a = b
  ·subst h
   refine ⟨fun _ => ⟨k,?_⟩,fun h => by simp at h⟩
   rw [w_slices_Index_int_int_0]
   simp [F_slices_Index_int_int_L0,k1,k1',at1]
  ·have hb : (a == b) = false := by simp [h]
   have hc : (b :: r).contains a = r.contains a := by rw [List.contains_cons,hb,Bool.false_or]
   rw [hc]
   refine ⟨fun q => ?_,fun q => ?_⟩
   ·obtain ⟨j,hj⟩ := ih.1 q
    refine ⟨j,?_⟩
    rw [w_slices_Index_int_int_0]
    simp [F_slices_Index_int_int_L0,k1,k1',at1,hb,w1,hj,-Int.natCast_add]
   ·have hj := ih.2 q
    rw [w_slices_Index_int_int_0]
    simp [F_slices_Index_int_int_L0,k1,k1',at1,hb,w1,hj,-Int.natCast_add]
theorem c_Contains (a : Int) (A : List Int) (hA : (A.length : Int) < 1099511627776) : call lf n_slices_Contains_int_int [.sl 0 (A.map .i),.i a] = some (.b (A.contains a),[]) := by
 rw [call_k lf n_slices_Contains_int_int _ (F := F_slices_Contains_int_int) rfl rfl]
 have I := l_Index a A hA A 0 rfl (by simp)
 simp only [Int.natCast_zero] at I
 cases h : A.contains a with
 | true =>
  obtain ⟨j,hj⟩ := I.1 h
  have C : call lf n_slices_Index_int_int [.sl 0 (A.map .i),.i a] = some (.i j,[]) := by
   rw [call_k lf n_slices_Index_int_int _ (F := F_slices_Index_int_int) rfl rfl]
   simp [F_slices_Index_int_int,hj]
  simp [F_slices_Contains_int_int,C]
 | false =>
  have hj := I.2 h
  have C : call lf n_slices_Index_int_int [.sl 0 (A.map .i),.i a] = some (.i (-1),[]) := by
   rw [call_k lf n_slices_Index_int_int _ (F := F_slices_Index_int_int) rfl rfl]
   simp [F_slices_Index_int_int,hj]
  simp [F_slices_Contains_int_int,C]
theorem ni_contains (g : List Nat) (k : Nat) : (ni g).contains (k : Int) = g.contains k := by
 rw [Bool.eq_iff_iff,List.contains_iff_mem,List.contains_iff_mem]
 unfold ni
 rw [List.mem_map]
 constructor
 ·rintro ⟨a,ha,e⟩
  have : a = k := by omega
  exact this ▸ ha
 ·intro h; exact ⟨k,h,rfl⟩
def rowAt (R g : List Nat) (i : Nat) : List Nat := (R.take i).filter fun k => g.contains k
def stGf (us : List T) (R g : List Nat) (i : Nat) : LS :=
 ⟨[(0,.sl 0 (us.map e2)),(1,.sl 0 ((ni g).map .i)),(4,.oad 2080 1 0 0),(5,.own 2568 (rowAt R g i).length 0 (rowAt R g i).length),(6,.own 3088 (rowAt R g i).length 0 (rowAt R g i).length),(12,.own 6152 R.length 0 R.length),(13,.i R.length),(14,.i i)],
  [(2080,[.st [.i 0,.i 0,.sl 1 [],.i 0]]),(2568,(ni (rowAt R g i)).map .i),(3088,(memT us (rowAt R g i)).map e2),(6152,(ni R).map .i)]⟩
set_option maxHeartbeats 8000000 in
theorem gf_loop (us : List T) (R g : List Nat) (hR : R.length ≤ 5) (hg : (g.length : Int) < 1099511627776) (hu : ∀ k ∈ R,k < us.length) : ex lf F_impl_groupOf_W0 (stGf us R g 0) = some (.exit 0,stGf us R g R.length) := by
 refine loop_count R.length (fun i => stGf us R g i) (fun i hi => ?_) ?_ (by simp)
 ·have hk : R[i]? = some R[i] := List.getElem?_eq_getElem hi
  have hku := hu _ (List.getElem_mem hi)
  have l0 : (rowAt R g i).length ≤ i := by
   unfold rowAt
   exact Nat.le_trans (List.length_filter_le ..) (by simp; omega)
  have C := c_Contains (R[i] : Int) (ni g) (by rw [ni_len]; exact hg)
  rw [ni_contains] at C
  have sc : rowAt R g (i + 1) = rowAt R g i ++ (if g.contains R[i] = true then [R[i]] else []) := by
   unfold rowAt
   rw [List.take_add_one,hk,Option.toList_some,List.filter_append]
   congr 1
   by_cases hc : g.contains R[i] = true
   ·rw [List.filter_cons_of_pos hc,if_pos hc]; rfl
   ·rw [List.filter_cons_of_neg hc,if_neg hc]; rfl
  obtain ⟨a1,a2⟩ := at_ni hk
  have t1 := atT hku
  have nR := ni_len R
  have w1 := wr_succ (k := i) (by omega)
  have hi' : (i : Int) < R.length := by omega
  have ma := memT_app us (rowAt R g i) R[i]
  have na : (ni (rowAt R g i ++ [R[i]])).map DV.i = (ni (rowAt R g i)).map .i ++ [.i (R[i] : Int)] := by rw [ni_app,List.map_append]; rfl
  have l1 := ni_len (rowAt R g i)
  have l2 := memT_len us (rowAt R g i)
  have b1 : (rowAt R g i).length + 1 ≤ bound := by unfold bound; omega
  unfold stGf
  rw [sc]
  have tkR : List.take R.length ((ni R).map DV.i) = (ni R).map .i := List.take_of_length_le (by simp [nR])
  have tk1 : List.take (rowAt R g i).length ((ni (rowAt R g i)).map DV.i) = (ni (rowAt R g i)).map .i := List.take_of_length_le (by simp [l1])
  have tk2 : List.take (rowAt R g i).length ((memT us (rowAt R g i)).map e2) = (memT us (rowAt R g i)).map e2 := List.take_of_length_le (by simp [l2])
  generalize rowAt R g i = Q at *
  generalize R[i] = k at *
  by_cases hc : g.contains k = true
  ·rw [if_pos hc,ma,na]
   rw [hc] at C
   simp [F_impl_groupOf_L0,hi,hi',nR,a1,a2,C,t1,hku,w1,l1,l2,b1,tkR,-Int.natCast_add]
  ·rw [if_neg hc]
   have hc' : g.contains k = false := by simpa using hc
   rw [hc'] at C
   simp [F_impl_groupOf_L0,hi,hi',nR,a1,a2,C,t1,hku,w1,l1,l2,b1,tkR,-Int.natCast_add]
 ·simp [stGf,F_impl_groupOf_L0]
set_option maxHeartbeats 8000000 in
theorem c_impl_groupOf {us : List T} (h : tsOk us = true) {g : List Nat} (h1 : 1 ≤ g.length) (h5 : g.length ≤ 5) (nd : g.Nodup) (hg : ∀ k ∈ g,k < us.length) :
  call lf n_impl_groupOf [.sl 0 (us.map e2),.sl 0 ((ni g).map .i)] = some (.st [.i (grC us g),.i (grN us g),.sl 1 ((ni (inT us g)).map .i),.i (6 ^ g.length)],[]) := by
 rw [call_k lf n_impl_groupOf _ (F := F_impl_groupOf) rfl rfl]
 have h' := tsOk_iff.1 h
 have RO := c_impl_RatioOrder us 1 (by omega)
 have er : roL us 1 = ni (inT us (List.range us.length)) := by
  unfold roL
  rw [h,← rO_inT]; rfl
 rw [er] at RO
 have lR : (inT us (List.range us.length)).length = us.length := by rw [(inT_perm us _).length_eq,List.length_range]
 have I := gf_loop us (inT us (List.range us.length)) g (by omega) (by omega) (fun k hk => List.mem_range.1 ((inT_perm us _).mem_iff.1 hk))
 have e0 : ∀ R : List Nat,rowAt R g 0 = [] := fun R => by simp [rowAt]
 have e9 : rowAt (inT us (List.range us.length)) g (inT us (List.range us.length)).length = inT us g := by
  unfold rowAt
  rw [List.take_length,filter_inT h'.2 nd hg]
 unfold stGf at I
 rw [e0,e9] at I
 have il : (inT us g).length = g.length := (inT_perm us g).length_eq
 have im : ∀ k ∈ inT us g,k < us.length := fun k hk => hg k ((inT_perm us g).mem_iff.1 hk)
 have gc : grC us (inT us g) = grC us g := grC_perm h'.2 hg (inT_perm us g)
 have gn : grN us (inT us g) = grN us g := grN_perm (inT_perm us g)
 have ml := memT_len us (inT us g)
 have R2 := c_impl_RatioOrder (memT us (inT us g)) 1 (by omega)
 have A2 := c_impl_RowAverage (memT us (inT us g)) (roL (memT us (inT us g)) 1) 1 (by omega) (by
  unfold roL
  split
  ·rw [rO_len]; omega
  ·simp)
 rw [memT_cost h im (by omega) (by omega),gc] at A2
 have W2 := c_impl_WeightOf (memT us (inT us g)) 0 (by omega)
 rw [memT_wt h im (by omega) (by omega),gn] at W2
 have H2 := c_impl_wholeOf h5
 have nR := ni_len (inT us (List.range us.length))
 have nl := ni_len (inT us g)
 generalize hq : roL (memT us (inT us g)) 1 = Q at *
 have lq : Q.length = g.length := by
  rw [← hq]
  unfold roL
  rw [memT_ok h im (by omega) (by omega),show rwOk 1 = true from rfl,Bool.true_and,if_pos rfl,rO_len,ml,il]
 have z : ni [] = [] := rfl
 have z2 : memT us [] = [] := rfl
 rw [z,z2,lR] at I
 simp only [Int.natCast_zero,List.length_nil,List.map_nil,il] at I
 rw [il] at nl ml
 rw [lR] at nR
 generalize memT us (inT us g) = M at *
 generalize inT us g = J at *
 generalize inT us (List.range us.length) = Y at *
 have tk1 : List.take g.length ((ni J).map DV.i) = (ni J).map .i := List.take_of_length_le (by simp [nl])
 have tk2 : List.take g.length (M.map e2) = M.map e2 := List.take_of_length_le (by simp [ml])
 have tk3 : List.take us.length ((ni Y).map DV.i) = (ni Y).map .i := List.take_of_length_le (by simp [nR])
 have tk4 : List.take g.length (Q.map DV.i) = Q.map .i := List.take_of_length_le (by simp [lq])
 generalize (6 : Int) ^ g.length = P6 at *
 simp [F_impl_groupOf,RO,I,R2,A2,W2,H2,nR,nl,ml,lq,tk1,tk2,tk3,tk4,-Int.natCast_add]
end
section
def ci (ts : List Int) (i : Nat) : List DV := (ts.take i).map .i ++ List.replicate (ts.length - i) (.i 0)
end
section
attribute [-simp] DV.cells
attribute [local simp] sliceD cells_st cells_sl cells_i cells_y cells_b cells_s cells_w
attribute [local simp] lend_eR al_eR
def eN (r : List Int) : DV := .sl 1 (r.map .i)
theorem lend_eN (L : List (List Int)) : lendL (L.map eN) = L.map eR := by
 rw [lendL_map,List.map_map]
 apply List.map_congr_left
 intro r _
 simp [eN,eR,DV.lend]
theorem adopt_eN (o : Bool) (L : List (List Int)) : adoptL o (L.map eN) = L.map eN := by
 rw [adoptL_map,List.map_map]
 apply List.map_congr_left
 intro r _
 simp [eN,DV.adopt,adoptP]
theorem new_eN (L : List (List Int)) : allNewL (L.map eN) = true := by
 rw [allNewL_all,List.all_map,List.all_eq_true]
 intro r _
 simp [eN,DV.allNew,newP]
attribute [local simp] lend_eN adopt_eN new_eN
def cN (A : List (List Int)) (i : Nat) : List DV := (A.take i).map eN ++ List.replicate (A.length - i) (.sl 1 [])
end
section
attribute [-simp] DV.cells
attribute [local simp] sliceD cells_st cells_sl cells_i cells_y cells_b cells_s cells_w
attribute [local simp] lend_eR al_eR lend_eN adopt_eN new_eN
theorem cells_cel (k n : Nat) : (DV.cel k n).cells = [.cel k n] := rfl
theorem noc_i (xs : List Int) : noCelL (xs.map DV.i) = true := by rw [noCelL_all,List.all_map,List.all_eq_true]; intro x _; rfl
theorem noc_y (xs : List Nat) : noCelL (xs.map DV.y) = true := by rw [noCelL_all,List.all_map,List.all_eq_true]; intro x _; rfl
theorem noc_eN (L : List (List Int)) : noCelL (L.map eN) = true := by
 rw [noCelL_all,List.all_map,List.all_eq_true]
 intro x _
 show noCelL (x.map DV.i) = true
 exact noc_i x
theorem c_odd0 (bs : List Nat) (p : Int) : call lf n_spec_l20Rd_odd [.ref (.st [.sl 0 (bs.map .y),.i p]),.i 0] = some (.b false,[.st [.sl 0 (bs.map .y),.i p]]) := by
 rw [call_k lf n_spec_l20Rd_odd _ (F := F_spec_l20Rd_odd) rfl rfl]
 simp [F_spec_l20Rd_odd]
theorem c_l20OrderG {bs : List Nat} (hb : ∀ y ∈ bs,y < 256) (hl : bs.length ≤ 2000) {p : Int} {m : Nat} (h0 : 0 ≤ p) (h1 : p < 700000) (hm : m ≤ 5) :
  ∃ us : List Int,us.length = m ∧ call lf n_spec_l20Order [.ref (.st [.sl 0 (bs.map .y),.i p]),.i m,.i 0] = some (.fr 1 (us.map .i),[.st [.sl 0 (bs.map .y),.i (p + m)]]) := by
 obtain ⟨us,u1,L⟩ := l_l20Order hb hl m hm 0 m 0 p 5640 [] (.inl rfl) h0 (by omega) (by omega) (by rfl)
 have lu := perm_len u1
 simp only [Int.natCast_zero,List.map_nil] at L
 have k2 := c_odd0 bs (p + m)
 refine ⟨us,lu,?_⟩
 rw [call_k lf n_spec_l20Order _ (F := F_spec_l20Order) rfl rfl]
 generalize hq : p + (m : Int) = q at *
 simp [F_spec_l20Order,L,k2,lu]
attribute [local simp] cells_cel noc_i noc_y noc_eN noCelE noCelO noCelL DV.noCel
/-- the rows that are done,the row that grows -/
def stG2 (bs : List Nat) (n : Int) (os : List Int) (init : List (List Int)) (last : List Int) (i : Nat) (p : Int) : LS :=
 ⟨[(0,.oad 23 1 0 0),(2,.i n),(7,.own 6664 os.length 0 os.length),(8,.own 7176 (init.length + 1) 0 (init.length + 1)),(9,.i i)],
  [(23,[.st [.sl 0 (bs.map .y),.i p]]),(6664,os.map .i),(7176,init.map eN ++ [.cel 15373 last.length]),(15373,last.map .i)]⟩
set_option maxHeartbeats 8000000 in
theorem g2_step {bs : List Nat} (n : Int) (os : List Int) (hos : os.length ≤ 5) (init : List (List Int)) (last : List Int) {i : Nat} {a : Int} (hi : os[i]? = some a) (hil : init.length ≤ 5) (hl : last.length ≤ 5) {p : Int} {b : Bool}
  (k : call lf n_spec_l20Rd_pick [.ref (.st [.sl 0 (bs.map .y),.i p]),.i 2] = some (.i (if b then 0 else 1),[.st [.sl 0 (bs.map .y),.i (p + 1)]])) :
  ex lf F_spec_l20Groups_L0 (stG2 bs n os init last i p) = some (.normal,if b then stG2 bs n os (init ++ [last]) [a] (i + 1) (p + 1) else stG2 bs n os init (last ++ [a]) (i + 1) (p + 1)) := by
 have hlt : i < os.length := (List.getElem?_eq_some_iff.1 hi).1
 have hlt' : (i : Int) < os.length := by omega
 have w1 := wr_succ (k := i) (by omega)
 have a1 := atI_int hi
 have a2 : atN (os.map DV.i) i = some (.i a) := by
  show (os.map DV.i)[i]? = _
  rw [List.getElem?_map,hi]; rfl
 have tk : List.take os.length (os.map DV.i) = os.map .i := List.take_of_length_le (by simp)
 have r3 : ∀ (I : List (List Int)) (x : DV),atN (I.map eN ++ [x]) I.length = some x := fun I x => by
  show (I.map eN ++ [x])[I.length]? = _
  rw [List.getElem?_append_right (by simp)]
  simp
 have s3 : ∀ (I : List (List Int)) (x y : DV),(I.map eN ++ [x]).set I.length y = I.map eN ++ [y] := fun I x y => by
  rw [List.set_append_right _ _ (by simp)]
  simp
 cases b with
 | true =>
  have c1 : init.length + 1 + 1 ≤ bound := by unfold bound; omega
  have w2 : wr (((init.length + 1 + 1 : Nat) : Int) - 1) = ((init.length + 1 : Nat) : Int) := by rw [wr_id (by omega) (by omega)]; omega
  have e0 : (((init.length + 1 : Nat) : Int) == 0) = false := beq_false_of_ne (by omega)
  have r4 := r3 (init ++ [last]) (.cel 15373 0)
  have s4 := s3 (init ++ [last]) (.cel 15373 0) (.cel 15373 1)
  have sh : init.map eN ++ [DV.sl 1 (last.map .i)] = (init ++ [last]).map eN := by rw [List.map_append]; rfl
  have ln : (init ++ [last]).length = init.length + 1 := by simp
  have lM : ((init ++ [last]).map eN).length = init.length + 1 := by simp
  rw [ln] at r4 s4
  have cb : 1 ≤ bound := by unfold bound; omega
  have nM := noc_eN (init ++ [last])
  rw [if_pos rfl] at k
  simp only [if_true]
  unfold stG2
  rw [ln]
  generalize hM : (init ++ [last]).map eN = M at *
  have tkM : List.take (init.length + 1) M = M := List.take_of_length_le (by omega)
  simp [F_spec_l20Groups_L0,hlt,hlt',w1,w2,e0,k,a1,a2,tk,sh,lM,c1,r4,s4,cb,tkM,nM,-Int.natCast_add]
 | false =>
  have w2 : wr (((init.length + 1 : Nat) : Int) - 1) = (init.length : Nat) := by rw [wr_id (by omega) (by omega)]; omega
  have e0 : (((init.length + 1 : Nat) : Int) == 0) = false := beq_false_of_ne (by omega)
  have cb : last.length + 1 ≤ bound := by unfold bound; omega
  unfold stG2
  simp at k
  simp [F_spec_l20Groups_L0,hlt,hlt',w1,w2,e0,k,a1,a2,tk,r3,s3,cb,-Int.natCast_add]
set_option maxHeartbeats 8000000 in
theorem g2_first {bs : List Nat} (n : Int) {os : List Int} (hos : os.length ≤ 5) {a : Int} (hi : os[0]? = some a) (p : Int) :
  ex lf F_spec_l20Groups_L0 ⟨[(0,.oad 23 1 0 0),(2,.i n),(7,.own 6664 os.length 0 os.length),(8,.own 7176 0 0 0),(9,.i 0)],[(23,[.st [.sl 0 (bs.map .y),.i p]]),(6664,os.map .i),(7176,[])]⟩ = some (.normal,stG2 bs n os [] [a] 1 p) := by
 have hlt : 0 < os.length := (List.getElem?_eq_some_iff.1 hi).1
 have a1 := atI_int hi
 simp only [Int.natCast_zero] at a1
 have a2 : atN (os.map DV.i) 0 = some (.i a) := by
  show (os.map DV.i)[0]? = _
  rw [List.getElem?_map,hi]; rfl
 have tk : List.take os.length (os.map DV.i) = os.map .i := List.take_of_length_le (by simp)
 have cb : 1 ≤ bound := by unfold bound; omega
 have w1 : wr (1 : Int) = 1 := wr_id (by omega) (by omega)
 have w0 : wr (0 : Int) = 0 := wr_id (by omega) (by omega)
 unfold stG2
 simp [F_spec_l20Groups_L0,hlt,a1,a2,tk,cb,w0,w1]
theorem g2_loop {bs : List Nat} (hb : ∀ y ∈ bs,y < 256) (hl : bs.length ≤ 2000) (n : Int) (os : List Int) (hos : os.length ≤ 5) : ∀ (d i : Nat) (init : List (List Int)) (last : List Int) (p : Int),i + d = os.length → 1 ≤ i → init.length + 1 ≤ i → init.flatten.length + last.length = i → 0 ≤ p → p + d < 900000 →
  ∃ (init' : List (List Int)) (last' : List Int) (p' : Int),p ≤ p' ∧ p' ≤ p + d ∧ init'.length + 1 ≤ os.length ∧ init'.flatten.length + last'.length = os.length ∧
   ex lf F_spec_l20Groups_W0 (stG2 bs n os init last i p) = some (.exit 0,stG2 bs n os init' last' os.length p') := by
 intro d
 induction d with
 | zero =>
  intro i init last p hi h1 h2 h3 h4 h5
  have e : i = os.length := by omega
  subst e
  refine ⟨init,last,p,by omega,by omega,h2,h3,?_⟩
  rw [w_spec_l20Groups_0]
  simp [stG2,F_spec_l20Groups_L0]
 | succ d ih =>
  intro i init last p hi h1 h2 h3 h4 h5
  have hk : os[i]? = some os[i] := List.getElem?_eq_getElem (by omega)
  have k := c_pick hb hl (p := p) (n := 2) h4 (by omega) (by omega)
  have bd := pk_bound hb (p := p) (n := 2) h4 (by omega) (by omega)
  by_cases z : pk bs p 2 = 0
  ·rw [z] at k
   have S := g2_step n os hos init last hk (by omega) (by omega) (b := true) (p := p) (by simpa using k)
   obtain ⟨i',l',p',q1,q2,q3,q4,q5⟩ := ih (i + 1) (init ++ [last]) [os[i]] (p + 1) (by omega) (by omega) (by simp; omega) (by simp only [List.flatten_append,List.length_append,List.flatten_cons,List.flatten_nil,List.length_nil,List.length_singleton]; omega) (by omega) (by omega)
   refine ⟨i',l',p',by omega,by omega,q3,q4,?_⟩
   rw [w_spec_l20Groups_0,S]
   simpa using q5
  ·have z1 : pk bs p 2 = 1 := by omega
   rw [z1] at k
   have S := g2_step n os hos init last hk (by omega) (by omega) (b := false) (p := p) (by simpa using k)
   obtain ⟨i',l',p',q1,q2,q3,q4,q5⟩ := ih (i + 1) init (last ++ [os[i]]) (p + 1) (by omega) (by omega) (by omega) (by simp only [List.length_append,List.length_singleton]; omega) (by omega) (by omega)
   refine ⟨i',l',p',by omega,by omega,q3,q4,?_⟩
   rw [w_spec_l20Groups_0,S]
   simpa using q5
set_option maxHeartbeats 8000000 in
theorem c_l20Groups {bs : List Nat} (hb : ∀ y ∈ bs,y < 256) (hl : bs.length ≤ 2000) {p n : Int} {m : Nat} (h0 : 0 ≤ p) (h1 : p < 600000) (hm : m ≤ 5) (hn : 1 ≤ n) (hn2 : n ≤ 1000000) :
  ∃ (R : List (List Int)) (p' : Int),R.length ≤ 6 ∧ R.flatten.length ≤ 6 ∧ p ≤ p' ∧ p' ≤ p + 30 ∧ call lf n_spec_l20Groups [.ref (.st [.sl 0 (bs.map .y),.i p]),.i m,.i n] = some (.fr 1 (R.map eN),[.st [.sl 0 (bs.map .y),.i p']]) := by
 obtain ⟨os,lo,CO⟩ := c_l20OrderG hb hl (p := p) (m := m) h0 (by omega) hm
 obtain ⟨Q,q,S1,b1,b2,b3,b4,W,H⟩ : ∃ (Q : List (List Int)) (q : Int) (S1 : LS),Q.length ≤ 5 ∧ Q.flatten.length ≤ 5 ∧ p ≤ q ∧ q ≤ p + 15 ∧
   ex lf F_spec_l20Groups_W0 ⟨[(0,.oad 23 1 0 0),(2,.i n),(7,.own 6664 os.length 0 os.length),(8,.own 7176 0 0 0),(9,.i 0)],[(23,[.st [.sl 0 (bs.map .y),.i (p + m)]]),(6664,os.map .i),(7176,[])]⟩ = some (.exit 0,S1) ∧
   ∀ X : LC,ex lf (.ghost (.shut 8) X) S1 = ex lf X ⟨[(0,.oad 23 1 0 0),(2,.i n),(7,.own 6664 os.length 0 os.length),(8,.own 7176 Q.length 0 Q.length),(9,.i os.length)],[(23,[.st [.sl 0 (bs.map .y),.i q]]),(6664,os.map .i),(7176,Q.map eN)]⟩ := by
  cases os with
  | nil =>
   refine ⟨[],p + m,⟨[(0,.oad 23 1 0 0),(2,.i n),(7,.own 6664 0 0 0),(8,.own 7176 0 0 0),(9,.i 0)],[(23,[.st [.sl 0 (bs.map .y),.i (p + m)]]),(6664,[]),(7176,[])]⟩,by simp,by simp,by omega,by omega,?_,fun X => ?_⟩
   ·rw [w_spec_l20Groups_0]
    simp [F_spec_l20Groups_L0]
   ·simp
  | cons a os =>
   have S := g2_first (bs := bs) n (os := a :: os) (by omega) (a := a) rfl (p + m)
   have lo' : os.length + 1 = m := by simpa using lo
   obtain ⟨I,l,q,q1,q2,q3,q4,q5⟩ := g2_loop hb hl n (a :: os) (by omega) os.length 1 [] [a] (p + m) (by simp; omega) (by omega) (by simp) (by simp) (by omega) (by omega)
   refine ⟨I ++ [l],q,stG2 bs n (a :: os) I l (a :: os).length q,by simp only [List.length_append,List.length_singleton]; omega,by simp only [List.flatten_append,List.length_append,List.flatten_cons,List.flatten_nil,List.length_nil]; omega,by omega,by simp only [List.length_cons] at lo; omega,?_,fun X => ?_⟩
   ·rw [w_spec_l20Groups_0,S]
    exact q5
   ·have sh : I.map eN ++ [DV.sl 1 (l.map .i)] = (I ++ [l]).map eN := by rw [List.map_append]; rfl
    have ln : (I ++ [l]).length = I.length + 1 := by simp
    unfold stG2
    rw [ln]
    generalize (I ++ [l]).map eN = M at *
    simp [sh]
 have k2 := c_odd hb hl (p := q) (n := n) (by omega) (by omega) hn hn2
 have tk : List.take Q.length (Q.map eN) = Q.map eN := List.take_of_length_le (by simp)
 have cb : Q.length + 1 ≤ bound := by unfold bound; omega
 cases ho : (pk bs q n == n - 1) with
 | false =>
  rw [ho] at k2
  refine ⟨Q,q + 1,by omega,by omega,by omega,by omega,?_⟩
  rw [call_k lf n_spec_l20Groups _ (F := F_spec_l20Groups) rfl rfl]
  generalize hpm : p + (m : Int) = pm at *
  simp [F_spec_l20Groups,CO,W,H,k2,tk,-ks_shut]
 | true =>
  rw [ho] at k2
  have k3 := c_pick hb hl (p := q + 1) (n := 2) (by omega) (by omega) (by omega)
  have a3 := pk_bound hb (p := q + 1) (n := 2) (by omega) (by omega) (by omega)
  by_cases z : pk bs (q + 1) 2 = 0
  ·rw [z] at k3
   refine ⟨Q ++ [[]],q + 1 + 1,by simp; omega,by simp only [List.flatten_append,List.length_append,List.flatten_cons,List.flatten_nil,List.length_nil]; omega,by omega,by omega,?_⟩
   rw [call_k lf n_spec_l20Groups _ (F := F_spec_l20Groups) rfl rfl]
   generalize hpm : p + (m : Int) = pm at *
   simp [F_spec_l20Groups,CO,W,H,k2,k3,tk,cb,-ks_shut,eN]
  ·have z1 : pk bs (q + 1) 2 = 1 := by omega
   rw [z1] at k3
   refine ⟨Q ++ [[0]],q + 1 + 1,by simp; omega,by simp only [List.flatten_append,List.length_append,List.flatten_cons,List.flatten_nil,List.length_nil,List.length_singleton]; omega,by omega,by omega,?_⟩
   rw [call_k lf n_spec_l20Groups _ (F := F_spec_l20Groups) rfl rfl]
   generalize hpm : p + (m : Int) = pm at *
   simp [F_spec_l20Groups,CO,W,H,k2,k3,tk,cb,-ks_shut,eN]
end
section
attribute [-simp] DV.cells
attribute [local simp] sliceD cells_st cells_sl cells_i cells_y cells_b cells_s cells_w
attribute [local simp] lend_eR al_eR lend_eN adopt_eN new_eN
theorem c_l20Grouped {bs : List Nat} (hb : ∀ y ∈ bs,y < 256) (hl : bs.length ≤ 2000) {p : Int} (h0 : 0 ≤ p) (h1 : p < 500000) :
  ∃ (us : List T) (R : List (List Int)) (p' : Int),us.length ≤ 5 ∧ R.length ≤ 6 ∧ R.flatten.length ≤ 6 ∧ p ≤ p' ∧ p' ≤ p + 60 ∧
   call lf n_spec_l20Grouped [.ref (.st [.sl 0 (bs.map .y),.i p])] = some (.tup [.fr 2 (us.map e2),.fr 1 (R.map eN)],[.st [.sl 0 (bs.map .y),.i p']]) := by
 obtain ⟨us,p1,u1,u2,u3,U⟩ := c_l20Tests hb hl (p := p) (n := 14) h0 (by omega) (by omega) (by omega)
 obtain ⟨R,p',q1,q2,q3,q4,G⟩ := c_l20Groups hb hl (p := p1) (n := 14) (m := us.length) (by omega) (by omega) u1 (by omega) (by omega)
 refine ⟨us,R,p',u1,q1,q2,by omega,by omega,?_⟩
 rw [call_k lf n_spec_l20Grouped _ (F := F_spec_l20Grouped) rfl rfl]
 have tk : List.take R.length (R.map eN) = R.map eN := List.take_of_length_le (by simp)
 have tk2 : List.take us.length (us.map e2) = us.map e2 := List.take_of_length_le (by simp)
 simp [F_spec_l20Grouped,U,G,tk,tk2]
theorem c_DrawGroupPlan {bs : List Nat} (hb : ∀ y ∈ bs,y < 256) (hl : bs.length ≤ 1048576) :
  ∃ (us : List T) (R : List (List Int)),us.length ≤ 5 ∧ R.length ≤ 6 ∧ R.flatten.length ≤ 6 ∧ call lf n_spec_DrawGroupPlan [.sl 0 (bs.map .y)] = some (.tup [.fr 2 (us.map e2),.fr 1 (R.map eN)],[]) := by
 obtain ⟨c1,c2⟩ := take_b hb
 have o := c_open hl
 generalize bs.take 2000 = cs at *
 obtain ⟨us,R,p',u1,q1,q2,q3,q4,G⟩ := c_l20Grouped c1 c2 (p := 0) (by omega) (by omega)
 refine ⟨us,R,u1,q1,q2,?_⟩
 rw [call_k lf n_spec_DrawGroupPlan _ (F := F_spec_DrawGroupPlan) rfl rfl]
 have tk : List.take R.length (R.map eN) = R.map eN := List.take_of_length_le (by simp)
 have tk2 : List.take us.length (us.map e2) = us.map e2 := List.take_of_length_le (by simp)
 simp [F_spec_DrawGroupPlan,o,G,tk,tk2]
end
section
attribute [-simp] DV.cells
attribute [local simp] sliceD cells_st cells_sl cells_i cells_y cells_b cells_s cells_w
attribute [local simp] lend_eR al_eR
def tI : Nat → List Nat → List T
 | _,[] => []
 | i,k :: r => (0,(k : Int)) :: ((if i = 0 then [] else [(3,0)]) ++ tI (i + 1) r)
def gJ : Nat → List (List Nat) → List T
 | _,[] => []
 | j,g :: R => tI 0 g ++ ((if j = 0 then [] else [(2,0)]) ++ gJ (j + 1) R)
theorem tI_pos (i : Nat) : ∀ r : List Nat,tI (i + 1) r = r.flatMap fun k : Nat => [(0,(k : Int)),(3,0)]
 | [] => rfl
 | k :: r => by simp [tI,tI_pos (i + 1) r]
theorem tI_orL : ∀ g : List Nat,tI 0 g = orL g
 | [] => rfl
 | k :: r => by simp [tI,orL,tI_pos]
theorem gJ_pos (j : Nat) : ∀ R : List (List Nat),gJ (j + 1) R = R.flatMap fun g => orL g ++ [(2,0)]
 | [] => rfl
 | g :: R => by simp [gJ,gJ_pos (j + 1) R,tI_orL]
theorem gJ_grL : ∀ L : List (List Nat),gJ 0 L = grL L
 | [] => rfl
 | g :: R => by simp [gJ,grL,gJ_pos,tI_orL]
theorem tI_len : ∀ (r : List Nat) (i : Nat),(tI i r).length ≤ 2 * r.length
 | [],i => by simp [tI]
 | k :: r,i => by
  have := tI_len r (i + 1)
  simp only [tI,List.length_cons,List.length_append]
  split <;> simp <;> omega
def stT1 (A : List (List Int)) (g : List Nat) (acc : List T) (j i : Nat) : LS :=
 ⟨[(5,.own 2576 acc.length 0 acc.length),(6,.i j),(14,.sl 0 (A.map eR)),(15,.i A.length),(16,.i j),(21,.sl 0 ((ni g).map .i)),(22,.i g.length),(23,.i i)],[(2576,acc.map e2)]⟩
theorem t_inner (A : List (List Int)) (g : List Nat) (j : Nat) (h5 : g.length ≤ 5) : ∀ (r : List Nat) (i : Nat) (acc : List T),acc.length + 2 * r.length ≤ 1000 → g.drop i = r → i + r.length = g.length →
  ex lf F_impl_GroupTerm_W1 (stT1 A g acc j i) = some (.exit 2,stT1 A g (acc ++ tI i r) j g.length) := by
 intro r
 induction r with
 | nil =>
  intro i acc hl hd hi
  have e : i = g.length := by simpa using hi
  subst e
  rw [w_impl_GroupTerm_1]
  simp [stT1,F_impl_GroupTerm_L1,tI]
 | cons k r ih0 =>
  intro i acc hl hd hi
  obtain ⟨k1,k2,k3⟩ := drop_cons hd
  simp only [List.length_cons] at hl hi
  obtain ⟨a1,a2⟩ := at_ni k2
  have k1' : (i : Int) < g.length := by omega
  have ng := ni_len g
  have w1 := wr_succ (k := i) (by omega)
  have b1 : acc.length + 1 ≤ bound := by unfold bound; omega
  have b2 : acc.length + 1 + 1 ≤ bound := by unfold bound; omega
  rw [w_impl_GroupTerm_1]
  have w0 : wr (1 : Int) = 1 := wr_id (by omega) (by omega)
  cases i with
  | zero =>
   simp only [Int.natCast_zero] at a1
   have ih := ih0 1 (acc ++ [(0,(k : Int))]) (by simp; omega) k3 (by omega)
   have e : acc ++ tI 0 (k :: r) = (acc ++ [(0,(k : Int))]) ++ tI 1 r := by simp [tI]
   rw [e]
   unfold stT1 at *
   simp [F_impl_GroupTerm_L1,k1,ng,a1,a2,b1,e2,w0] at ih ⊢
   first | exact ih | simp [ih,-Int.natCast_add]
  | succ i =>
   have ih := ih0 (i + 1 + 1) (acc ++ [(0,(k : Int)),(3,0)]) (by simp; omega) k3 (by omega)
   have e : acc ++ tI (i + 1) (k :: r) = (acc ++ [(0,(k : Int)),(3,0)]) ++ tI (i + 1 + 1) r := by simp [tI]
   rw [e]
   have gq : 0 < i + 1 := by omega
   have tk : List.take (acc.length + 1) (acc.map e2 ++ [DV.st [.i 0,.i (k : Int)]]) = acc.map e2 ++ [DV.st [.i 0,.i (k : Int)]] := List.take_of_length_le (by simp)
   unfold stT1 at *
   generalize i + 1 = q at *
   simp [F_impl_GroupTerm_L1,k1,k1',ng,a1,a2,b1,b2,e2,gq,tk,w1,-Int.natCast_add] at ih ⊢
   first | exact ih | simp [ih,-Int.natCast_add]
def stT0 (A : List (List Int)) (acc : List T) (j : Nat) : LS :=
 ⟨[(5,.own 2576 acc.length 0 acc.length),(14,.sl 0 (A.map eR)),(15,.i A.length),(16,.i j)],[(2576,acc.map e2)]⟩
theorem t_outer (A : List (List Int)) (hA : A.length ≤ 1000) : ∀ (L : List (List Nat)) (j : Nat) (acc : List T),(∀ g ∈ L,g.length ≤ 5) → acc.length + (2 * L.flatten.length + L.length) ≤ 1000 → A.drop j = L.map ni → j + L.length = A.length →
  ex lf F_impl_GroupTerm_W0 (stT0 A acc j) = some (.exit 0,stT0 A (acc ++ gJ j L) A.length) := by
 intro L
 induction L with
 | nil =>
  intro j acc h5 hl hd hj
  have e : j = A.length := by simpa using hj
  subst e
  rw [w_impl_GroupTerm_0]
  simp [stT0,F_impl_GroupTerm_L0,gJ]
 | cons g L ih0 =>
  intro j acc h5 hl hd hj
  rw [List.map_cons] at hd
  obtain ⟨k1,k2,k3⟩ := drop_cons hd
  simp only [List.length_cons,List.flatten_cons,List.length_append] at hl hj
  have at1 := at_eR k2
  have k1' : (j : Int) < A.length := by omega
  have ng := ni_len g
  have w1 := wr_succ (k := j) (by omega)
  have g5 := h5 g (by simp)
  have I := t_inner A g j g5 g 0 acc (by omega) rfl (by omega)
  have tl := tI_len g 0
  have b1 : (acc ++ tI 0 g).length + 1 ≤ bound := by rw [List.length_append]; unfold bound; omega
  rw [w_impl_GroupTerm_0]
  unfold stT1 at I
  unfold stT0 at *
  simp only [Int.natCast_zero] at I
  have w0 : wr (1 : Int) = 1 := wr_id (by omega) (by omega)
  cases j with
  | zero =>
   try simp only [Int.natCast_zero] at at1
   have ih := ih0 1 (acc ++ tI 0 g) (fun x hx => h5 x (by simp [hx])) (by rw [List.length_append]; omega) k3 (by omega)
   have e : acc ++ gJ 0 (g :: L) = (acc ++ tI 0 g) ++ gJ 1 L := by simp [gJ]
   rw [e]
   generalize acc ++ tI 0 g = Q at *
   simp [F_impl_GroupTerm_L0,k1,at1,ng,w0,-Int.natCast_add] at ih I ⊢
   first | exact ih | simp [I,ih,w0,-Int.natCast_add]
  | succ j =>
   have ih := ih0 (j + 1 + 1) (acc ++ tI 0 g ++ [(2,0)]) (fun x hx => h5 x (by simp [hx])) (by simp only [List.length_append,List.length_singleton]; omega) k3 (by omega)
   have e : acc ++ gJ (j + 1) (g :: L) = (acc ++ tI 0 g ++ [(2,0)]) ++ gJ (j + 1 + 1) L := by simp [gJ]
   rw [e]
   have gq : 0 < j + 1 := by omega
   have e2' : ∀ Q : List T,(Q ++ [(2,0)]).map e2 = Q.map e2 ++ [DV.st [.i 2,.i 0]] := fun Q => by rw [List.map_append]; rfl
   rw [e2'] at ih
   generalize acc ++ tI 0 g = Q at *
   generalize j + 1 = q at *
   have tk : List.take Q.length (Q.map e2) = Q.map e2 := List.take_of_length_le (by simp)
   simp [F_impl_GroupTerm_L0,k1,k1',at1,ng,b1,gq,w1,tk,-Int.natCast_add] at ih I ⊢
   simp [I,ih,gq,b1,w1,-Int.natCast_add]
def gtL (m : Int) (L : List (List Int)) : List T := if gokB m L = true then grL (L.map (List.map Int.toNat)) else []
theorem toNat_ni (N : List (List Nat)) : (N.map ni).map (List.map Int.toNat) = N := by
 rw [List.map_map]
 conv => rhs; rw [← List.map_id N]
 apply List.map_congr_left
 intro g _
 exact ni_toNat g
theorem row_le {m : Nat} {N : List (List Nat)} (G : Gok m N) {g : List Nat} (hg : g ∈ N) : g.length ≤ m := by
 have l := gok_len G
 obtain ⟨A,B,hAB⟩ := List.append_of_mem hg
 rw [hAB,List.flatten_append,List.flatten_cons,List.length_append,List.length_append] at l; omega
theorem rows_le {m : Nat} {N : List (List Nat)} (G : Gok m N) : N.length ≤ m := by
 have l := gok_len G
 have key : ∀ {N : List (List Nat)},(∀ g ∈ N,g ≠ []) → N.length ≤ N.flatten.length := by
  intro N
  induction N with
  | nil => intro _; simp
  | cons g N ih =>
   intro h
   have := List.length_pos_iff.2 (h g (by simp))
   have := ih (fun x hx => h x (by simp [hx]))
   rw [List.flatten_cons,List.length_append,List.length_cons]; omega
 have := key G.ne
 omega
theorem grL_bd {m : Nat} (h1 : 1 ≤ m) {N : List (List Nat)} (G : Gok m N) : (grL N).length + 1 = 2 * m := by
 have := grL_len (gok_ne h1 G) G.ne
 rw [gok_len G] at this
 exact this
theorem c_impl_GroupTerm (m : Int) (L : List (List Int)) (hb : (L.length : Int) < 1099511627776) : call lf n_impl_GroupTerm [.i m,.sl 0 (L.map eR)] = some (.fr 2 ((gtL m L).map e2),[]) := by
 rw [call_k lf n_impl_GroupTerm _ (F := F_impl_GroupTerm) rfl rfl]
 have C := c_impl_GroupsOk m L hb
 cases h : gokB m L with
 | false =>
  rw [h] at C
  have e : gtL m L = [] := by unfold gtL; rw [h]; rfl
  rw [e]
  simp [F_impl_GroupTerm,C]
 | true =>
  rw [h] at C
  have hh := h
  unfold gokB at hh
  rw [Bool.and_eq_true] at hh
  have hm := (orOk_iff.1 hh.2).1
  obtain ⟨n,rfl⟩ : ∃ n : Nat,m = n := ⟨m.toNat,by omega⟩
  obtain ⟨N,rfl,G⟩ := gok_of (by omega) h
  have e : gtL n (N.map ni) = grL N := by unfold gtL; rw [h,toNat_ni]; rfl
  have lN := rows_le G
  have lf' := gok_len G
  have I := t_outer (N.map ni) (by simp; omega) N 0 [] (fun g hg => by have := row_le G hg; omega) (by simp only [List.length_nil]; omega) rfl (by simp)
  unfold stT0 at I
  rw [List.nil_append,gJ_grL] at I
  rw [e]
  generalize grL N = Q at *
  generalize N.map ni = L at *
  have tk : List.take Q.length (Q.map e2) = Q.map e2 := List.take_of_length_le (by simp)
  simp only [List.length_nil,List.map_nil,Int.natCast_zero] at I
  simp [F_impl_GroupTerm,C,I,tk]
end
section
attribute [-simp] DV.cells
attribute [local simp] sliceD cells_st cells_sl cells_i cells_y cells_b cells_s cells_w
attribute [local simp] lend_eR al_eR lend_eN adopt_eN new_eN
theorem gDt_bd {us : List T} (h : us.all tOk = true) : ∀ {l : List Nat},(∀ k ∈ l,k < us.length) → 0 ≤ gD (l.map (itT us)) ∧ gD (l.map (itT us)) ≤ 9 * l.length * 6 ^ l.length
 | [],_ => by simp [gD]
 | k :: r,hr => by
  obtain ⟨a1,a2⟩ := gDt_bd h (l := r) (fun x hx => hr x (by simp [hx]))
  have cb := cA_bd h (hr k (by simp))
  have pb := pA_bd h (hr k (by simp))
  have e : gD ((k :: r).map (itT us)) = 6 * cA us k * 6 ^ r.length + (6 - pA us k) * gD (r.map (itT us)) := by
   simp only [List.map_cons,gD,its_M]; rfl
  have p : (0 : Int) < 6 ^ r.length := Int.pow_pos (by omega)
  rw [e]
  refine ⟨Int.add_nonneg (Int.mul_nonneg (by omega) (by omega)) (Int.mul_nonneg (by omega) a1),?_⟩
  have x1 : 6 * cA us k * 6 ^ r.length ≤ 54 * 6 ^ r.length := Int.mul_le_mul_of_nonneg_right (by omega) (by omega)
  have x2 : (6 - pA us k) * gD (r.map (itT us)) ≤ 6 * (9 * r.length * 6 ^ r.length) := Int.mul_le_mul (by omega) a2 a1 (by omega)
  have e2' : 9 * ((k :: r).length : Int) * 6 ^ (k :: r).length = 54 * 6 ^ r.length + 6 * (9 * r.length * 6 ^ r.length) := by
   rw [List.length_cons,Int.pow_succ]
   push_cast
   grind
  omega
theorem gDt_le {us : List T} (h : us.all tOk = true) {l : List Nat} (h5 : l.length ≤ 5) (hl : ∀ k ∈ l,k < us.length) : 0 ≤ gD (l.map (itT us)) ∧ gD (l.map (itT us)) ≤ 349920 := by
 obtain ⟨a,b⟩ := gDt_bd h hl
 refine ⟨a,Int.le_trans b ?_⟩
 have p := p6 (n := l.length) h5
 have : 9 * (l.length : Int) * 6 ^ l.length ≤ 45 * 7776 := Int.mul_le_mul (by omega) p.2 (by omega) (by omega)
 omega
def posG (us : List T) (g : List Nat) : List (List Nat) → Nat
 | [] => 0
 | o :: r => if (gIo us g).1 * (gIo us o).2.1 < (gIo us o).1 * (gIo us g).2.1 then 0 else posG us g r + 1
theorem posG_le (us : List T) (g : List Nat) : ∀ l : List (List Nat),posG us g l ≤ l.length
 | [] => Nat.le_refl _
 | o :: r => by
  have := posG_le us g r
  simp only [posG,List.length_cons]
  split <;> omega
theorem insG_pos (us : List T) (g : List Nat) : ∀ l : List (List Nat),insG us g l = l.take (posG us g l) ++ g :: l.drop (posG us g l)
 | [] => rfl
 | o :: r => by
  simp only [insG,posG]
  split
  ·simp
  ·rw [insG_pos us g r]; simp
def nR (L : List (List Nat)) : List DV := (L.map ni).map eN
theorem nR_len (L : List (List Nat)) : (nR L).length = L.length := by simp [nR]
theorem at_nR {L : List (List Nat)} {k : Nat} {g : List Nat} (h : L[k]? = some g) : atI (nR L) (k : Int) = some (.sl 1 ((ni g).map .i)) ∧ atN (nR L) k = some (.sl 1 ((ni g).map .i)) := by
 have e : (nR L)[k]? = some (.sl 1 ((ni g).map .i)) := by unfold nR; rw [List.getElem?_map,List.getElem?_map,h]; rfl
 refine ⟨?_,e⟩
 simp only [atI,if_pos (Int.natCast_nonneg k)]
 show (nR L)[(k : Int).toNat]? = _
 rw [Int.toNat_natCast]; exact e
def stSi (us : List T) (A : List DV) (k : Nat) (g : List Nat) (L : List (List Nat)) (a : Nat) : LS :=
 ⟨[(0,.sl 0 (us.map e2)),(1,.sl 0 A),(5,.own 7176 L.length 0 L.length),(6,.i k),(7,.own 18440 g.length 0 g.length),(8,.i (gIo us g).1),(9,.i (gIo us g).2.1),(10,.i a)],[(7176,nR L),(18440,(ni g).map .i)]⟩
set_option maxHeartbeats 8000000 in
theorem sg_inner {us : List T} (h : tsOk us = true) (A : List DV) (k : Nat) {g : List Nat} (g5 : g.length ≤ 5) (hg : ∀ x ∈ g,x < us.length) (L : List (List Nat)) (hL : L.length ≤ 5) (hm : ∀ o ∈ L,o.length ≤ 5 ∧ ∀ x ∈ o,x < us.length) : ∀ (r p : List (List Nat)),L = p ++ r →
  ex lf F_spec_SortedGroups_W1 (stSi us A k g L p.length) = some (.exit 2,stSi us A k g L (p.length + posG us g r)) := by
 have h' := tsOk_iff.1 h
 intro r
 induction r with
 | nil =>
  intro p hp
  have e : p.length = L.length := by rw [hp]; simp
  rw [w_spec_SortedGroups_1,e]
  simp [stSi,F_spec_SortedGroups_L1,posG]
 | cons o r ih =>
  intro p hp
  have lp : p.length < L.length := by rw [hp]; simp
  obtain ⟨o5,ol⟩ := hm o (by rw [hp]; simp)
  obtain ⟨ao,an⟩ := at_nR (L := L) (k := p.length) (g := o) (by rw [hp]; simp)
  have C := c_spec_l7Cost h o5 ol
  have b1 := gDt_le h'.2 o5 ol
  have b2 := gDt_le h'.2 g5 hg
  have n1 := grN_bd h'.2 ol
  have n2 := grN_bd h'.2 hg
  have q1 := p6 (n := o.length) o5
  have q2 := p6 (n := g.length) g5
  have m1 : 0 ≤ gD (o.map (itT us)) * grN us g ∧ gD (o.map (itT us)) * grN us g ≤ 349920 * 7776 := ⟨Int.mul_nonneg b1.1 (by omega),Int.mul_le_mul b1.2 (by omega) (by omega) (by omega)⟩
  have m2 : 0 ≤ gD (g.map (itT us)) * grN us o ∧ gD (g.map (itT us)) * grN us o ≤ 349920 * 7776 := ⟨Int.mul_nonneg b2.1 (by omega),Int.mul_le_mul b2.2 (by omega) (by omega) (by omega)⟩
  have w1 : wr (gD (o.map (itT us)) * grN us g) = gD (o.map (itT us)) * grN us g := wr_id (by omega) (by omega)
  have w2 : wr (gD (g.map (itT us)) * grN us o) = gD (g.map (itT us)) * grN us o := wr_id (by omega) (by omega)
  have w3 := wr_succ (k := p.length) (by omega)
  have I := ih (p ++ [o]) (by rw [hp]; simp)
  rw [List.length_append,List.length_singleton] at I
  have nl := nR_len L
  rw [w_spec_SortedGroups_1]
  simp only [posG]
  unfold stSi at *
  unfold gIo at *
  simp only at I ⊢
  generalize gD (o.map (itT us)) = x1 at *
  generalize gD (g.map (itT us)) = x2 at *
  generalize grN us o = y1 at *
  generalize grN us g = y2 at *
  generalize nR L = M at *
  by_cases q1 : x2 * y1 < x1 * y2
  ·rw [if_pos q1]
   simp [F_spec_SortedGroups_L1,lp,ao,an,C,w1,w2,w3,nl,q1,-Int.natCast_add]
  ·rw [if_neg q1,show p.length + (posG us g r + 1) = p.length + 1 + posG us g r by omega]
   simp [F_spec_SortedGroups_L1,lp,ao,an,C,w1,w2,w3,nl,q1,I,-Int.natCast_add]
def sGi (us : List T) (N : List (List Nat)) (i : Nat) : List (List Nat) := (N.take i).foldl (fun a g => insG us (inT us g) a) []
theorem sGi_succ (us : List T) {N : List (List Nat)} {i : Nat} {g : List Nat} (h : N[i]? = some g) : sGi us N (i + 1) = insG us (inT us g) (sGi us N i) := by
 unfold sGi
 rw [List.take_add_one,h,Option.toList_some,List.foldl_append]
 rfl
theorem sGi_all (us : List T) (N : List (List Nat)) : sGi us N N.length = sG us N := by
 unfold sGi sG
 rw [List.take_length]
theorem sGi_perm (us : List T) (N : List (List Nat)) (i : Nat) : (sGi us N i).Perm ((N.take i).map (inT us)) := by
 have := sG_permA us (N.take i) []
 rwa [List.nil_append] at this
theorem sGi_len (us : List T) {N : List (List Nat)} {i : Nat} (h : i ≤ N.length) : (sGi us N i).length = i := by
 rw [(sGi_perm us N i).length_eq,List.length_map,List.length_take]; omega
theorem nR_app (p q : List (List Nat)) : nR (p ++ q) = nR p ++ nR q := by simp [nR]
theorem nR_cons (g : List Nat) (q : List (List Nat)) : nR (g :: q) = .sl 1 ((ni g).map .i) :: nR q := rfl
theorem nR_cells (L : List (List Nat)) : ∀ e ∈ nR L,e.cells.length = 1 := fun e he => by
 obtain ⟨r,_,rfl⟩ := List.mem_map.1 he; rfl
def stSo (us : List T) (A : List DV) (K : Nat) (L : List (List Nat)) (i : Nat) : LS := ⟨[(0,.sl 0 (us.map e2)),(1,.sl 0 A),(5,.own K L.length 0 L.length),(6,.i i)],[(K,nR L)]⟩
set_option maxHeartbeats 8000000 in
theorem sg_outer {us : List T} (h : tsOk us = true) {N : List (List Nat)} (G : Gok us.length N) (j : Nat) : ∀ (i K : Nat),(K = 7176 ∨ K = 33288) → i + j = N.length →
  ex lf F_spec_SortedGroups_W0 (stSo us ((N.map ni).map eR) K (sGi us N i) i) = some (.exit 0,stSo us ((N.map ni).map eR) 7176 (sG us N) N.length) := by
 have h' := tsOk_iff.1 h
 have lN := rows_le G
 have lA : ((N.map ni).map eR).length = N.length := by simp
 have C1 := c_spec_TestsOk us (by omega)
 rw [h] at C1
 have C2 := c_spec_GroupsOk us.length (N.map ni) (by simp; omega) (by
  have := gok_len G
  have e : (N.map ni).flatten.length = N.flatten.length := by
   have : (N.map ni).flatten = ni N.flatten := by unfold ni; rw [List.map_flatten]
   rw [this,ni_len]
  omega)
 rw [gok_to (by omega) G] at C2
 have lendA : lendL ((N.map ni).map eR) = (N.map ni).map eR := lend_eR _
 induction j with
 | zero =>
  intro i K hK hi
  have e : i = N.length := by omega
  subst e
  rw [w_spec_SortedGroups_0,sGi_all]
  have nl := nR_len (sG us N)
  rcases hK with rfl | rfl <;> simp [stSo,F_spec_SortedGroups_L0,nl]
 | succ j ih =>
  intro i K hK hi
  have k2 := ih (i + 1) 33288 (.inr rfl) (by omega)
  have hlt : i < N.length := by omega
  have hlt' : (i : Int) < N.length := by omega
  obtain ⟨g,hg⟩ : ∃ g,N[i]? = some g := ⟨_,List.getElem?_eq_getElem hlt⟩
  have gm := List.mem_of_getElem? hg
  have gl := G.lt g gm
  have g5 : g.length ≤ 5 := by have := row_le G gm; omega
  have ip := inT_perm us g
  have il : (inT us g).length = g.length := ip.length_eq
  have im : ∀ x ∈ inT us g,x < us.length := fun x hx => gl x (ip.mem_iff.1 hx)
  have I1 := c_spec_l7Inside h g5 gl
  have I2 := c_spec_l7Cost h (g := inT us g) (by omega) im
  have ll := sGi_len us (N := N) (i := i) (by omega)
  have hm : ∀ o ∈ sGi us N i,o.length ≤ 5 ∧ ∀ x ∈ o,x < us.length := fun o ho => by
   obtain ⟨q,hq,rfl⟩ := List.mem_map.1 ((sGi_perm us N i).mem_iff.1 ho)
   have qm := List.mem_of_mem_take hq
   have qp := inT_perm us q
   exact ⟨by have := row_le G qm; rw [qp.length_eq]; omega,fun x hx => G.lt q qm x (qp.mem_iff.1 hx)⟩
  have I := sg_inner h ((N.map ni).map eR) i (g := inT us g) (by omega) im (sGi us N i) (by omega) hm (sGi us N i) [] rfl
  have pl := posG_le us (inT us g) (sGi us N i)
  rw [sGi_succ us hg,insG_pos] at k2
  rw [List.length_nil,Nat.zero_add] at I
  have a1 : atI ((N.map ni).map eR) (i : Int) = some (.sl 0 ((ni g).map .i)) := at_eR (by rw [List.getElem?_map,hg]; rfl)
  have nl := ni_len (inT us g)
  have tkg : List.take (inT us g).length ((ni (inT us g)).map DV.i) = (ni (inT us g)).map .i := List.take_of_length_le (by simp [nl])
  generalize posG us (inT us g) (sGi us N i) = a at *
  generalize sGi us N i = L at *
  generalize sG us N = R at *
  obtain ⟨x,y,rfl,rfl⟩ : ∃ x y,L = x ++ y ∧ x.length = a := ⟨L.take a,L.drop a,(List.take_append_drop a L).symm,by simp; omega⟩
  have s1 : (x ++ y).take x.length = x := by simp
  have s2 : (x ++ y).drop x.length = y := by simp
  rw [s1,s2] at k2
  have lxy : x.length + y.length = i := by simpa using ll
  have w1 := wr_succ (k := i) (by omega)
  have c1 : x.length ≤ bound := by unfold bound; omega
  have c2 : x.length + 1 ≤ bound := by unfold bound; omega
  have c3 : i + 1 ≤ bound := by unfold bound; omega
  have xi : x.length ≤ i := by omega
  have nx := nR_len x
  have ny := nR_len y
  have t1 : (nR (x ++ y)).take x.length = nR x := by rw [nR_app]; exact List.take_left' (by simp [nR_len])
  have t2 : (nR (x ++ y)).drop x.length = nR y := by rw [nR_app]; exact List.drop_left' (by simp [nR_len])
  have hL : (nR (x ++ y)).length = i := by rw [nR_len]; exact ll
  have t4 : List.take i (nR (x ++ y)) = nR (x ++ y) := List.take_of_length_le (by omega)
  have e1 : x.length + 1 + y.length = i + 1 := by omega
  have e3 : x.length + (y.length + 1) = i + 1 := by omega
  have n0 : ¬ (i < x.length) := by omega
  have cw := nR_cells (x ++ y)
  have cx := nR_cells x
  have cy := nR_cells y
  unfold stSo stSi at *
  unfold gIo at I
  rw [ll] at I ⊢
  rw [il] at I tkg nl
  have hJ : ((ni (inT us g)).map DV.i).length = g.length := by simp [nl]
  have adJ : ∀ b,adoptL b ((ni (inT us g)).map DV.i) = (ni (inT us g)).map .i := fun b => by simp
  have leJ : lendL ((ni (inT us g)).map DV.i) = (ni (inT us g)).map .i := by simp
  have neJ : allNewL ((ni (inT us g)).map DV.i) = true := by simp
  have tk18 := adJ
  simp only [Int.natCast_zero] at I
  rw [w_spec_SortedGroups_0]
  simp only [List.length_append,List.length_cons,nR_app,nR_cons,e3] at k2
  generalize nR (x ++ y) = M at *
  generalize (N.map ni).map eR = A at *
  generalize gD ((inT us g).map (itT us)) = D at *
  generalize grN us (inT us g) = Q at *
  generalize (ni (inT us g)).map DV.i = J at *
  rcases hK with rfl | rfl <;> simp [F_spec_SortedGroups_L0,hlt,hlt',lA,lendA,C1,C2,a1,I1,I2,hJ,adJ,leJ,neJ,tkg,I,w1,hL,t1,t2,t4,c1,c2,c3,xi,nx,ny,e1,if_pos cw,if_pos cx,if_pos cy,k2,-Int.natCast_add]
end
section
attribute [-simp] DV.cells
attribute [local simp] sliceD cells_st cells_sl cells_i cells_y cells_b cells_s cells_w
attribute [local simp] lend_eR al_eR lend_eN adopt_eN new_eN
def sgL (us : List T) (L : List (List Int)) : List (List Nat) := if tsOk us && gokB us.length L then sG us (L.map (List.map Int.toNat)) else []
def gaOf (us : List T) (L : List (List Int)) : Int := if tsOk us && gokB us.length L then gA us (L.map (List.map Int.toNat)) else -1
theorem lend_nR (L : List (List Nat)) : lendL (nR L) = (L.map ni).map eR := lend_eN _
theorem sgL_of {us : List T} {L : List (List Int)} (h : (tsOk us && gokB us.length L) = true) : ∃ N : List (List Nat),L = N.map ni ∧ Gok us.length N ∧ tsOk us = true ∧ gokB us.length L = true ∧ sgL us L = sG us N ∧ gaOf us L = gA us N := by
 have hh := h
 rw [Bool.and_eq_true] at h
 have h' := tsOk_iff.1 h.1
 obtain ⟨N,rfl,G⟩ := gok_of (by omega) h.2
 refine ⟨N,rfl,G,h.1,h.2,?_,?_⟩
 ·unfold sgL; rw [if_pos hh,toNat_ni]
 ·unfold gaOf; rw [if_pos hh,toNat_ni]
theorem c_spec_SortedGroups (us : List T) (L : List (List Int)) (ha : (us.length : Int) < 1099511627776) (hb : (L.length : Int) < 1099511627776) (hf : (L.flatten.length : Int) < 1099511627776) :
  call lf n_spec_SortedGroups [.sl 0 (us.map e2),.sl 0 (L.map eR)] = some (.fr 1 (nR (sgL us L)),[]) := by
 rw [call_k lf n_spec_SortedGroups _ (F := F_spec_SortedGroups) rfl rfl]
 cases h : (tsOk us && gokB us.length L) with
 | true =>
  obtain ⟨N,rfl,G,h1,h2,e1,_⟩ := sgL_of h
  have I := sg_outer h1 G N.length 0 7176 (.inl rfl) (by omega)
  have z : sGi us N 0 = [] := rfl
  rw [z] at I
  unfold stSo at I
  have z' : nR [] = [] := rfl
  rw [z'] at I
  simp only [Int.natCast_zero,List.length_nil] at I
  rw [e1]
  have nl := nR_len (sG us N)
  have tk : List.take (sG us N).length (nR (sG us N)) = nR (sG us N) := List.take_of_length_le (by omega)
  generalize (N.map ni).map eR = A at *
  generalize nR (sG us N) = M at *
  simp [F_spec_SortedGroups,I,nl,tk]
 | false =>
  have e : sgL us L = [] := by unfold sgL; rw [h]; rfl
  rw [e]
  have C1 := c_spec_TestsOk us ha
  have C2 := c_spec_GroupsOk us.length L hb hf
  have W : ex lf F_spec_SortedGroups_W0 (stSo us (L.map eR) 7176 [] 0) = some (.exit 0,stSo us (L.map eR) 7176 [] 0) := by
   rw [w_spec_SortedGroups_0]
   by_cases h0 : 0 < L.length
   ·cases h1 : tsOk us with
    | false => rw [h1] at C1; simp [stSo,F_spec_SortedGroups_L0,C1,h0,nR]
    | true =>
     rw [h1] at C1 h
     rw [Bool.true_and] at h
     rw [h] at C2
     simp [stSo,F_spec_SortedGroups_L0,C1,C2,h0,nR]
   ·simp [stSo,F_spec_SortedGroups_L0,h0,nR]
  unfold stSo at W
  have z' : nR [] = [] := rfl
  rw [z'] at W ⊢
  simp only [List.length_nil,Int.natCast_zero] at W
  simp [F_spec_SortedGroups,W]
set_option maxHeartbeats 8000000 in
theorem gA_nn {us : List T} (h : tsOk us = true) {N : List (List Nat)} (G : Gok us.length N) : 0 ≤ gA us N := by
 have h' := tsOk_iff.1 h
 rw [gA_gB h'.2 G.lt]
 exact gB_nn fun x hx => by
  obtain ⟨g,hg,rfl⟩ := List.mem_map.1 hx
  exact gI_ok h'.2 (G.lt g hg)
end
section
attribute [-simp] DV.cells
attribute [local simp] sliceD cells_st cells_sl cells_i cells_y cells_b cells_s cells_w
attribute [local simp] lend_eR al_eR lend_eN adopt_eN new_eN
theorem c_impl_isLessG (a b x y : Int) (h1 : 0 ≤ a * y ∧ a * y ≤ 4000000000000) (h2 : 0 ≤ x * b ∧ x * b ≤ 4000000000000) : call lf n_impl_ratio_isLess [.st [.i a,.i b],.st [.i x,.i y]] = some (.b (decide (a * y < x * b)),[]) := by
 rw [call_k lf n_impl_ratio_isLess _ (F := F_impl_ratio_isLess) rfl rfl]
 have w1 : wr (a * y) = a * y := wr_id (by omega) (by omega)
 have w2 : wr (x * b) = x * b := wr_id (by omega) (by omega)
 simp [F_impl_ratio_isLess,w1,w2]
/-- a group as a cell; its tests lie as they are asked -/
def gcP (p : Nat) (us : List T) (g : List Nat) : DV := .st [.i (gIo us g).1,.i (gIo us g).2.1,.sl p ((ni g).map .i),.i (6 ^ g.length)]
abbrev gcL (us : List T) (g : List Nat) : DV := gcP 0 us g
theorem lend_gc (p : Nat) (us : List T) (L : List (List Nat)) : lendL (L.map (gcP p us)) = L.map (gcP 0 us) := by
 rw [lendL_map,List.map_map]
 apply List.map_congr_left
 intro r _
 simp [gcP,DV.lend]
theorem adopt_gc (us : List T) (L : List (List Nat)) : adoptL false (L.map (gcP 0 us)) = L.map (gcP 2 us) := by
 rw [adoptL_map,List.map_map]
 apply List.map_congr_left
 intro r _
 simp [gcP,DV.adopt,adoptP]
theorem adopt_gc2 (o : Bool) (us : List T) (L : List (List Nat)) : adoptL o (L.map (gcP 2 us)) = L.map (gcP 2 us) := by
 rw [adoptL_map,List.map_map]
 apply List.map_congr_left
 intro r _
 simp [gcP,DV.adopt,adoptP]
def gOk (us : List T) (g : List Nat) : Prop := g.length ≤ 5 ∧ ∀ x ∈ g,x < us.length
theorem gOk_bd {us : List T} (h : us.all tOk = true) {g o : List Nat} (hg : gOk us g) (ho : gOk us o) : 0 ≤ (gIo us g).1 * (gIo us o).2.1 ∧ (gIo us g).1 * (gIo us o).2.1 ≤ 4000000000000 := by
 have b := gDt_le h hg.1 hg.2
 have n := grN_bd h ho.2
 have p := p6 (n := o.length) ho.1
 have := Int.mul_le_mul (a := (gIo us g).1) (b := (gIo us o).2.1) (c := 349920) (d := 7776) b.2 (by show grN us o ≤ 7776; omega) (by show 0 ≤ grN us o; omega) (by omega)
 exact ⟨Int.mul_nonneg b.1 (by show 0 ≤ grN us o; omega),by omega⟩
theorem c_impl_lessG {us : List T} (h : us.all tOk = true) {g o : List Nat} (hg : gOk us g) (ho : gOk us o) :
  call lf n_impl_groupsByRatios_1 [gcL us g,gcL us o] = some (.b (decide ((gIo us g).1 * (gIo us o).2.1 < (gIo us o).1 * (gIo us g).2.1)),[]) := by
 have I := c_impl_isLessG (gIo us g).1 (gIo us g).2.1 (gIo us o).1 (gIo us o).2.1 (gOk_bd h hg ho) (gOk_bd h ho hg)
 rw [call_k lf n_impl_groupsByRatios_1 _ (F := F_impl_groupsByRatios_1) rfl rfl]
 unfold gcL gcP
 generalize (gIo us g).1 = a at *
 generalize (gIo us g).2.1 = b at *
 generalize (gIo us o).1 = x at *
 generalize (gIo us o).2.1 = y at *
 generalize (6 : Int) ^ g.length = p at *
 generalize (6 : Int) ^ o.length = q at *
 simp [F_impl_groupsByRatios_1,I]
theorem c_InsertG (us : List T) (L : List (List Nat)) (g : List Nat) {n : Nat} (hn : n ≤ L.length) (hb : L.length ≤ 1000) :
  call lf n_slices_Insert_impl_askedGroup_impl_askedGroup [.gv 4 (L.map (gcL us)),.i n,.gv 4 [gcL us g]] = some (.fr 4 ((L.take n ++ g :: L.drop n).map (gcL us)),[]) := by
 rw [call_prim lf n_slices_Insert_impl_askedGroup_impl_askedGroup _ (F := F_slices_Insert_impl_askedGroup_impl_askedGroup) rfl rfl,insS_k,if_pos ⟨rfl,rfl,by omega,by simp; omega,by simp [bound]; omega,by simp⟩]
 simp
def stIg (us : List T) (g : List Nat) (L : List (List Nat)) (a : Nat) : LS := ⟨[(0,.own 38 L.length 0 L.length),(2,.fn n_impl_groupsByRatios_1 []),(4,.oad 2080 1 0 0),(7,.i a)],[(38,L.map (gcP 0 us)),(2080,[gcP 0 us g])]⟩
set_option maxHeartbeats 8000000 in
theorem ig_loop {us : List T} (h : us.all tOk = true) {g : List Nat} (hg : gOk us g) {L : List (List Nat)} (hL : L.length ≤ 5) (ho : ∀ o ∈ L,gOk us o) {p : Nat} (H : ∀ j (hj : j < L.length),((gIo us g).1 * (gIo us L[j]).2.1 < (gIo us L[j]).1 * (gIo us g).2.1 ↔ p ≤ j)) : ∀ d : Nat,p + d ≤ L.length →
  ex lf F_impl_inserted_impl_askedGroup_W0 (stIg us g L (p + d)) = some (.exit 0,stIg us g L p) := by
 have tk : List.take L.length (L.map (gcP 0 us)) = L.map (gcP 0 us) := List.take_of_length_le (by simp)
 have one : ∀ (j : Nat) (hj : j < L.length),atI (L.map (gcP 0 us)) ((j : Nat) : Int) = some (gcP 0 us L[j]) ∧ atN (L.map (gcP 0 us)) j = some (gcP 0 us L[j]) ∧ wr (((j + 1 : Nat) : Int) - 1) = (j : Nat) ∧ (0 : Int) < ((j + 1 : Nat) : Int) ∧ call lf n_impl_groupsByRatios_1 [gcP 0 us g,gcP 0 us L[j]] = some (.b (decide (p ≤ j)),[]) := by
  intro j hj
  have e : (L.map (gcP 0 us))[j]? = some (gcP 0 us L[j]) := by simp [hj]
  refine ⟨?_,e,?_,by omega,?_⟩
  ·simp only [atI,if_pos (Int.natCast_nonneg _)]
   show (L.map (gcP 0 us))[((j : Nat) : Int).toNat]? = _
   rw [Int.toNat_natCast]; exact e
  ·rw [wr_id (by omega) (by omega)]; omega
  ·have := c_impl_lessG h hg (ho L[j] (List.getElem_mem hj))
   rw [this,decide_eq_decide.2 (H j hj)]
 have nM : (L.map (gcP 0 us)).length = L.length := by simp
 intro d
 induction d with
 | zero =>
  intro hd
  cases p with
  | zero =>
   rw [w_impl_inserted_impl_askedGroup_0]
   simp [stIg,F_impl_inserted_impl_askedGroup_L0]
  | succ p =>
   obtain ⟨q1,q2,q3,q4,q5⟩ := one p (by omega)
   rw [decide_eq_false (show ¬ p + 1 ≤ p by omega)] at q5
   have hp : p < L.length := by omega
   rw [w_impl_inserted_impl_askedGroup_0]
   unfold stIg
   generalize L[p] = o at *
   generalize L.map (gcP 0 us) = M at *
   unfold gcP at *
   simp [F_impl_inserted_impl_askedGroup_L0,tk,nM,q1,q2,q3,q4,q5,hp,-Int.natCast_add]
 | succ d ih =>
  intro hd
  obtain ⟨q1,q2,q3,q4,q5⟩ := one (p + d) (by omega)
  rw [decide_eq_true (show p ≤ p + d by omega)] at q5
  have hp : p + d < L.length := by omega
  have I := ih (by omega)
  rw [w_impl_inserted_impl_askedGroup_0,show p + (d + 1) = p + d + 1 by omega]
  unfold stIg at *
  generalize L[p + d] = o at *
  generalize L.map (gcP 0 us) = M at *
  unfold gcP at *
  simp [F_impl_inserted_impl_askedGroup_L0,tk,nM,q1,q2,q3,q4,q5,hp,I,-Int.natCast_add]
end
section
attribute [-simp] DV.cells
attribute [local simp] sliceD cells_st cells_sl cells_i cells_y cells_b cells_s cells_w
attribute [local simp] lend_eR al_eR lend_eN adopt_eN new_eN
theorem posG_iff {us : List T} {g : List Nat} (hg : iOk (gIo us g)) : ∀ {L : List (List Nat)},(∀ o ∈ L,iOk (gIo us o)) → L.Pairwise (fun a b => gLe (gIo us a) (gIo us b) = true) → ∀ j (hj : j < L.length),((gIo us g).1 * (gIo us L[j]).2.1 < (gIo us L[j]).1 * (gIo us g).2.1 ↔ posG us g L ≤ j)
 | [],_,_,j,hj => by simp at hj
 | o :: r,ho,hp,j,hj => by
  obtain ⟨p1,p2⟩ := List.pairwise_cons.1 hp
  have o0 := ho o List.mem_cons_self
  simp only [posG]
  by_cases hc : (gIo us g).1 * (gIo us o).2.1 < (gIo us o).1 * (gIo us g).2.1
  ·rw [if_pos hc]
   refine ⟨fun _ => Nat.zero_le _,fun _ => ?_⟩
   cases j with
   | zero => exact hc
   | succ j =>
    simp only [List.length_cons] at hj
    simp only [List.getElem_cons_succ]
    have xm : r[j]'(by omega) ∈ r := List.getElem_mem _
    generalize r[j]'(by omega) = x at *
    refine Classical.byContradiction fun hn => ?_
    have xg : gLe (gIo us x) (gIo us g) = true := by unfold gLe; exact decide_eq_true (by omega)
    have := gLe_trans o0 (ho x (List.mem_cons_of_mem _ xm)) hg (p1 x xm) xg
    unfold gLe at this
    have := of_decide_eq_true this
    omega
  ·rw [if_neg hc]
   cases j with
   | zero => exact ⟨fun h => absurd h hc,fun h => by omega⟩
   | succ j =>
    simp only [List.length_cons] at hj
    simp only [List.getElem_cons_succ]
    have := posG_iff hg (fun x hx => ho x (List.mem_cons_of_mem _ hx)) p2 j (by omega)
    rw [this]
    omega
set_option maxHeartbeats 8000000 in
theorem c_impl_insertedG {us : List T} (h : us.all tOk = true) {g : List Nat} (hg : gOk us g) {L : List (List Nat)} (hL : L.length ≤ 5) (ho : ∀ o ∈ L,gOk us o) (hp : L.Pairwise (fun a b => gLe (gIo us a) (gIo us b) = true)) (ok : ∀ o ∈ g :: L,iOk (gIo us o)) :
  call lf n_impl_inserted_impl_askedGroup [.gv 4 (L.map (gcP 0 us)),gcP 0 us g,.fn n_impl_groupsByRatios_1 []] = some (.fr 4 ((insG us g L).map (gcP 2 us)),[]) := by
 have pl := posG_le us g L
 have H := posG_iff (ok g List.mem_cons_self) (fun o hx => ok o (List.mem_cons_of_mem _ hx)) hp
 have W := ig_loop h hg hL ho H (L.length - posG us g L) (by omega)
 have I := c_InsertG us L g pl (by omega)
 rw [← insG_pos] at I
 rw [show posG us g L + (L.length - posG us g L) = L.length by omega] at W
 have le : (insG us g L).length = L.length + 1 := by rw [insG_pos]; simp; omega
 have nM : (L.map (gcP 0 us)).length = L.length := by simp
 have nI : ((insG us g L).map (gcP 0 us)).length = L.length + 1 := by simp [le]
 have cM : ∀ e ∈ L.map (gcP 0 us),e.cells.length = 4 := fun e he => by
  obtain ⟨o,_,rfl⟩ := List.mem_map.1 he; rfl
 have cI : ∀ e ∈ (insG us g L).map (gcP 0 us),e.cells.length = 4 := fun e he => by
  obtain ⟨o,_,rfl⟩ := List.mem_map.1 he; rfl
 have lM := lend_gc 0 us L
 have lI := lend_gc 0 us (insG us g L)
 have aM := adopt_gc us L
 have aI := adopt_gc us (insG us g L)
 have tk : List.take L.length (L.map (gcP 0 us)) = L.map (gcP 0 us) := List.take_of_length_le (by simp)
 have leJ : lendL ((ni g).map DV.i) = (ni g).map .i := by simp
 have adJ : ∀ b,adoptL b ((ni g).map DV.i) = (ni g).map .i := fun b => by simp
 rw [call_k lf n_impl_inserted_impl_askedGroup _ (F := F_impl_inserted_impl_askedGroup) rfl rfl]
 have nI2 : ((insG us g L).map (gcP 2 us)).length = L.length + 1 := by simp [le]
 unfold stIg gcL at *
 generalize (insG us g L).map (gcP 2 us) = N2 at *
 generalize (insG us g L).map (gcP 0 us) = N at *
 generalize posG us g L = a at *
 generalize L.map (gcP 0 us) = M at *
 unfold gcP at *
 generalize (gIo us g).1 = x1 at *
 generalize (gIo us g).2.1 = x2 at *
 generalize (ni g).map DV.i = J at *
 generalize (6 : Int) ^ g.length = pw at *
 simp [F_impl_inserted_impl_askedGroup,W,I,leJ,adJ,nM,nI,aI,nI2,if_pos cM,if_pos cI,lM,lI,tk]
end
section
attribute [-simp] DV.cells
attribute [local simp] sliceD cells_st cells_sl cells_i cells_y cells_b cells_s cells_w
attribute [local simp] lend_eR al_eR lend_eN adopt_eN new_eN
theorem lend_gc2 (us : List T) (L : List (List Nat)) : lendL (L.map (gcP 2 us)) = L.map (gcP 0 us) := lend_gc 2 us L
theorem gIo_ok {us : List T} (h : us.all tOk = true) {g : List Nat} (hl : ∀ k ∈ g,k < us.length) : iOk (gIo us g) := by
 have b := gDt_bd h hl
 have n := grN_bd h hl
 exact ⟨b.1,n.1,n.2⟩
theorem sGi_sorted {us : List T} (h : us.all tOk = true) {m : Nat} {N : List (List Nat)} (hm : m = us.length) (G : Gok m N) (i : Nat) : (sGi us N i).Pairwise (fun a b => gLe (gIo us a) (gIo us b) = true) :=
 sG_sortedA h (N.take i) [] (fun g hg => by subst hm; exact G.lt g (List.mem_of_mem_take hg)) (fun k hk => by cases hk) List.Pairwise.nil
def stGr (us : List T) (A : List DV) (n K : Nat) (S : List (List Nat)) (i : Nat) : LS :=
 ⟨[(0,.sl 0 (us.map e2)),(6,.fn n_impl_groupsByRatios_1 []),(7,.own K S.length 0 S.length),(20,.sl 0 A),(21,.i n),(22,.i i)],[(K,S.map (gcP 2 us))]⟩
set_option maxHeartbeats 8000000 in
theorem gr_loop {us : List T} (h : tsOk us = true) {N : List (List Nat)} (G : Gok us.length N) (j : Nat) : ∀ (i K : Nat),(K = 3616 ∨ K = 15904) → i + j = N.length →
  ex lf F_impl_groupsByRatios_W0 (stGr us ((N.map ni).map eR) N.length K (sGi us N i) i) = some (.exit 0,stGr us ((N.map ni).map eR) N.length 3616 (sG us N) N.length) := by
 have h' := tsOk_iff.1 h
 have lN := rows_le G
 have lendA : lendL ((N.map ni).map eR) = (N.map ni).map eR := lend_eR _
 induction j with
 | zero =>
  intro i K hK hi
  have e : i = N.length := by omega
  subst e
  rw [w_impl_groupsByRatios_0,sGi_all]
  rcases hK with rfl | rfl <;> simp [stGr,F_impl_groupsByRatios_L0]
 | succ j ih =>
  intro i K hK hi
  have k2 := ih (i + 1) 15904 (.inr rfl) (by omega)
  have hlt : i < N.length := by omega
  have hlt' : (i : Int) < N.length := by omega
  obtain ⟨g,hg⟩ : ∃ g,N[i]? = some g := ⟨_,List.getElem?_eq_getElem hlt⟩
  have gm := List.mem_of_getElem? hg
  have gl := G.lt g gm
  have g5 : g.length ≤ 5 := by have := row_le G gm; omega
  have g1 : 1 ≤ g.length := by have := List.length_pos_iff.2 (G.ne g gm); omega
  have gnd : g.Nodup := by
   obtain ⟨A,B,hAB⟩ := List.append_of_mem gm
   have nd := G.nd
   rw [hAB,List.flatten_append,List.flatten_cons] at nd
   exact (List.nodup_append.1 (List.nodup_append.1 nd).2.1).1
  have C1 := c_impl_groupOf h g1 g5 gnd gl
  have ip := inT_perm us g
  have il : (inT us g).length = g.length := ip.length_eq
  have im : ∀ x ∈ inT us g,x < us.length := fun x hx => gl x (ip.mem_iff.1 hx)
  have ll := sGi_len us (N := N) (i := i) (by omega)
  have hm : ∀ o ∈ sGi us N i,gOk us o := fun o ho => by
   obtain ⟨q,hq,rfl⟩ := List.mem_map.1 ((sGi_perm us N i).mem_iff.1 ho)
   have qm := List.mem_of_mem_take hq
   have qp := inT_perm us q
   exact ⟨by have := row_le G qm; rw [qp.length_eq]; omega,fun x hx => G.lt q qm x (qp.mem_iff.1 hx)⟩
  have I := c_impl_insertedG h'.2 (g := inT us g) ⟨by omega,im⟩ (L := sGi us N i) (by omega) hm (sGi_sorted h'.2 rfl G i) (fun o ho => by
   rcases List.mem_cons.1 ho with rfl | ho
   ·exact gIo_ok h'.2 im
   ·exact gIo_ok h'.2 (hm o ho).2)
  have lI : (insG us (inT us g) (sGi us N i)).length = i + 1 := by rw [insG_pos]; simp; have := posG_le us (inT us g) (sGi us N i); omega
  rw [sGi_succ us hg] at k2
  have e1 : gcP 0 us (inT us g) = .st [.i (grC us g),.i (grN us g),.sl 0 ((ni (inT us g)).map .i),.i (6 ^ g.length)] := by
   have := inT_cost h'.2 gl
   unfold gI at this
   unfold gcP
   rw [this,il]
  rw [e1] at I
  have a1 : atI ((N.map ni).map eR) (i : Int) = some (.sl 0 ((ni g).map .i)) := at_eR (by rw [List.getElem?_map,hg]; rfl)
  have w1 := wr_succ (k := i) (by omega)
  have lM := lend_gc2 us (sGi us N i)
  have nM : ((sGi us N i).map (gcP 2 us)).length = i := by simp [ll]
  have nI : ((insG us (inT us g) (sGi us N i)).map (gcP 2 us)).length = i + 1 := by simp [lI]
  have aI := adopt_gc2 false us (insG us (inT us g) (sGi us N i))
  have lI2 := lend_gc2 us (insG us (inT us g) (sGi us N i))
  have cM : ∀ e ∈ (sGi us N i).map (gcP 0 us),e.cells.length = 4 := fun e he => by
   obtain ⟨o,_,rfl⟩ := List.mem_map.1 he; rfl
  have cM2 : ∀ e ∈ (sGi us N i).map (gcP 2 us),e.cells.length = 4 := fun e he => by
   obtain ⟨o,_,rfl⟩ := List.mem_map.1 he; rfl
  have cI : ∀ e ∈ (insG us (inT us g) (sGi us N i)).map (gcP 2 us),e.cells.length = 4 := fun e he => by
   obtain ⟨o,_,rfl⟩ := List.mem_map.1 he; rfl
  have tk : List.take i ((sGi us N i).map (gcP 2 us)) = (sGi us N i).map (gcP 2 us) := List.take_of_length_le (by simp [ll])
  have adJ : ∀ b,adoptL b ((ni (inT us g)).map DV.i) = (ni (inT us g)).map .i := fun b => by simp
  have leJ : lendL ((ni (inT us g)).map DV.i) = (ni (inT us g)).map .i := by simp
  unfold stGr at *
  rw [lI] at k2
  rw [ll] at ⊢
  rw [w_impl_groupsByRatios_0]
  generalize (insG us (inT us g) (sGi us N i)).map (gcP 2 us) = N2 at *
  generalize (sGi us N i).map (gcP 2 us) = M2 at *
  generalize (sGi us N i).map (gcP 0 us) = M at *
  generalize (sG us N).map (gcP 2 us) = R at *
  generalize (N.map ni).map eR = A at *
  generalize (ni (inT us g)).map DV.i = J at *
  generalize grC us g = D at *
  generalize grN us g = Q at *
  generalize (6 : Int) ^ g.length = pw at *
  rcases hK with rfl | rfl <;> simp [F_impl_groupsByRatios_L0,hlt,hlt',lendA,C1,a1,I,w1,lM,nM,nI,aI,lI2,if_pos cM,if_pos cM2,if_pos cI,tk,adJ,leJ,k2,-Int.natCast_add]
end
section
attribute [-simp] DV.cells
attribute [local simp] sliceD cells_st cells_sl cells_i cells_y cells_b cells_s cells_w
attribute [local simp] lend_eR al_eR lend_eN adopt_eN new_eN
theorem c_impl_groupsByRatios (us : List T) (L : List (List Int)) (ha : (us.length : Int) < 1099511627776) (hb : (L.length : Int) < 1099511627776) :
  call lf n_impl_groupsByRatios [.sl 0 (us.map e2),.sl 0 (L.map eR)] = some (.tup [.fr 4 ((sgL us L).map (gcP 2 us)),.b (tsOk us && gokB us.length L)],[]) := by
 rw [call_k lf n_impl_groupsByRatios _ (F := F_impl_groupsByRatios) rfl rfl]
 have C1 := c_impl_TestsOk us ha
 have C2 := c_impl_GroupsOk us.length L hb
 have lA : lendL (L.map eR) = L.map eR := lend_eR _
 cases h1 : tsOk us with
 | false =>
  rw [h1] at C1
  have e : sgL us L = [] := by unfold sgL; rw [h1]; rfl
  rw [e]
  simp [F_impl_groupsByRatios,C1]
 | true =>
  rw [h1] at C1
  cases h2 : gokB us.length L with
  | false =>
   rw [h2] at C2
   have e : sgL us L = [] := by unfold sgL; rw [h1,h2]; rfl
   rw [e]
   simp [F_impl_groupsByRatios,C1,C2,lA]
  | true =>
   rw [h2] at C2
   obtain ⟨N,rfl,G,_,_,e1,_⟩ := sgL_of (us := us) (L := L) (by rw [h1,h2]; rfl)
   have I := gr_loop h1 G N.length 0 3616 (.inl rfl) (by omega)
   have z : sGi us N 0 = [] := rfl
   rw [z] at I
   unfold stGr at I
   rw [e1]
   simp only [Int.natCast_zero,List.length_nil,List.map_nil] at I
   have nl : ((N.map ni).map eR).length = N.length := by simp
   have nR' : ((sG us N).map (gcP 2 us)).length = (sG us N).length := by simp
   have cR : ∀ e ∈ (sG us N).map (gcP 2 us),e.cells.length = 4 := fun e he => by
    obtain ⟨o,_,rfl⟩ := List.mem_map.1 he; rfl
   generalize (N.map ni).map eR = A at *
   generalize (sG us N).map (gcP 2 us) = R at *
   simp [F_impl_groupsByRatios,C1,C2,lA,I,nl,nR',if_pos cR]
def stIa (us : List T) (R : List (List Nat)) (av re : Int) (k : Nat) : LS :=
 ⟨[(7,.i av),(8,.i re),(22,.own 7201 R.length 0 R.length),(23,.i R.length),(24,.i k)],[(7201,R.map (gcP 2 us))]⟩
theorem at_gc {us : List T} {L : List (List Nat)} {k : Nat} {g : List Nat} (h : L[k]? = some g) : atI (L.map (gcP 2 us)) (k : Int) = some (gcP 2 us g) ∧ atN (L.map (gcP 2 us)) k = some (gcP 2 us g) := by
 have e : (L.map (gcP 2 us))[k]? = some (gcP 2 us g) := by rw [List.getElem?_map,h]; rfl
 refine ⟨?_,e⟩
 simp only [atI,if_pos (Int.natCast_nonneg k)]
 show (L.map (gcP 2 us))[(k : Int).toNat]? = _
 rw [Int.toNat_natCast]; exact e
set_option maxHeartbeats 8000000 in
theorem ia_loop {us : List T} (h : tsOk us = true) {S : List (List Nat)} (G : Gok us.length S) : ∀ (R : List (List Nat)) (k : Nat) (sum on : Int) (d : Nat),0 ≤ on → on ≤ 6 ^ d → d + R.flatten.length = us.length → 0 ≤ sum → sum ≤ 400000 * k → S.drop k = R → k + R.length = S.length →
  ∃ re : Int,ex lf F_impl_GroupAverage_W0 (stIa us S sum (on * 6 ^ R.flatten.length) k) = some (.exit 0,stIa us S (sum + on * gD (R.map (gIo us))) re S.length) := by
 have h' := tsOk_iff.1 h
 have lN := rows_le G
 intro R
 induction R with
 | nil =>
  intro k sum on d n0 n1 hdl s0 s1 hd hk
  have e : k = S.length := by simpa using hk
  subst e
  refine ⟨on,?_⟩
  rw [w_impl_GroupAverage_0]
  simp [stIa,F_impl_GroupAverage_L0,gD]
 | cons g R ih0 =>
  intro k sum on d n0 n1 hdl s0 s1 hd hk
  obtain ⟨k1,k2,k3⟩ := drop_cons hd
  simp only [List.length_cons] at hk
  rw [List.flatten_cons,List.length_append] at hdl
  have k1' : (k : Int) < S.length := by omega
  have gm := List.mem_of_getElem? k2
  have gl := G.lt g gm
  have g5 : g.length ≤ 5 := by have := row_le G gm; omega
  obtain ⟨a1,a2⟩ := at_gc (us := us) k2
  obtain ⟨b1,b2⟩ := grN_bd h'.2 gl
  obtain ⟨d1,d2⟩ := gDt_bd h'.2 gl
  have pg := p6 (n := g.length) g5
  have pR := p6 (n := R.flatten.length) (by omega)
  have pd := p6 (n := d) (by omega)
  have w1 := wr_succ (k := k) (by omega)
  have c45 : gD (g.map (itT us)) ≤ 45 * 6 ^ g.length := Int.le_trans d2 (Int.mul_le_mul_of_nonneg_right (by omega) (by omega))
  have ef : (6 : Int) ^ (g :: R).flatten.length = 6 ^ g.length * 6 ^ R.flatten.length := by rw [List.flatten_cons,List.length_append,Int.pow_add]
  have m00 : 0 ≤ on * 6 ^ R.flatten.length := Int.mul_nonneg n0 (by omega)
  have e5 : (6 : Int) ^ g.length * 6 ^ d * 6 ^ R.flatten.length ≤ 7776 := by
   rw [← Int.pow_add,← Int.pow_add]
   exact (p6 (by omega)).2
  have e55 : (6 : Int) ^ d * 6 ^ R.flatten.length ≤ 7776 := by
   rw [← Int.pow_add]
   exact (p6 (by omega)).2
  have m01 : on * 6 ^ R.flatten.length ≤ 6 ^ d * 6 ^ R.flatten.length := Int.mul_le_mul_of_nonneg_right n1 (by omega)
  have m2 : 0 ≤ gD (g.map (itT us)) * (on * 6 ^ R.flatten.length) := Int.mul_nonneg d1 m00
  have m3 : gD (g.map (itT us)) * (on * 6 ^ R.flatten.length) ≤ 349920 := by
   have : gD (g.map (itT us)) * (on * 6 ^ R.flatten.length) ≤ 45 * 6 ^ g.length * (6 ^ d * 6 ^ R.flatten.length) := Int.mul_le_mul c45 m01 m00 (by omega)
   have e : (45 : Int) * 6 ^ g.length * (6 ^ d * 6 ^ R.flatten.length) = 45 * (6 ^ g.length * 6 ^ d * 6 ^ R.flatten.length) := by grind
   omega
  have m4 : 0 ≤ on * (6 ^ g.length - grN us g) := Int.mul_nonneg n0 (by omega)
  have m5 : on * (6 ^ g.length - grN us g) ≤ 6 ^ (d + g.length) := by
   rw [Int.pow_add]
   exact Int.mul_le_mul n1 (by omega) (by omega) (by omega)
  have m6 : 0 ≤ on * 6 ^ R.flatten.length * (6 ^ g.length - grN us g) := Int.mul_nonneg m00 (by omega)
  have m7 : on * 6 ^ R.flatten.length * (6 ^ g.length - grN us g) ≤ 7776 * 7776 := Int.mul_le_mul (by omega) (by omega) (by omega) (by omega)
  have q1 : Int.tdiv (on * (6 ^ g.length * 6 ^ R.flatten.length)) (6 ^ g.length) = on * 6 ^ R.flatten.length := by
   rw [show on * ((6 : Int) ^ g.length * 6 ^ R.flatten.length) = on * 6 ^ R.flatten.length * 6 ^ g.length by grind]
   exact Int.mul_tdiv_cancel _ (by omega)
  have p0 : ¬ ((6 : Int) ^ g.length = 0) := by omega
  have w0 : wr (on * 6 ^ R.flatten.length) = on * 6 ^ R.flatten.length := wr_id (by omega) (by omega)
  have w4 : wr (gD (g.map (itT us)) * (on * 6 ^ R.flatten.length)) = gD (g.map (itT us)) * (on * 6 ^ R.flatten.length) := wr_id (by omega) (by omega)
  have w5 : wr (sum + gD (g.map (itT us)) * (on * 6 ^ R.flatten.length)) = sum + gD (g.map (itT us)) * (on * 6 ^ R.flatten.length) := wr_id (by omega) (by omega)
  have w6 : wr (6 ^ g.length - grN us g) = 6 ^ g.length - grN us g := wr_id (by omega) (by omega)
  have w7 : wr (on * 6 ^ R.flatten.length * (6 ^ g.length - grN us g)) = on * 6 ^ R.flatten.length * (6 ^ g.length - grN us g) := wr_id (by omega) (by omega)
  obtain ⟨re,ih⟩ := ih0 (k + 1) (sum + gD (g.map (itT us)) * (on * 6 ^ R.flatten.length)) (on * (6 ^ g.length - grN us g)) (d + g.length) m4 m5 (by omega) (by omega) (by omega) k3 (by omega)
  refine ⟨re,?_⟩
  have e : sum + on * gD ((g :: R).map (gIo us)) = sum + gD (g.map (itT us)) * (on * 6 ^ R.flatten.length) + on * (6 ^ g.length - grN us g) * gD (R.map (gIo us)) := by
   rw [List.map_cons]
   simp only [gD]
   rw [gIo_M]
   unfold gIo
   simp only
   grind
  have e7 : on * (6 ^ g.length - grN us g) * 6 ^ R.flatten.length = on * 6 ^ R.flatten.length * (6 ^ g.length - grN us g) := by grind
  have nS : (S.map (gcP 2 us)).length = S.length := by simp
  rw [e7] at ih
  rw [e,w_impl_GroupAverage_0,ef]
  unfold stIa at *
  have adJ : ∀ b,adoptL b ((ni g).map DV.i) = (ni g).map .i := fun b => by simp
  generalize S.map (gcP 2 us) = M at *
  unfold gcP at a1 a2
  unfold gIo at a1 a2
  simp only at a1 a2
  generalize (ni g).map DV.i = J at *
  generalize gD (R.map (gIo us)) = Z at *
  generalize gD (g.map (itT us)) = D at *
  generalize grN us g = Q at *
  generalize (6 : Int) ^ g.length = P6 at *
  generalize on * (P6 * 6 ^ R.flatten.length) = r0 at *
  generalize on * (6 : Int) ^ R.flatten.length = r1 at *
  simp [F_impl_GroupAverage_L0,k1,k1',nS,a1,a2,adJ,q1,p0,w0,w1,w4,w5,w6,w7,ih,-Int.natCast_add]
end
section
attribute [-simp] DV.cells
attribute [local simp] sliceD cells_st cells_sl cells_i cells_y cells_b cells_s cells_w
attribute [local simp] lend_eR al_eR lend_eN adopt_eN new_eN
theorem c_impl_GroupAverage (us : List T) (L : List (List Int)) (ha : (us.length : Int) < 1099511627776) (hb : (L.length : Int) < 1099511627776) :
  call lf n_impl_GroupAverage [.sl 0 (us.map e2),.sl 0 (L.map eR)] = some (.i (gaOf us L),[]) := by
 rw [call_k lf n_impl_GroupAverage _ (F := F_impl_GroupAverage) rfl rfl]
 have S := c_impl_groupsByRatios us L ha hb
 have lA : lendL (L.map eR) = L.map eR := lend_eR _
 cases h : (tsOk us && gokB us.length L) with
 | true =>
  obtain ⟨N,rfl,G,h1,h2,e1,e2'⟩ := sgL_of h
  have h1' := tsOk_iff.1 h1
  have GS := sG_gok (us := us) G
  rw [e1,h] at S
  rw [e2']
  have fl := gok_len GS
  obtain ⟨re,I⟩ := ia_loop h1 GS (sG us N) 0 0 1 0 (by omega) (by omega) (by omega) (by omega) (by omega) rfl (by omega)
  rw [fl,Int.one_mul,Int.one_mul,Int.zero_add] at I
  have eg : gD ((sG us N).map (gIo us)) = gA us N := rfl
  rw [eg] at I
  unfold stIa at I
  simp only [Int.natCast_zero] at I
  have W := c_impl_wholeOf (n := us.length) (by omega)
  have nl : ((sG us N).map (gcP 2 us)).length = (sG us N).length := by simp
  have ad := fun b => adopt_gc2 b us (sG us N)
  have cR : ∀ e ∈ (sG us N).map (gcP 2 us),e.cells.length = 4 := fun e he => by
   obtain ⟨o,_,rfl⟩ := List.mem_map.1 he; rfl
  generalize (N.map ni).map eR = A at *
  generalize (sG us N).map (gcP 2 us) = M at *
  simp [F_impl_GroupAverage,S,lA,nl,ad,if_pos cR,W,I]
 | false =>
  have e : sgL us L = [] := by unfold sgL; rw [h]; rfl
  have e' : gaOf us L = -1 := by unfold gaOf; rw [h]; rfl
  rw [e,h] at S
  rw [e']
  simp only [List.map_nil] at S
  simp [F_impl_GroupAverage,S,lA]
end
section
attribute [-simp] DV.cells
attribute [local simp] sliceD cells_st cells_sl cells_i cells_y cells_b cells_s cells_w
attribute [local simp] lend_eR al_eR lend_eN adopt_eN new_eN
theorem ga_all {us : List T} {R : List (List Int)} (h : (tsOk us && gokB us.length R) = true) :
  ∃ N : List (List Nat),R = N.map ni ∧ tsOk us = true ∧ Gok us.length N ∧ gaOf us R = gA us N ∧ 0 ≤ gA us N ∧ gtL us.length R = grL N ∧ tmOk us.length (grL N) = true ∧ (grL N).length ≤ 13 ∧ (∀ s,s < 2 ^ us.length → tv (grL N) s = gV N s) := by
 obtain ⟨N,rfl,G,h1,h2,_,e2⟩ := sgL_of h
 have h' := tsOk_iff.1 h1
 obtain ⟨t1,_,_,t4⟩ := gr_term (m := us.length) (by omega) (by omega) G
 have gb := grL_bd (by omega) G
 refine ⟨N,rfl,h1,G,e2,gA_nn h1 G,?_,t1,by omega,t4⟩
 unfold gtL; rw [h2,toNat_ni]; rfl
end
section
attribute [-simp] DV.cells sliceD
attribute [local simp] cells_st cells_sl cells_i cells_y cells_b cells_s cells_w
attribute [local simp] lend_e3 adopt_e3 new_e3 al_e3 lt_e3
attribute [local simp] lend_eR al_eR lend_eN adopt_eN new_eN
set_option maxHeartbeats 4000000 in
theorem l7_step {S : List (List Nat)} {p i k : Nat} {g : List Nat} (hS : S.length ≤ 5) (hp : S[p]? = some g) (hi : g[i]? = some k) (g5 : g.length ≤ 5) {n y : PT} {Q : List C3} (hq : Q.length + 1 + n.size + y.size ≤ 40)
  (G0 : call lf n_spec_l7Grow [.sl 0 ((S.map ni).map eR),.i p,.i ((i + 1 : Nat) : Int),.gv 3 ((Q ++ [((k : Int),(-1 : Int),(-1 : Int))]).map e3)] = some (.tup [.fr 3 ((Q ++ [((k : Int),(-1 : Int),(-1 : Int))] ++ ser n (Q.length + 1)).map e3),.i (rt n (Q.length + 1))],[]))
  (G1 : call lf n_spec_l7Grow [.sl 0 ((S.map ni).map eR),.i ((p + 1 : Nat) : Int),.i 0,.gv 3 ((Q ++ [((k : Int),(-1 : Int),(-1 : Int))] ++ ser n (Q.length + 1)).map e3)] = some (.tup [.fr 3 ((Q ++ [((k : Int),(-1 : Int),(-1 : Int))] ++ ser n (Q.length + 1) ++ ser y (Q.length + 1 + n.size)).map e3),.i (rt y (Q.length + 1 + n.size))],[])) :
  call lf n_spec_l7Grow [.sl 0 ((S.map ni).map eR),.i p,.i i,.gv 3 (Q.map e3)] = some (.tup [.fr 3 ((Q ++ ser (.ask k n y) Q.length).map e3),.i (rt (.ask k n y) Q.length)],[]) := by
 have hpl := (List.getElem?_eq_some_iff.1 hp).1
 have hil := (List.getElem?_eq_some_iff.1 hi).1
 have q1 : ((p : Int) == S.length) = false := beq_false_of_ne (by omega)
 have q2 : ((i : Int) == g.length) = false := beq_false_of_ne (by omega)
 have lS : ((S.map ni).map eR).length = S.length := by simp
 have lA : lendL ((S.map ni).map eR) = (S.map ni).map eR := lend_eR _
 have AS : atI ((S.map ni).map eR) (p : Int) = some (.sl 0 ((ni g).map .i)) := at_eR (by rw [List.getElem?_map,hp]; rfl)
 have lG : ((ni g).map DV.i).length = g.length := by simp [ni_len]
 have AG : atI ((ni g).map DV.i) (i : Int) = some (.i k) := by
  simp only [atI,if_pos (Int.natCast_nonneg i)]
  show ((ni g).map DV.i)[(i : Int).toNat]? = _
  rw [Int.toNat_natCast,List.getElem?_map]
  unfold ni
  rw [List.getElem?_map,hi]; rfl
 have w1 : wr ((p : Int) + 1) = ((p + 1 : Nat) : Int) := by rw [wr_id (by omega) (by omega)]; omega
 have w2 : wr ((i : Int) + 1) = ((i + 1 : Nat) : Int) := by rw [wr_id (by omega) (by omega)]; omega
 have lq : Q.length ≤ bound := by unfold bound; omega
 have lq1 : Q.length + 1 ≤ bound := by unfold bound; omega
 have ek : e3 ((k : Int),-1,-1) = .st [.i (k : Int),.i (-1),.i (-1)] := rfl
 have l0s := ser_len n (Q.length + 1)
 have l1s := ser_len y (Q.length + 1 + n.size)
 rw [call_k lf n_spec_l7Grow _ (F := F_spec_l7Grow) rfl rfl]
 simp only [ser]
 rw [show rt (PT.ask k n y) Q.length = (Q.length : Int) from rfl]
 have fin : ∀ a b : Int,((Q ++ [((k : Int),(-1 : Int),(-1 : Int))] ++ ser n (Q.length + 1) ++ ser y (Q.length + 1 + n.size)).map e3).set Q.length (.st [.i (k : Int),.i a,.i b]) = (Q ++ ((k : Int),a,b) :: (ser n (Q.length + 1) ++ ser y (Q.length + 1 + n.size))).map e3 := fun a b => by
  simp [e3]
 rw [← fin]
 have l2 : (Q ++ [((k : Int),(-1 : Int),(-1 : Int))] ++ ser n (Q.length + 1)).length = Q.length + 1 + n.size := by simp [ser_len]; omega
 have l3 : (Q ++ [((k : Int),(-1 : Int),(-1 : Int))] ++ ser n (Q.length + 1) ++ ser y (Q.length + 1 + n.size)).length = Q.length + 1 + n.size + y.size := by rw [List.length_append,l2,l1s]
 have ql : (Q.length : Int) < ((Q.length + 1 + n.size + y.size : Nat) : Int) := by omega
 have at1 : atN ((Q ++ [((k : Int),(-1 : Int),(-1 : Int))] ++ ser n (Q.length + 1) ++ ser y (Q.length + 1 + n.size)).map e3) Q.length = some (.st [.i k,.i (-1),.i (-1)]) := by
  rw [← ek]
  show (List.map e3 _)[Q.length]? = _
  simp
 generalize n.size = z0 at *
 generalize y.size = z1 at *
 generalize rt n (Q.length + 1) = R0 at *
 generalize rt y (Q.length + 1 + z0) = R1 at *
 generalize ser n (Q.length + 1) = S0 at *
 generalize ser y (Q.length + 1 + z0) = S1 at *
 have e1 : (Q ++ [((k : Int),(-1 : Int),(-1 : Int))]).map e3 = Q.map e3 ++ [.st [.i (k : Int),.i (-1),.i (-1)]] := by rw [List.map_append]; rfl
 rw [e1] at G0
 have h0 := lend_e3 (Q ++ [((k : Int),(-1 : Int),(-1 : Int))] ++ S0)
 have h1 := lend_e3 (Q ++ [((k : Int),(-1 : Int),(-1 : Int))] ++ S0 ++ S1)
 have lm2 : ((Q ++ [((k : Int),(-1 : Int),(-1 : Int))] ++ S0).map e3).length = Q.length + 1 + z0 := by rw [List.length_map,l2]
 have lm3 : ((Q ++ [((k : Int),(-1 : Int),(-1 : Int))] ++ S0 ++ S1).map e3).length = Q.length + 1 + z0 + z1 := by rw [List.length_map,l3]
 have a0 := fun o => adopt_e3 o (Q ++ [((k : Int),(-1 : Int),(-1 : Int))] ++ S0)
 have a1 := fun o => adopt_e3 o (Q ++ [((k : Int),(-1 : Int),(-1 : Int))] ++ S0 ++ S1)
 have n0 := new_e3 (Q ++ [((k : Int),(-1 : Int),(-1 : Int))] ++ S0)
 have n1 := new_e3 (Q ++ [((k : Int),(-1 : Int),(-1 : Int))] ++ S0 ++ S1)
 generalize (Q ++ [((k : Int),(-1 : Int),(-1 : Int))] ++ S0 ++ S1).map e3 = M1 at *
 generalize (Q ++ [((k : Int),(-1 : Int),(-1 : Int))] ++ S0).map e3 = M0 at *
 have lE := lend_e3 Q
 have tkE := tk_e3 Q
 have aE := fun o => adopt_e3 o Q
 have cE : ∀ e ∈ Q.map e3,e.cells.length = 3 := fun e he => by
  obtain ⟨x,_,rfl⟩ := List.mem_map.1 he
  rfl
 have lmQ : (Q.map e3).length = Q.length := by simp
 generalize Q.map e3 = E at *
 generalize Q.length = qn at *
 generalize (S.map ni).map eR = A at *
 have lJ : lendL ((ni g).map DV.i) = (ni g).map .i := by simp
 generalize (ni g).map DV.i = J at *
 simp [F_spec_l7Grow,q1,q2,lS,lA,lJ,AS,lG,AG,w1,w2,lq,lq1,lmQ,lE,aE,tkE,if_pos cE,G0,G1,lm2,lm3,h0,h1,a0,a1,n0,n1,ql,at1,-Int.natCast_add]
theorem l7_end {S : List (List Nat)} (hS : S.length ≤ 5) (Q : List C3) : call lf n_spec_l7Grow [.sl 0 ((S.map ni).map eR),.i S.length,.i 0,.gv 3 (Q.map e3)] = some (.tup [.fr 3 (Q.map e3),.i (-1)],[]) := by
 have lS : ((S.map ni).map eR).length = S.length := by simp
 have tk := tk_e3 Q
 rw [call_k lf n_spec_l7Grow _ (F := F_spec_l7Grow) rfl rfl]
 generalize (S.map ni).map eR = A at *
 simp [F_spec_l7Grow,lS,tk]
theorem l7_none {S : List (List Nat)} {p : Nat} {g : List Nat} (hS : S.length ≤ 5) (hp : S[p]? = some g) (Q : List C3) : call lf n_spec_l7Grow [.sl 0 ((S.map ni).map eR),.i p,.i g.length,.gv 3 (Q.map e3)] = some (.tup [.fr 3 (Q.map e3),.i (-1)],[]) := by
 have hpl := (List.getElem?_eq_some_iff.1 hp).1
 have q1 : ((p : Int) == S.length) = false := beq_false_of_ne (by omega)
 have lS : ((S.map ni).map eR).length = S.length := by simp
 have lA : lendL ((S.map ni).map eR) = (S.map ni).map eR := lend_eR _
 have AS : atI ((S.map ni).map eR) (p : Int) = some (.sl 0 ((ni g).map .i)) := at_eR (by rw [List.getElem?_map,hp]; rfl)
 have lG : ((ni g).map DV.i).length = g.length := by simp [ni_len]
 have tk := tk_e3 Q
 rw [call_k lf n_spec_l7Grow _ (F := F_spec_l7Grow) rfl rfl]
 generalize (S.map ni).map eR = A at *
 generalize (ni g).map DV.i = J at *
 simp [F_spec_l7Grow,q1,lS,lA,AS,lG,tk]
theorem c_spec_l7Grow {S : List (List Nat)} (hS : S.length ≤ 5) (h5 : ∀ g ∈ S,g.length ≤ 5) : ∀ (R A : List (List Nat)) (Q : List C3),S = A ++ R → Q.length + (gT R).size ≤ 40 →
  call lf n_spec_l7Grow [.sl 0 ((S.map ni).map eR),.i A.length,.i 0,.gv 3 (Q.map e3)] = some (.tup [.fr 3 ((Q ++ ser (gT R) Q.length).map e3),.i (rt (gT R) Q.length)],[])
 | [],A,Q,hA,_ => by
  have e : A = S := by rw [hA,List.append_nil]
  rw [e]
  simp only [gT,ser,rt,List.append_nil]
  exact l7_end hS Q
 | g :: R,A,Q,hA,hq => by
  have ih := c_spec_l7Grow hS h5 R (A ++ [g])
  have hp : S[A.length]? = some g := by rw [hA]; simp
  have gm : g ∈ S := by rw [hA]; simp
  have key : ∀ (r g0 : List Nat) (Q : List C3),g = g0 ++ r → Q.length + (gG r (gT R)).size ≤ 40 → call lf n_spec_l7Grow [.sl 0 ((S.map ni).map eR),.i A.length,.i g0.length,.gv 3 (Q.map e3)] = some (.tup [.fr 3 ((Q ++ ser (gG r (gT R)) Q.length).map e3),.i (rt (gG r (gT R)) Q.length)],[]) := by
   intro r
   induction r with
   | nil =>
    intro g0 Q hg _
    have e : g0 = g := by rw [hg,List.append_nil]
    rw [e]
    simp only [gG,ser,rt,List.append_nil]
    exact l7_none hS hp Q
   | cons k r ihr =>
    intro g0 Q hg hq
    simp only [gG,PT.size] at hq ⊢
    have hi : g[g0.length]? = some k := by rw [hg]; simp
    have G0 := ihr (g0 ++ [k]) (Q ++ [((k : Int),(-1 : Int),(-1 : Int))]) (by rw [hg]; simp) (by simp; omega)
    have G1 := ih (Q ++ [((k : Int),(-1 : Int),(-1 : Int))] ++ ser (gG r (gT R)) (Q.length + 1)) (by rw [hA]; simp) (by simp [ser_len]; omega)
    have l1 : (Q ++ [((k : Int),(-1 : Int),(-1 : Int))]).length = Q.length + 1 := by simp
    have l2 : (Q ++ [((k : Int),(-1 : Int),(-1 : Int))] ++ ser (gG r (gT R)) (Q.length + 1)).length = Q.length + 1 + (gG r (gT R)).size := by simp [ser_len]; omega
    rw [l1,show (g0 ++ [k]).length = g0.length + 1 by simp] at G0
    rw [l2,show (A ++ [g]).length = A.length + 1 by simp] at G1
    exact l7_step hS hp hi (h5 g gm) (by omega) G0 G1
  have := key g [] Q rfl (by simpa [gT] using hq)
  simpa [gT] using this
end
section
attribute [-simp] DV.cells
attribute [local simp] sliceD cells_st cells_sl cells_i cells_y cells_b cells_s cells_w
attribute [local simp] lend_eR al_eR lend_eN adopt_eN new_eN
/-- the states in which one of some tests comes out yes -/
def orW (g : List Nat) : BitVec 32 := g.foldl (fun a k => a ||| yesW k) 0#32
theorem orW_bitA {s : Nat} (hs : s < 32) : ∀ (g : List Nat) (a : BitVec 32),(∀ k ∈ g,k < 5) → (g.foldl (fun a k => a ||| yesW k) a).getLsbD s = (a.getLsbD s || g.any fun k => s.testBit k)
 | [],a,_ => by simp
 | k :: r,a,h => by
  have y := yes_bit ⟨k,h k List.mem_cons_self⟩ ⟨s,hs⟩
  simp only at y
  rw [List.foldl_cons,orW_bitA hs r _ (fun x hx => h x (List.mem_cons_of_mem _ hx)),BitVec.getLsbD_or,y,List.any_cons,Bool.or_assoc]
theorem orW_bit {s : Nat} (hs : s < 32) {g : List Nat} (h : ∀ k ∈ g,k < 5) : (orW g).getLsbD s = g.any fun k => s.testBit k := by
 unfold orW
 rw [orW_bitA hs g _ h]
 simp
def stWy (es : List DV) (w : BitVec 32) (n k : Int) : LS := ⟨[(3,.w w),(6,.sl 0 es),(7,.i n),(8,.i k),(1048578,.adr (.st [.w 2863311530#32,.w 3435973836#32,.w 4042322160#32,.w 4278255360#32,.w 4294901760#32]))],[]⟩
set_option maxHeartbeats 4000000 in
theorem c_impl_statesWithYes {g : List Nat} (hg : ∀ k ∈ g,k < 5) (hl : g.length ≤ 5) : call lf n_impl_statesWithYes [.sl 0 ((ni g).map .i)] = some (.w (orW g),[]) := by
 have nl : ((ni g).map DV.i).length = g.length := by simp [ni_len]
 have L : ex lf F_impl_statesWithYes_W0 (stWy ((ni g).map .i) 0#32 g.length 0) = some (.exit 0,stWy ((ni g).map .i) (orW g) g.length g.length) := by
  have e0 : (0#32 : BitVec 32) = orW (g.take 0) := rfl
  have e9 : orW g = orW (g.take g.length) := by rw [List.take_length]
  rw [e0,e9]
  refine loop_count g.length (fun i => stWy ((ni g).map .i) (orW (g.take i)) g.length i) (fun i hi => ?_) ?_ (by simp)
  ·have hi' : (i : Int) < g.length := by omega
   obtain ⟨k,hk⟩ : ∃ k,g[i]? = some k := ⟨_,List.getElem?_eq_getElem hi⟩
   have k5 := hg k (List.mem_of_getElem? hk)
   have k5' : (k : Int) < 5 := by omega
   have y := yes_at k5
   have A : atI ((ni g).map DV.i) (i : Int) = some (.i k) := by
    simp only [atI,if_pos (Int.natCast_nonneg i)]
    show ((ni g).map DV.i)[(i : Int).toNat]? = _
    rw [Int.toNat_natCast,List.getElem?_map]
    unfold ni
    rw [List.getElem?_map,hk]; rfl
   have e : orW (g.take (i + 1)) = orW (g.take i) ||| yesW k := by
    unfold orW
    rw [List.take_add_one,hk,Option.toList_some,List.foldl_append]; rfl
   have w1 := wr_succ (k := i) (by omega)
   rw [e]
   generalize orW (g.take i) = W at *
   generalize (ni g).map DV.i = es at *
   simp [stWy,F_impl_statesWithYes_L0,hi',A,y,k5',w1,-Int.natCast_add]
  ·simp [stWy,F_impl_statesWithYes_L0]
 unfold stWy at L
 rw [call_k lf n_impl_statesWithYes _ (F := F_impl_statesWithYes) rfl rfl]
 generalize (ni g).map DV.i = es at *
 simp [F_impl_statesWithYes,gEnv_2,nl,L]
/-- is it open whether one of a group comes out yes? -/
def opG (ks : List Int) (g : List Nat) : Bool := vaW (orW g) (lfW ks) == -1
def stWi (A : List DV) (f : DV) (n k : Int) : LS := ⟨[(0,.sl 0 A),(1,f),(7,.i n),(8,.i k)],[]⟩
/-- the first of a list that holds -/
theorem c_impl_nextInGroups_1 {m : Nat} {t us : List T} {ks : List Int} {g : List Nat} (hg : ∀ k ∈ g,k < 5) (hl : g.length ≤ 5) :
  call lf n_impl_nextInGroups_1 [gcP 0 us g,.adr (pD m t ks)] = some (.b (opG ks g),[]) := by
 have C1 := c_impl_statesWithYes hg hl
 have C2 := c_impl_valueAmong (orW g) (lfW ks)
 have lJ : lendL ((ni g).map DV.i) = (ni g).map .i := by simp
 have adJ : ∀ b,adoptL b ((ni g).map DV.i) = (ni g).map .i := fun b => by simp
 rw [call_k lf n_impl_nextInGroups_1 _ (F := F_impl_nextInGroups_1) rfl rfl]
 unfold opG gcP pD pv
 generalize (gIo us g).1 = x1 at *
 generalize (gIo us g).2.1 = x2 at *
 generalize (6 : Int) ^ g.length = pw at *
 generalize orW g = W at *
 generalize (ni g).map DV.i = J at *
 simp [F_impl_nextInGroups_1,C1,C2,lJ,adJ]
set_option maxHeartbeats 4000000 in
theorem c_IndexG {m : Nat} {t us : List T} {ks : List Int} {S : List (List Nat)} (hS : S.length ≤ 5) (h5 : ∀ g ∈ S,g.length ≤ 5 ∧ ∀ k ∈ g,k < 5) {A B : List (List Nat)} {g : List Nat} (e : S = A ++ g :: B) (hA : ∀ x ∈ A,opG ks x = false) (hg : opG ks g = true) :
  call lf n_slices_IndexFunc_impl_askedGroup_impl_askedGroup [.sl 0 (S.map (gcP 0 us)),.fn n_impl_nextInGroups_1 [.adr (pD m t ks)]] = some (.i A.length,[]) := by
 have nS : (S.map (gcP 0 us)).length = S.length := by simp
 have CA : ∀ (i : Nat) (x : List Nat),S[i]? = some x → atI (S.map (gcP 0 us)) (i : Int) = some (gcP 0 us x) ∧ call lf n_impl_nextInGroups_1 [gcP 0 us x,.adr (pD m t ks)] = some (.b (opG ks x),[]) := fun i x hx => by
  refine ⟨?_,c_impl_nextInGroups_1 (h5 x (List.mem_of_getElem? hx)).2 (h5 x (List.mem_of_getElem? hx)).1⟩
  simp only [atI,if_pos (Int.natCast_nonneg i)]
  show (S.map (gcP 0 us))[(i : Int).toNat]? = _
  rw [Int.toNat_natCast,List.getElem?_map,hx]; rfl
 have key : ∀ (d i : Nat),i + d = A.length → ex lf F_slices_IndexFunc_impl_askedGroup_impl_askedGroup_W0 (stWi (S.map (gcP 0 us)) (.fn n_impl_nextInGroups_1 [.adr (pD m t ks)]) S.length i) = some (.ret,⟨[(4,.i A.length)],[]⟩) := by
  intro d
  induction d with
  | zero =>
   intro i hi
   have hi : i = A.length := by omega
   subst hi
   have lt : A.length < S.length := by rw [e]; simp
   have lt' : (A.length : Int) < S.length := by omega
   obtain ⟨a1,c1⟩ := CA A.length g (by rw [e]; simp)
   rw [hg] at c1
   have gl : lendL (gcP 0 us g).cells = (gcP 0 us g).cells := by simp [gcP,DV.cells]
   rw [w_slices_IndexFunc_impl_askedGroup_impl_askedGroup_0]
   unfold stWi
   generalize S.map (gcP 0 us) = M at *
   have lJ : lendL ((ni g).map DV.i) = (ni g).map .i := by simp
   unfold gcP at *
   unfold pD pv at *
   generalize (ni g).map DV.i = J at *
   simp [F_slices_IndexFunc_impl_askedGroup_impl_askedGroup_L0,lt,lt',a1,c1,lJ,-Int.natCast_add]
  | succ d ih =>
   intro i hi
   have ih := ih (i + 1) (by omega)
   have lt : i < S.length := by rw [e]; simp; omega
   have lt' : (i : Int) < S.length := by omega
   obtain ⟨x,hx⟩ : ∃ x,A[i]? = some x := ⟨_,List.getElem?_eq_getElem (by omega)⟩
   obtain ⟨a1,c1⟩ := CA i x (by rw [e,List.getElem?_append_left (by omega)]; exact hx)
   rw [hA x (List.mem_of_getElem? hx)] at c1
   have w1 := wr_succ (k := i) (by omega)
   rw [w_slices_IndexFunc_impl_askedGroup_impl_askedGroup_0]
   unfold stWi at *
   generalize S.map (gcP 0 us) = M at *
   have lJ : lendL ((ni x).map DV.i) = (ni x).map .i := by simp
   unfold gcP at *
   unfold pD pv at *
   generalize (ni x).map DV.i = J at *
   simp [F_slices_IndexFunc_impl_askedGroup_impl_askedGroup_L0,lt,lt',a1,c1,lJ,w1,ih,-Int.natCast_add]
 have K := key A.length 0 (by omega)
 unfold stWi at K
 simp only [Int.natCast_zero] at K
 rw [call_k lf n_slices_IndexFunc_impl_askedGroup_impl_askedGroup _ (F := F_slices_IndexFunc_impl_askedGroup_impl_askedGroup) rfl rfl]
 generalize S.map (gcP 0 us) = M at *
 unfold pD pv at *
 simp [F_slices_IndexFunc_impl_askedGroup_impl_askedGroup,nS,K]
/-- the first test of a row that may be asked -/
theorem c_IndexI {m : Nat} (hm : m ≤ 5) {t : List T} {ks : List Int} (hl : ks.length = m) {g P r : List Nat} {k : Nat} (g5 : g.length ≤ 5) (e : g = P ++ k :: r) (hP : ∀ x ∈ P,caK m ks x = false) (hk : caK m ks k = true) :
  call lf n_slices_IndexFunc_int_int [.sl 0 ((ni g).map .i),.fn n_impl_point_canAsk (.dead :: (pD m t ks).cells)] = some (.i P.length,[]) := by
 have nS : ((ni g).map DV.i).length = g.length := by simp [ni_len]
 have CA : ∀ (i : Nat) (x : Nat),g[i]? = some x → atI ((ni g).map DV.i) (i : Int) = some (.i x) ∧ call lf n_impl_point_canAsk [pD m t ks,.i x] = some (.b (caK m ks x),[]) := fun i x hx => by
  refine ⟨?_,c_canAsk hm hl x⟩
  simp only [atI,if_pos (Int.natCast_nonneg i)]
  show ((ni g).map DV.i)[(i : Int).toNat]? = _
  rw [Int.toNat_natCast,List.getElem?_map]
  unfold ni
  rw [List.getElem?_map,hx]; rfl
 have key : ∀ (d i : Nat),i + d = P.length → ex lf F_slices_IndexFunc_int_int_W0 (stWi ((ni g).map .i) (.fn n_impl_point_canAsk (.dead :: (pD m t ks).cells)) g.length i) = some (.ret,⟨[(4,.i P.length)],[]⟩) := by
  intro d
  induction d with
  | zero =>
   intro i hi
   have hi : i = P.length := by omega
   subst hi
   have lt : P.length < g.length := by rw [e]; simp
   have lt' : (P.length : Int) < g.length := by omega
   obtain ⟨a1,c1⟩ := CA P.length k (by rw [e]; simp)
   rw [hk] at c1
   rw [w_slices_IndexFunc_int_int_0]
   unfold stWi
   generalize (ni g).map DV.i = M at *
   unfold pD pv at *
   simp [F_slices_IndexFunc_int_int_L0,lt,lt',a1,c1,-Int.natCast_add]
  | succ d ih =>
   intro i hi
   have ih := ih (i + 1) (by omega)
   have lt : i < g.length := by rw [e]; simp; omega
   have lt' : (i : Int) < g.length := by omega
   obtain ⟨x,hx⟩ : ∃ x,P[i]? = some x := ⟨_,List.getElem?_eq_getElem (by omega)⟩
   obtain ⟨a1,c1⟩ := CA i x (by rw [e,List.getElem?_append_left (by omega)]; exact hx)
   rw [hP x (List.mem_of_getElem? hx)] at c1
   have w1 := wr_succ (k := i) (by omega)
   rw [w_slices_IndexFunc_int_int_0]
   unfold stWi at *
   generalize (ni g).map DV.i = M at *
   unfold pD pv at *
   simp only [cells_st] at ih
   simp [F_slices_IndexFunc_int_int_L0,lt,lt',a1,c1,w1,ih,-Int.natCast_add]
 have K := key P.length 0 (by omega)
 unfold stWi at K
 simp only [Int.natCast_zero] at K
 rw [call_k lf n_slices_IndexFunc_int_int _ (F := F_slices_IndexFunc_int_int) rfl rfl]
 generalize (ni g).map DV.i = M at *
 unfold pD pv at *
 simp only [cells_st] at K
 simp [F_slices_IndexFunc_int_int,nS,K]
end
section
attribute [-simp] DV.cells
attribute [local simp] sliceD cells_st cells_sl cells_i cells_y cells_b cells_s cells_w
attribute [local simp] lend_e3 adopt_e3 new_e3 al_e3 lt_e3
set_option maxHeartbeats 8000000 in
theorem pf_stepG {m : Nat} {t : List T} {GG : List DV} {ks : List Int} {k place : Nat} (lG : lendL GG = GG) (ht : tmOk m t = true) (hm : m ≤ 5) (hl : ks.length = m) (hk : ks.all kOk = true) (hc : fcd m t ks = false) (hkk : ks[k]? = some (-1)) {N Y : List C3} (hb : place + 1 + N.length + Y.length ≤ 100)
  (CA : call lf n_impl_GroupPlan_1 ([pD m t ks] ++ [.adr (.sl 0 GG)]) = some (.i k,[]))
  (R0 : call lf n_impl_planFrom [pD m t (ks.set k 0),.i ((place + 1 : Nat) : Int),.fn n_impl_GroupPlan_1 [.adr (.sl 0 GG)]] = some (.fr 3 (N.map e3),[]))
  (R1 : call lf n_impl_planFrom [pD m t (ks.set k 1),.i ((place + 1 + N.length : Nat) : Int),.fn n_impl_GroupPlan_1 [.adr (.sl 0 GG)]] = some (.fr 3 (Y.map e3),[])) :
  call lf n_impl_planFrom [pD m t ks,.i place,.fn n_impl_GroupPlan_1 [.adr (.sl 0 GG)]] = some (.fr 3 ((lay3 k place N Y).map e3),[]) := by
 have F := c_isForced ht hl hk
 rw [hc] at F
 have B0 := c_answered (m := m) (t := t) false (by omega) hk hkk
 have B1 := c_answered (m := m) (t := t) true (by omega) hk hkk
 rw [bI_0] at B0
 rw [bI_1] at B1
 have w1 : wr ((place : Int) + 1) = ((place + 1 : Nat) : Int) := by rw [wr_id (by omega) (by omega)]; omega
 have w2 : wr (((place + 1 : Nat) : Int) + (N.length : Int)) = ((place + 1 + N.length : Nat) : Int) := by rw [wr_id (by omega) (by omega)]; omega
 have cN := cells_e3 N
 have cY := cells_e3 Y
 have lN : (N.map e3).length = N.length := by simp
 have lY : (Y.map e3).length = Y.length := by simp
 have eN := lend_e3 N
 have eY := lend_e3 Y
 have aN' := fun x => adopt_e3 x N
 have aY' := fun x => adopt_e3 x Y
 have nN := new_e3 N
 have nY := new_e3 Y
 have CC := fun (a b : Int) => c_Concat (A := [.st [.i k,.i a,.i b]]) (B := N.map e3) (C := Y.map e3) (by simp) (by simp; omega) (fun e he => by
  have : e = .st [.i k,.i a,.i b] := by simpa using he
  rw [this]; rfl) cN cY
 have fin : (lay3 k place N Y).map e3 = [.st [.i k,.i (if N = [] then -1 else ((place + 1 : Nat) : Int)),.i (if Y = [] then -1 else ((place + 1 + N.length : Nat) : Int))]] ++ N.map e3 ++ Y.map e3 := by
  unfold lay3
  simp [e3]
 rw [fin]
 have tN : List.take N.length (N.map e3) = N.map e3 := List.take_of_length_le (by simp)
 have tY : List.take Y.length (Y.map e3) = Y.map e3 := List.take_of_length_le (by simp)
 rw [call_k lf n_impl_planFrom _ (F := F_impl_planFrom) rfl rfl]
 unfold pD pv at *
 simp only [List.cons_append,List.nil_append] at CA
 have gN : 0 < N.length ↔ N ≠ [] := List.length_pos_iff
 have gY : 0 < Y.length ↔ Y ≠ [] := List.length_pos_iff
 by_cases hN : N = []
 ·have pN : ¬ 0 < N.length := fun h => gN.1 h hN
  rw [if_pos hN]
  by_cases hY : Y = []
  ·have pY : ¬ 0 < Y.length := fun h => gY.1 h hY
   rw [if_pos hY]
   clear hN hY gN gY fin
   generalize N.map e3 = M at *
   generalize Y.map e3 = Q at *
   generalize N.length = n at *
   generalize Y.length = y at *
   simp [F_impl_planFrom,lG,F,CA,B0,B1,R0,R1,w1,w2,pN,pY,CC,lN,lY,eN,eY,aN',aY',nN,nY,tN,tY,if_pos cN,if_pos cY,-Int.natCast_add]
  ·have pY : 0 < Y.length := gY.2 hY
   rw [if_neg hY]
   clear hN hY gN gY fin
   generalize N.map e3 = M at *
   generalize Y.map e3 = Q at *
   generalize N.length = n at *
   generalize Y.length = y at *
   simp [F_impl_planFrom,lG,F,CA,B0,B1,R0,R1,w1,w2,pN,pY,CC,lN,lY,eN,eY,aN',aY',nN,nY,tN,tY,if_pos cN,if_pos cY,-Int.natCast_add]
 ·have pN : 0 < N.length := gN.2 hN
  rw [if_neg hN]
  by_cases hY : Y = []
  ·have pY : ¬ 0 < Y.length := fun h => gY.1 h hY
   rw [if_pos hY]
   clear hN hY gN gY fin
   generalize N.map e3 = M at *
   generalize Y.map e3 = Q at *
   generalize N.length = n at *
   generalize Y.length = y at *
   simp [F_impl_planFrom,lG,F,CA,B0,B1,R0,R1,w1,w2,pN,pY,CC,lN,lY,eN,eY,aN',aY',nN,nY,tN,tY,if_pos cN,if_pos cY,-Int.natCast_add]
  ·have pY : 0 < Y.length := gY.2 hY
   rw [if_neg hY]
   clear hN hY gN gY fin
   generalize N.map e3 = M at *
   generalize Y.map e3 = Q at *
   generalize N.length = n at *
   generalize Y.length = y at *
   simp [F_impl_planFrom,lG,F,CA,B0,B1,R0,R1,w1,w2,pN,pY,CC,lN,lY,eN,eY,aN',aY',nN,nY,tN,tY,if_pos cN,if_pos cY,-Int.natCast_add]
theorem pf_stopG {m : Nat} {t : List T} {GG : List DV} {ks : List Int} {place : Nat} (lG : lendL GG = GG) (ht : tmOk m t = true) (hl : ks.length = m) (hk : ks.all kOk = true) (hc : fcd m t ks = true) :
  call lf n_impl_planFrom [pD m t ks,.i place,.fn n_impl_GroupPlan_1 [.adr (.sl 0 GG)]] = some (.fr 3 [],[]) := by
 have F := c_isForced ht hl hk
 rw [hc] at F
 rw [call_k lf n_impl_planFrom _ (F := F_impl_planFrom) rfl rfl]
 unfold pD pv at *
 simp [F_impl_planFrom,lG,F]
end
section
attribute [-simp] DV.cells
attribute [local simp] sliceD cells_st cells_sl cells_i cells_y cells_b cells_s cells_w
attribute [local simp] lend_eR al_eR lend_eN adopt_eN new_eN
attribute [local simp] lend_e3 adopt_e3 new_e3 al_e3 lt_e3
theorem vaW_one {v w : BitVec 32} (h : ∀ s,s < 32 → w.getLsbD s = true → v.getLsbD s = true) : vaW v w = 1 := by
 have e : v &&& w = w := by
  apply BitVec.eq_of_getLsbD_eq
  intro s hs
  rw [BitVec.getLsbD_and]
  cases hw : w.getLsbD s with
  | false => simp
  | true => simp [h s hs hw]
 unfold vaW
 rw [e]; simp
theorem vaW_open {v w : BitVec 32} {s0 s1 : Nat} (h0 : w.getLsbD s0 = true) (h1 : v.getLsbD s0 = false) (h2 : w.getLsbD s1 = true) (h3 : v.getLsbD s1 = true) : vaW v w = -1 := by
 have e1 : (v &&& w == w) = false := beq_false_of_ne fun e => by
  have := congrArg (fun x => x.getLsbD s0) e
  simp [BitVec.getLsbD_and,h0,h1] at this
 have e2 : (v &&& w == 0#32) = false := beq_false_of_ne fun e => by
  have := congrArg (fun x => x.getLsbD s1) e
  simp [BitVec.getLsbD_and,h2,h3] at this
 unfold vaW
 rw [e1,e2]; rfl
theorem st_lt {m s : Nat} (hm : m ≤ 5) (h : s < 2 ^ m) : s < 32 := Nat.lt_of_lt_of_le h (Nat.pow_le_pow_right (n := 2) (by omega) hm)
theorem opG_yes {ks : List Int} {g : List Nat} (hk : ks.all kOk = true) (hl : ks.length ≤ 5) (hg : ∀ k ∈ g,k < 5) (h : gYes ks g = true) : opG ks g = false := by
 unfold gYes at h
 obtain ⟨k,k1,k2⟩ := List.any_eq_true.1 h
 rw [beq_iff_eq] at k2
 have e : vaW (orW g) (lfW ks) = 1 := vaW_one fun s hs hw => by
  rw [lfW_bit hk hl hs] at hw
  rw [orW_bit hs hg,List.any_eq_true]
  refine ⟨k,k1,?_⟩
  have := (agB_iff.1 hw k 1 k2).resolve_left (by omega)
  cases hb : s.testBit k with
  | true => rfl
  | false => rw [hb] at this; simp [bI] at this
 unfold opG
 rw [e]; rfl
theorem opG_open {ks : List Int} {g : List Nat} {k : Nat} (hk : ks.all kOk = true) (hl : ks.length ≤ 5) (hg : ∀ k ∈ g,k < 5) (hkg : k ∈ g) (hu : ks[k]? = some (-1)) (h : ∀ j ∈ g,ks[j]? = some 0 ∨ ks[j]? = some (-1)) : opG ks g = true := by
 have c1 := kOk_set hk k true
 rw [bI_1] at c1
 obtain ⟨s1,a1,a2⟩ := agB_some c1
 rw [List.length_set] at a1
 have a3 : agB ks s1 = true := by
  rw [agB_iff] at a2 ⊢
  intro j v hj
  by_cases e : k = j
  ·subst e; rw [hu] at hj; injection hj with hj; exact .inl hj.symm
  ·exact a2 j v (by rw [List.getElem?_set_ne e]; exact hj)
 have a4 : s1.testBit k = true := by
  have := (agB_iff.1 a2 k 1 (by rw [List.getElem?_set_self (List.getElem?_eq_some_iff.1 hu).1])).resolve_left (by omega)
  cases hb : s1.testBit k with
  | true => rfl
  | false => rw [hb] at this; simp [bI] at this
 have c0 : (ks.map fun v => if v = -1 then 0 else v).all kOk = true := by
  rw [List.all_eq_true] at hk ⊢
  intro x hx
  obtain ⟨v,hv,rfl⟩ := List.mem_map.1 hx
  by_cases e : v = -1
  ·rw [if_pos e]; decide
  ·rw [if_neg e]; exact hk v hv
 obtain ⟨s0,b1,b2⟩ := agB_some c0
 rw [List.length_map] at b1
 have b3 : agB ks s0 = true := by
  rw [agB_iff] at b2 ⊢
  intro j v hj
  by_cases e : v = -1
  ·exact .inl e
  ·exact b2 j v (by rw [List.getElem?_map,hj]; simp [e])
 have b4 : ∀ j ∈ g,s0.testBit j = false := fun j hj => by
  have e : (ks.map fun v => if v = -1 then 0 else v)[j]? = some 0 := by
   rw [List.getElem?_map]
   rcases h j hj with h | h <;> rw [h] <;> rfl
  have := (agB_iff.1 b2 j 0 e).resolve_left (by omega)
  cases hb : s0.testBit j with
  | false => rfl
  | true => rw [hb] at this; simp [bI] at this
 have t0 := st_lt hl b1
 have t1 := st_lt hl a1
 have e : vaW (orW g) (lfW ks) = -1 := vaW_open (s0 := s0) (s1 := s1) (by rw [lfW_bit hk hl t0]; exact b3) (by
   rw [orW_bit t0 hg,List.any_eq_false]
   intro j hj
   rw [b4 j hj]; simp) (by rw [lfW_bit hk hl t1]; exact a3) (by
   rw [orW_bit t1 hg,List.any_eq_true]
   exact ⟨k,hkg,a4⟩)
 unfold opG
 rw [e]; rfl
set_option maxHeartbeats 4000000 in
theorem c_impl_nextInGroups {m : Nat} (hm : m ≤ 5) {t us : List T} {ks : List Int} (hl : ks.length = m) {S : List (List Nat)} (hS : S.length ≤ 5) (h5 : ∀ g ∈ S,g.length ≤ 5 ∧ ∀ k ∈ g,k < 5) {A B : List (List Nat)} {g P r : List Nat} {k : Nat} (e : S = A ++ g :: B) (eg : g = P ++ k :: r) (hA : ∀ x ∈ A,opG ks x = false) (hg : opG ks g = true) (hP : ∀ x ∈ P,caK m ks x = false) (hk : caK m ks k = true) :
  call lf n_impl_nextInGroups [.sl 0 (S.map (gcP 0 us)),pD m t ks] = some (.i k,[]) := by
 have C1 := c_IndexG (m := m) (t := t) (us := us) hS h5 e hA hg
 have gm : g ∈ S := by rw [e]; simp
 have C2 := c_IndexI hm (t := t) hl (h5 g gm).1 eg hP hk
 have lG := lend_gc 0 us S
 have nS : (S.map (gcP 0 us)).length = S.length := by simp
 have A1 : atI (S.map (gcP 0 us)) (A.length : Int) = some (gcP 0 us g) := by
  simp only [atI,if_pos (Int.natCast_nonneg A.length)]
  show (S.map (gcP 0 us))[(A.length : Int).toNat]? = _
  rw [Int.toNat_natCast,List.getElem?_map,e]
  simp
 have A2 : atI ((ni g).map DV.i) (P.length : Int) = some (.i k) := by
  simp only [atI,if_pos (Int.natCast_nonneg P.length)]
  show ((ni g).map DV.i)[(P.length : Int).toNat]? = _
  rw [Int.toNat_natCast,List.getElem?_map]
  unfold ni
  rw [List.getElem?_map,eg]
  simp
 have lJ : lendL ((ni g).map DV.i) = (ni g).map .i := by simp
 rw [call_k lf n_impl_nextInGroups _ (F := F_impl_nextInGroups) rfl rfl]
 generalize S.map (gcP 0 us) = M at *
 unfold gcP at A1
 unfold pD pv at *
 generalize (ni g).map DV.i = J at *
 simp only [cells_st] at C2
 simp [F_impl_nextInGroups,C1,C2,lG,A1,A2,lJ]
set_option maxHeartbeats 4000000 in
theorem c_impl_GroupPlan_1 {m : Nat} {t us : List T} {ks : List Int} {S : List (List Nat)} {k : Nat} (h : call lf n_impl_nextInGroups [.sl 0 (S.map (gcP 0 us)),pD m t ks] = some (.i k,[])) : call lf n_impl_GroupPlan_1 ([pD m t ks] ++ [.adr (.sl 0 (S.map (gcP 0 us)))]) = some (.i k,[]) := by
 have lG := lend_gc 0 us S
 show call lf n_impl_GroupPlan_1 [pD m t ks,.adr (.sl 0 (S.map (gcP 0 us)))] = _
 rw [call_k lf n_impl_GroupPlan_1 _ (F := F_impl_GroupPlan_1) rfl rfl]
 generalize S.map (gcP 0 us) = M at *
 unfold pD pv at *
 simp [F_impl_GroupPlan_1,h,lG]
/-- at each choice of a tree its test is the one that is chosen -/
def Chs (m : Nat) (t : List T) (GG : List DV) : PT → List Int → Prop
 | .stop,_ => True
 | .ask k n y,ks => call lf n_impl_GroupPlan_1 ([pD m t ks] ++ [.adr (.sl 0 GG)]) = some (.i k,[]) ∧ Chs m t GG n (ks.set k 0) ∧ Chs m t GG y (ks.set k 1)
theorem pf_tree {m : Nat} (hm : m ≤ 5) {t : List T} (ht : tmOk m t = true) {GG : List DV} (lG : lendL GG = GG) : ∀ (x : PT) (ks : List Int) (place : Nat),okT m t ks x → Chs m t GG x ks → ks.length = m → ks.all kOk = true → place + x.size ≤ 40 →
  call lf n_impl_planFrom [pD m t ks,.i place,.fn n_impl_GroupPlan_1 [.adr (.sl 0 GG)]] = some (.fr 3 ((ser x place).map e3),[])
 | .stop,ks,place,ok,_,hl,hk,_ => pf_stopG lG ht hl hk ok
 | .ask k n y,ks,place,ok,hc,hl,hk,hp => by
  obtain ⟨o1,o2,o3,o4⟩ := ok
  obtain ⟨c1,c2,c3⟩ := hc
  simp only [PT.size] at hp
  have k0 := kOk_set hk k false
  have k1 := kOk_set hk k true
  rw [bI_0] at k0
  rw [bI_1] at k1
  have G0 := pf_tree hm ht lG n (ks.set k 0) (place + 1) o3 c2 (by simpa using hl) k0 (by omega)
  have G1 := pf_tree hm ht lG y (ks.set k 1) (place + 1 + n.size) o4 c3 (by simpa using hl) k1 (by omega)
  have l0 := ser_len n (place + 1)
  have l1 := ser_len y (place + 1 + n.size)
  rw [← lay_ser]
  exact pf_stepG lG ht hm hl hk o1 o2 (by omega) c1 G0 (by rw [l0]; exact G1)
theorem gT_chs {m : Nat} (hm : m ≤ 5) {t us : List T} {S : List (List Nat)} (hS : S.length ≤ 5) (h5 : ∀ g ∈ S,g.length ≤ 5 ∧ ∀ k ∈ g,k < m) : ∀ (R D : List (List Nat)) (ks : List Int),S = D ++ R → ks.length = m → ks.all kOk = true → (∀ g ∈ D,gYes ks g = true) → R.flatten.Nodup → (∀ k ∈ R.flatten,ks[k]? = some (-1)) →
  Chs m t (S.map (gcP 0 us)) (gT R) ks
 | [],_,_,_,_,_,_,_,_ => trivial
 | g0 :: R,D,ks,eS,hl,hk,hD,nd,hu => by
  rw [List.flatten_cons] at nd hu
  obtain ⟨n1,n2,n3⟩ := List.nodup_append.1 nd
  have h5' : ∀ g ∈ S,g.length ≤ 5 ∧ ∀ k ∈ g,k < 5 := fun g hg => ⟨(h5 g hg).1,fun k hk => by have := (h5 g hg).2 k hk; omega⟩
  have key : ∀ (g P : List Nat) (ks : List Int),P ++ g = g0 → ks.length = m → ks.all kOk = true → (∀ g ∈ D,gYes ks g = true) → (∀ k ∈ P,ks[k]? = some 0) → (∀ k ∈ g,ks[k]? = some (-1)) → (∀ k ∈ R.flatten,ks[k]? = some (-1)) →
    Chs m t (S.map (gcP 0 us)) (gG g (gT R)) ks := by
   intro g
   induction g with
   | nil => intro P ks _ _ _ _ _ _ _; trivial
   | cons k g ih =>
    intro P ks e hl hk hD hP hg hR
    have h1 := hg k List.mem_cons_self
    have hn : (P ++ k :: g).Nodup := by rw [e]; exact n1
    obtain ⟨m1,m2,m3⟩ := List.nodup_append.1 hn
    obtain ⟨m4,m5⟩ := List.nodup_cons.1 m2
    have kg0 : k ∈ g0 := by rw [← e]; exact List.mem_append_right _ List.mem_cons_self
    have kR : k ∉ R.flatten := fun q => n3 k kg0 k q rfl
    have k0 := kOk_set hk k false
    have k1 := kOk_set hk k true
    rw [bI_0] at k0
    rw [bI_1] at k1
    have gS : g0 ∈ S := by rw [eS]; simp
    have hl5 : ks.length ≤ 5 := by omega
    refine ⟨c_impl_GroupPlan_1 (c_impl_nextInGroups hm hl hS h5' eS e.symm (fun x hx => opG_yes hk hl5 (h5' x (by rw [eS]; exact List.mem_append_left _ hx)).2 (hD x hx)) (opG_open hk hl5 (h5' g0 gS).2 kg0 h1 fun j hj => ?_) (fun x hx => ?_) ?_),?_,?_⟩
    ·rw [← e] at hj
     rcases List.mem_append.1 hj with q | q
     ·exact .inl (hP j q)
     ·exact .inr (hg j q)
    ·unfold caK
     rw [Int.toNat_natCast,hP x hx]
     simp
    ·have := (h5 g0 gS).2 k kg0
     unfold caK
     rw [Int.toNat_natCast,h1]
     simp; omega
    ·refine ih (P ++ [k]) (ks.set k 0) (by rw [← e]; simp) (by simpa using hl) k0 (fun x hx => gYes_mono h1 (hD x hx)) (fun j hj => ?_) (fun j hj => ?_) (fun j hj => ?_)
     ·rcases List.mem_append.1 hj with q | q
      ·rw [List.getElem?_set_ne (show k ≠ j from fun r => m3 j q k List.mem_cons_self r.symm)]
       exact hP j q
      ·rw [List.mem_singleton.1 q,List.getElem?_set_self (List.getElem?_eq_some_iff.1 h1).1]
     ·rw [List.getElem?_set_ne (show k ≠ j from fun r => m4 (by rw [r]; exact hj))]
      exact hg j (List.mem_cons_of_mem _ hj)
     ·rw [List.getElem?_set_ne (show k ≠ j from fun r => kR (by rw [r]; exact hj))]
      exact hR j hj
    ·refine gT_chs hm hS h5 R (D ++ [g0]) (ks.set k 1) (by rw [eS]; simp) (by simpa using hl) k1 (fun x hx => ?_) n2 (fun j hj => ?_)
     ·rcases List.mem_append.1 hx with q | q
      ·exact gYes_mono h1 (hD x q)
      ·rw [List.mem_singleton.1 q]; exact gYes_yes h1 kg0
     ·rw [List.getElem?_set_ne (show k ≠ j from fun r => kR (by rw [r]; exact hj))]
      exact hR j hj
  exact key g0 [] ks rfl hl hk hD (fun k hk => by cases hk) (fun k hk => hu k (List.mem_append_left _ hk)) (fun k hk => hu k (List.mem_append_right _ hk))
end
section
attribute [-simp] DV.cells
attribute [local simp] sliceD cells_st cells_sl cells_i cells_y cells_b cells_s cells_w
attribute [local simp] lend_eR al_eR lend_eN adopt_eN new_eN
attribute [local simp] lend_e3 adopt_e3 new_e3 al_e3 lt_e3
def gpL (us : List T) (L : List (List Int)) : List C3 := if tsOk us && gokB us.length L then ser (gT (sG us (L.map (List.map Int.toNat)))) 0 else []
theorem gp_of {us : List T} {L : List (List Int)} (h : (tsOk us && gokB us.length L) = true) : ∃ N : List (List Nat),L = N.map ni ∧ Gok us.length N ∧ tsOk us = true ∧ sgL us L = sG us N ∧ gpL us L = ser (gT (sG us N)) 0 ∧ gtL us.length L = grL N ∧ tmOk us.length (grL N) = true ∧ okT us.length (grL N) (non us.length) (gT (sG us N)) := by
 obtain ⟨N,rfl,G,h1,h2,e1,_⟩ := sgL_of h
 have h' := tsOk_iff.1 h1
 obtain ⟨t1,_,_,t4⟩ := gr_term (m := us.length) (by omega) (by omega) G
 refine ⟨N,rfl,G,h1,e1,?_,?_,t1,(gT_plan h'.2 G t4).1⟩
 ·unfold gpL; rw [if_pos h,toNat_ni]
 ·unfold gtL; rw [h2,toNat_ni]; rfl
set_option maxHeartbeats 4000000 in
theorem c_impl_GroupPlan (us : List T) (L : List (List Int)) (ha : (us.length : Int) < 1099511627776) (hb : (L.length : Int) < 1099511627776) :
  call lf n_impl_GroupPlan [.sl 0 (us.map e2),.sl 0 (L.map eR)] = some (.tup [.fr 3 ((gpL us L).map e3),.b (tsOk us && gokB us.length L)],[]) := by
 rw [call_k lf n_impl_GroupPlan _ (F := F_impl_GroupPlan) rfl rfl]
 have C := c_impl_groupsByRatios us L ha hb
 have lA : lendL (L.map eR) = L.map eR := lend_eR _
 cases h : (tsOk us && gokB us.length L) with
 | true =>
  obtain ⟨N,rfl,G,h1,e1,e2',e3',t1,ok⟩ := gp_of h
  have h1' := tsOk_iff.1 h1
  have GS := sG_gok (us := us) G
  rw [e1,h] at C
  rw [e2']
  have GT := c_impl_GroupTerm us.length (N.map ni) hb
  rw [e3'] at GT
  have ST := c_startOf (m := us.length) (t := grL N) (by omega) t1
  have lS := rows_le GS
  have ch := gT_chs (m := us.length) (by omega) (t := grL N) (us := us) (S := sG us N) (by omega) (fun g hg => ⟨by have := row_le GS hg; omega,GS.lt g hg⟩) (sG us N) [] (non us.length) rfl (non_len _) (non_all _) (fun g hg => by cases hg) GS.nd (fun k hk => by
   have := GS.lt
   obtain ⟨g,hg,hkg⟩ := List.mem_flatten.1 hk
   have := GS.lt g hg k hkg
   unfold non
   rw [List.getElem?_replicate,if_pos this])
  have sz := okT_size (m := us.length) (by omega) ok
  have lG := lend_gc 0 us (sG us N)
  have lG2 := lend_gc2 us (sG us N)
  have C5 := pf_tree (m := us.length) (by omega) t1 lG (gT (sG us N)) (non us.length) 0 ok ch (non_len _) (non_all _) (by omega)
  have nw := new_e3 (ser (gT (sG us N)) 0)
  have ad := fun x => adopt_e3 x (ser (gT (sG us N)) 0)
  have ad2 := fun b => adopt_gc2 b us (sG us N)
  have nl : ((sG us N).map (gcP 2 us)).length = (sG us N).length := by simp
  have cR : ∀ e ∈ (sG us N).map (gcP 2 us),e.cells.length = 4 := fun e he => by
   obtain ⟨o,_,rfl⟩ := List.mem_map.1 he; rfl
  have tkS : List.take (sG us N).length ((sG us N).map (gcP 2 us)) = (sG us N).map (gcP 2 us) := List.take_of_length_le (by simp)
  have tkT := tk_e2 (grL N)
  simp only [Int.natCast_zero] at C5
  generalize ser (gT (sG us N)) 0 = Q at *
  have lQ : (Q.map e3).length = Q.length := by simp
  have tk := tk_e3 Q
  generalize Q.map e3 = QM at *
  generalize (sG us N).map (gcP 2 us) = M2 at *
  generalize (sG us N).map (gcP 0 us) = M0 at *
  generalize (N.map ni).map eR = A at *
  generalize grL N = t at *
  unfold pD pv at *
  simp [F_impl_GroupPlan,C,lA,GT,ST,C5,nw,ad,ad2,tk,tkS,tkT,nl,if_pos cR,lG,lG2,lQ]
 | false =>
  have e : sgL us L = [] := by unfold sgL; rw [h]; rfl
  have e' : gpL us L = [] := by unfold gpL; rw [h]; rfl
  rw [e,h] at C
  rw [e']
  simp only [List.map_nil] at C ⊢
  simp [F_impl_GroupPlan,C,lA]
end
section
attribute [-simp] DV.cells
attribute [local simp] sliceD cells_st cells_sl cells_i cells_y cells_b cells_s cells_w
attribute [local simp] lend_eR al_eR lend_eN adopt_eN new_eN
attribute [local simp] lend_e3 adopt_e3 new_e3 al_e3 lt_e3
set_option maxHeartbeats 4000000 in
theorem c_spec_GroupPlan (us : List T) (L : List (List Int)) (ha : (us.length : Int) < 1099511627776) (hb : (L.length : Int) < 1099511627776) (hf : (L.flatten.length : Int) < 1099511627776) :
  call lf n_spec_GroupPlan [.sl 0 (us.map e2),.sl 0 (L.map eR)] = some (.tup [.fr 3 ((gpL us L).map e3),.b (tsOk us && gokB us.length L)],[]) := by
 rw [call_k lf n_spec_GroupPlan _ (F := F_spec_GroupPlan) rfl rfl]
 have S := c_spec_SortedGroups us L ha hb hf
 cases h : (tsOk us && gokB us.length L) with
 | true =>
  obtain ⟨N,rfl,G,h1,e1,e2',_,t1,ok⟩ := gp_of h
  have h1' := tsOk_iff.1 h1
  have GS := sG_gok (us := us) G
  rw [e1] at S
  rw [e2']
  have ne := gok_ne (by omega) GS
  have nl := nR_len (sG us N)
  have z0 : (((sG us N).length : Int) == 0) = false := beq_false_of_ne (by have := List.length_pos_iff.2 ne; omega)
  have tk : List.take (sG us N).length (nR (sG us N)) = nR (sG us N) := List.take_of_length_le (by omega)
  have sz := okT_size (m := us.length) (by omega) ok
  have GR := c_spec_l7Grow (S := sG us N) (by have := rows_le GS; omega) (fun g hg => by have := row_le GS hg; omega) (sG us N) [] [] rfl (by simpa using (by omega : (gT (sG us N)).size ≤ 40))
  simp only [List.length_nil,List.nil_append,Int.natCast_zero,List.map_nil] at GR
  have lA : lendL ((N.map ni).map eR) = (N.map ni).map eR := lend_eR _
  have lN : lendL (nR (sG us N)) = ((sG us N).map ni).map eR := lend_nR _
  have ad : ∀ b,adoptL b (nR (sG us N)) = nR (sG us N) := fun b => adopt_eN b _
  generalize (N.map ni).map eR = A at *
  generalize ((sG us N).map ni).map eR = B at *
  generalize nR (sG us N) = M at *
  have ad3 := fun o => adopt_e3 o (ser (gT (sG us N)) 0)
  have n3 := new_e3 (ser (gT (sG us N)) 0)
  have tk3 := tk_e3 (ser (gT (sG us N)) 0)
  have lQ : ((ser (gT (sG us N)) 0).map e3).length = (ser (gT (sG us N)) 0).length := by simp
  generalize ser (gT (sG us N)) 0 = Q at *
  generalize rt (gT (sG us N)) 0 = R0 at *
  generalize Q.map e3 = QM at *
  simp [F_spec_GroupPlan,S,z0,nl,tk,ad,lA,lN,GR,ad3,n3,tk3,lQ]
 | false =>
  have e : sgL us L = [] := by unfold sgL; rw [h]; rfl
  have e' : gpL us L = [] := by unfold gpL; rw [h]; rfl
  rw [e] at S
  rw [e']
  have z' : nR [] = [] := rfl
  rw [z'] at S
  simp [F_spec_GroupPlan,S]
end
section
attribute [-simp] DV.cells
attribute [local simp] sliceD cells_st cells_sl cells_i cells_y cells_b cells_s cells_w
attribute [local simp] lend_eR al_eR lend_eN adopt_eN new_eN
attribute [local simp] lend_e3 adopt_e3 new_e3 al_e3 lt_e3
set_option maxHeartbeats 16000000 in
theorem law_FnGroupPlan (x : List Nat) (_ : x.length ≤ Go.maxLen) (hb : ∀ y ∈ x,y < 256) : call lf n_laws_FnGroupPlan [bys x] = some (.b true,[]) := by
 show call lf n_laws_FnGroupPlan [.sl 0 (x.map .y)] = _
 rw [call_k lf n_laws_FnGroupPlan _ (F := F_laws_FnGroupPlan) rfl rfl]
 by_cases hl : 1048576 < (x.length : Int)
 ·simp (config := { maxSteps := 2000000 }) [F_laws_FnGroupPlan,hl]
 ·obtain ⟨us,R,u1,r1,r2,d⟩ := c_DrawGroupPlan hb (by omega)
  have C1 := c_impl_GroupPlan us R (by omega) (by omega)
  have C2 := c_spec_GroupPlan us R (by omega) (by omega) (by omega)
  have lb1 : us.length ≤ bound := by unfold bound; omega
  have lb2 : R.length ≤ bound := by unfold bound; omega
  have tk1 := tk_e2 us
  have tk2 : List.take R.length (R.map eN) = R.map eN := List.take_of_length_le (by simp)
  cases h : (tsOk us && gokB us.length R) with
  | false =>
   have e : gpL us R = [] := by unfold gpL; rw [h]; rfl
   have SP := c_samePlan_self [] (by simp)
   rw [h,e] at C1 C2
   rw [List.map_nil] at C1 C2 SP
   simp (config := { maxSteps := 2000000 }) [F_laws_FnGroupPlan,hl,d,C1,C2,SP,lb1,lb2,tk1,tk2,c_alive]
  | true =>
   obtain ⟨N,rfl,h1,G,e,nn,et,t1,tl,t4⟩ := ga_all h
   obtain ⟨N',eN',G',_,_,e2',_,_,ok'⟩ := gp_of h
   have eNN : N' = N := by
    have := congrArg (List.map (List.map Int.toNat)) eN'
    rw [toNat_ni,toNat_ni] at this
    exact this.symm
   subst eNN
   have h' := tsOk_iff.1 h1
   rw [h] at C1 C2
   rw [e2'] at C1 C2
   have GA := c_impl_GroupAverage us (N'.map ni) (by omega) (by omega)
   rw [e] at GA
   have GT := c_impl_GroupTerm us.length (N'.map ni) (by omega)
   rw [et] at GT
   have sz := okT_size (m := us.length) (by omega) ok'
   have SL : (ser (gT (sG us N')) 0).length ≤ 31 := by rw [ser_len]; omega
   have SP := c_samePlan_self (ser (gT (sG us N')) 0) (by omega)
   have hP : isPl us.length (grL N') (ser (gT (sG us N')) 0) (lab (gT (sG us N')) 0) := ser_pl (by omega) ok'
   have PO := c_impl_PlanOk (m := us.length) (t := grL N') (P := ser (gT (sG us N')) 0) (by omega) (by omega)
   rw [pk_iff.2 ⟨t1,_,hP⟩] at PO
   have AV := c_impl_AverageBy h1 t1 hP
   rw [lab_er,(gT_plan h'.2 G t4).2] at AV
   have lA : (N'.map ni).length = N'.length := by simp
   rw [lA] at lb2 tk2
   have tk3 := tk_e2 (grL N')
   have tk4 := tk_e3 (ser (gT (sG us N')) 0)
   have lb3 : (ser (gT (sG us N')) 0).length ≤ bound := by unfold bound; omega
   have lb4 : (grL N').length ≤ bound := by unfold bound; omega
   generalize grL N' = t at *
   generalize gA us N' = v at *
   generalize ser (gT (sG us N')) 0 = P at *
   generalize N'.map ni = A at *
   simp (config := { maxSteps := 2000000 }) [F_laws_FnGroupPlan,hl,d,C1,C2,SP,PO,AV,GA,lb1,lb2,lb3,lb4,tk1,tk2,tk3,tk4,lA,GT,c_alive]
end
end Zz
