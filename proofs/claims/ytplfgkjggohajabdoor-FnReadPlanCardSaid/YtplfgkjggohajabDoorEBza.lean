/- What the functions answer, as equations: EB. No conditions. -/
import Derived.Test.YtplfgkjggohajabDoorEAza
set_option linter.unusedSectionVars false
set_option linter.unusedVariables false
set_option linter.unusedSimpArgs false
namespace Zz
open Go.Lg Md
set_option linter.unusedSimpArgs false
set_option linter.unusedVariables false
attribute [local simp] tm_mv tm_newnil tm_pick tm_bin tm_eqb tm_eqs tm_un tm_len tm_lens tm_chk tm_fld tm_fldv tm_idxa tm_idx tm_load tm_store tm_slice tm_slices tm_make tm_alloc tm_box tm_build tm_app tm_conv tm_ext tm_call tm_calld tm_mkfn tm_mm tm_idxp tm_eqn tm_callg tm_callm tm_bslice0 tm_bslice1 tm_bslice2 tm_bslice cw_nil cw_cons cd_none cd_some ec_nil ec_cons es_nil es_one es_more nn_nil nn_cons ns_nil ns_cons si_nil si_cons sk_t stod_oad stod_own stod_adr stod_dead ml_nil ml_cons nt_nil nt_cons nc_nil' nc_cons sa_mkfn cv_adr cv_i cv_y cv_b cv_w sa_calld nm_def nh_nil nh_cons nxM_some nxM_none sc_st sd_i sd_y sd_b sd_s sd_w sd_q sc_i sc_y sc_b sc_s sc_w sc_q sa_bslice sa_app nc_own nc_nil sa_call sa_alloc sa_build sa_callm rm_nil rm_one rm_gen bq_mul bq_eql ia_mv ia_newnil ia_pick ia_bin ia_eqb ia_eqs ia_un ia_len ia_lens ia_chk ia_fld ia_fldv ia_idxa ia_idx ia_load ia_store ia_slice ia_slices ia_make ia_alloc ia_box ia_build ia_bslice ia_app ia_b2i ia_i2b ia_i2i ia_same ia_b2s ia_s2b ia_ext ia_mm ia_idxp ia_calld ia_mkfn ia_i2r ia_r2s ia_call pt_nil pt_cons mi_nil mi_cons md_bslice md_mv md_newnil md_pick md_bin md_eqb md_un md_len md_lens md_fld md_fldv md_idxa md_idx md_load md_store md_slice md_slices md_make md_alloc md_box md_build md_app md_conv md_ext md_call md_calld md_callg md_mkfn md_mm md_idxp md_eqn md_eqs md_chk tg_bslice tg_mv tg_newnil tg_pick tg_bin tg_eqb tg_un tg_len tg_lens tg_fld tg_fldv tg_idxa tg_idx tg_load tg_store tg_slice tg_slices tg_make tg_alloc tg_box tg_build tg_app tg_conv tg_ext tg_call tg_calld tg_callg tg_mkfn tg_mm tg_idxp tg_eqn tg_eqs tg_chk rp_eq ro_eq ifP_t ifP_f np_def ng1_nil ng2_nil ng_gate ng_gen tgA_t tgA_0 tgA_1 tgA_2 aC_nil aC_c aC_t rS_def nb_def tv_b2i tv_i2b tv_i2i tv_s2b tv_b2s tv_same tv_i2r tv_r2s tv_i2q tv_q2i tv_q2q nxZ_some nxZ_none rz_nil rz_gen nxP_some nxP_none rq_nil rq_gen rq_gate nxR_some nxR_none ru_nil ru_gen ru_gate pl_none pl_some gt_nil gt_t gt_c di_some di_none an_nil an_cons nxG_some nxG_none rg_nil rg_gen rg_gate oldO_some oa_nil oa_i oa_y oa_b oa_s oa_st oa_sl oa_own oa_oad oa_nl al_nil al_cons al_i al_y al_b al_s al_st al_sl nxF_some nxF_none rf_nil rf_gen rf_gate hk_newnil hk_make hk_alloc hk_box hk_build hk_bslice hk_call hk_store hk_app hk_appn em_cel mm_cel ok_cel ov_cel so_cel il_cel oi_cel oj_cel ol_cel nm_cel hk_appc ef_bslice5 ef_app_cel ks_shut shu_own shc_none shc_cel cl_nil cl_cons ai_nil ai_cons il_i il_y il_b il_s il_st il_sl il_own il_adr il_oad il_ref il_fr il_tup il_nil il_np il_und il_dead ol_adr ol_b ol_dead ol_e ol_fn ol_fr ol_i ol_nil ol_np ol_oad ol_own ol_q ol_r ol_ref ol_s ol_sl ol_st ol_tup ol_und ol_w ol_y oj_e oj_i oj_y oj_b oj_s oj_st oj_sl oj_own oj_adr oj_oad oj_ref oj_fr oj_tup oj_nil oj_np oj_und oj_dead oj_w oj_q oj_r oj_fn oi_e oi_i oi_y oi_b oi_s oi_st oi_sl oi_own oi_adr oi_oad oi_ref oi_fr oi_tup oi_nil oi_np oi_und oi_dead as_nil as_cons ao_nil ao_cons av_i av_y av_b av_s av_st av_sl av_own av_adr av_oad av_ref av_fr av_tup av_nil av_np av_und av_dead pro_cons ghK_some ks_promote ks_freeze frz_own ks_rename ren_own ks_cell cel_own dropO adoptP newP wholeP cutP allOldL ex_skip ex_ret ex_exit ks_region ks_seq ks_cut ks_cond ks_block seqK_n seqK_e seqK_r regK_some condK_t condK_f blkK_n blkK_r blkK_e endK_n endK_r rr_false rr_true rd_free mo_nil mo_cons drK_some drK_none nxW_some nxW_none rw_nil rw_gen rw_gate ak_newnil ak_make ak_alloc ak_box ak_build ak_bslice ak_call ak_store ak_app iw_mm iw_eqn iw_idxp ef_callg cgK_some gv_e gv_own gv_i gv_sl gv_st gv_b gv_nil gvK_some gvO_some iw_callg ia_callg ak_callg hk_callg is_mv is_newnil is_pick is_bin is_eqb is_eqs is_un is_len is_lens is_chk is_fld is_fldv is_idxa is_idx is_load is_slice is_slices is_make is_alloc is_box is_build is_bslice is_app is_conv is_ext is_call is_calld is_callg is_mkfn is_mm is_idxp is_eqn is_store rt_nil rt_gen rt_gate nxT_some nxT_none ef_eqn_nil ef_eqn_sl ef_eqn_own ia_eqn ef_mmx ef_mmn ef_idxp nxD_some nxD_none ov_i ov_y ov_b ov_s ov_st ov_sl ov_own ov_oad ov_adr ov_nil ov_np ov_und ov_dead ov_tup oldN_some oldN_nil oldN_none so_none so_tup DV.noM so_i so_y so_b so_s so_st so_sl so_adr so_nil so_np so_und so_dead anyM_nil anyM_t anyM_c so_own so_oad rd_nil rd_gen rd_mv rd_gate iw_mv iw_newnil iw_pick iw_bin iw_eqb iw_eqs iw_un iw_len iw_lens iw_chk iw_fld iw_fldv iw_idxa iw_idx iw_load iw_store iw_slice iw_slices iw_make iw_alloc iw_box iw_build iw_bslice iw_app iw_b2i iw_i2b iw_i2i iw_same iw_b2s iw_s2b iw_ext iw_call nm_i nm_y nm_b nm_s nm_st nm_sl nm_own nm_oad nm_adr nm_nil nm_np nm_und nm_dead nm_tup rl_nil rl_gate rl_mv rl_gen opv_t opv_c nx_some nx_none gate_tt gate_tf gate_ft gate_ff gate_u fr_ap em_nil em_i em_y em_b em_s em_st em_sl em_own em_adr em_oad em_ref em_nl em_np em_und em_dead em_tup0 em_tup_i em_tup_b em_tup_s em_tup_sl em_tup_st em_tup_np em_tup_own em_tup_oad mm_i mm_y mm_b mm_s mm_st mm_sl mm_own mm_oad mm_adr mm_nil mm_np mm_und mm_dead ef_mv ef_newnil ef_pickt ef_pickf ef_bin ef_eqb ef_eqs ef_un ef_lens ef_len_sl ef_len_own ef_len_nil ef_chk_adr ef_chk_oad ef_fld_adr ef_fld_oad ef_fldv idxR_some ef_idxa_sl ef_idxa_own ef_idx ef_load_adr_st ef_load_adr_i ef_load_adr_y ef_load_adr_b ef_load_adr_s ef_load_adr_sl atN_nil atN_zero atN_succ ef_load_oad ef_store ef_slice ef_slices ef_make ef_alloc ef_box ef_build ef_bslice ef_app_own ef_app_nil ef_b2i ef_i2b ef_i2i ef_same ef_ext ret1 ret2_some calL_some ef_call retC_i retC_y retC_b retC_s retC_st retC_sl retC_np retC_fr retC_ref retC_tup rk_nil rk_i rk_y rk_b rk_s rk_st rk_sl rk_own rk_oad rk_nl ok_nil ok_i ok_y ok_b ok_s ok_st ok_sl ok_own ok_oad ok_nl lo_nil lo_i lo_y lo_b lo_s lo_st lo_sl lo_own lo_oad lo_nl pr_nil pr_i pr_y pr_b pr_s pr_st pr_sl pr_own pr_nl pr_oad nr_i nr_y nr_b nr_s nr_st nr_sl nr_fr nr_np nr_tup ng_i ng_b ng_s ng_fr ng_nil resV effP_eff binD bi_add bi_sub bi_mul bi_quo bi_rem bi_eql bi_neq bi_lss bi_leq bi_gtr bi_geq bi_shl bi_shr bi_and bi_or bi_xor bi_andNot binY binS unD look put putD LS.get LS.drop killE sweep lookO putO dropO enter leave giveBackL giveBack outs lendArgs lendArg newOuts takeIn takeInL lendL DV.lend adoptL DV.adopt elems apartKs part DV.cells unpart settle settleL over mkId szId fillP fillE tk_e2 tk_i tk_y lt_e2 lt_i lt_y lend_rep al_e2 al_is al_ys al_rep al_app lend_app adopt_app new_app lend_e2 lend_i lend_y adopt_e2 adopt_i adopt_y new_e2 new_i allNewL DV.allNew bounds sliceD sliceS em_w em_q em_r em_fn em_tup_w em_tup_q em_tup_r mm_w mm_q mm_r mm_fn ef_load_adr_w ef_load_adr_q ef_load_adr_r retC_w retC_q retC_r rk_w rk_q rk_r rk_fn ok_w ok_q ok_r ok_fn lo_w lo_q lo_r lo_fn pr_w pr_q pr_r pr_fn nr_w nr_q nr_r ng_w ng_q ng_r oa_w oa_q oa_r oa_fn al_w al_q al_r al_fn ov_w ov_q ov_r ov_fn so_w so_q so_r so_fn il_w il_q il_r il_fn oi_w oi_q oi_r oi_fn av_w av_q av_r av_fn nm_w nm_q nm_r nm_fn ef_i2r ef_r2s ef_b2s bs_some ys_nil ys_cons ys_map ef_mkfn ef_mkbd ef_idxp_adr ef_idxp_q ef_calld_nil ef_calld_adr ef_calld_bd DV.capB capsOk DV.cell List.all_cons List.all_nil rk_own_t lo_own_t lk_f lk_t pr_own_t mutB ak_calld hk_calld iw_calld iw_mkfn iw_i2r iw_r2s bw_and bw_or bw_xor bw_andNot bw_eql bw_neq sw_shl sw_shr sq_shl gEnv_nil rk_adr ok_adr lo_adr pr_adr oa_adr capL capArg DV.cap ak_mkfn hk_mkfn hk_mkbd ef_callm gf_ap ga_nil ga_cons tgv_own gk_e gk_giv gk_i gk_y gk_b gk_s gk_w gk_q gk_r gk_fn gk_st gk_sl gk_own gk_oad gk_adr gk_nl gk_np rk_giv ok_giv lo_giv pr_giv oa_giv iw_callm hk_callm ak_callm is_callm ia_callm tg_callm md_callm ef_i2q ef_q2i ef_q2q iw_i2q iw_q2i iw_q2q ia_i2q ia_q2i ia_q2q bq_and bq_add bq_shr sq_shr tgv_nil gk_ref rk_ref ok_ref lo_ref pr_ref oa_ref retC_fn nr_fn ef_load_adr_fn ks_close cls_oad
attribute [local congr] nxM_congr ifP_congr nxP_congr nxZ_congr nxR_congr nxT_congr nxG_congr nxF_congr ghK_congr gate_congr nx_congr nxD_congr runL_congr runD_congr eff_congr calL_congr ret2_congr seqK_congr regK_congr condK_congr endK_congr drK_congr nxW_congr
attribute [local simp ↓] nxM_some rm_nil rm_one rm_gen nxT_some rt_nil rt_gen rt_gate nxZ_some rz_nil rz_gen nxP_some rq_nil rq_gen rq_gate nxR_some ru_nil ru_gen ru_gate nxG_some rg_nil rg_gen rg_gate nxF_some rf_nil rf_gen rf_gate ks_promote ks_freeze frz_own ks_rename ks_cell ghK_some gate_tt gate_tf gate_ft gate_ff gate_u nx_some nxD_some rl_nil rl_mv rl_gen rl_gate rd_nil rd_mv rd_gen rd_gate rd_free rr_false rr_true drK_some drK_none nxW_some rw_nil rw_gen rw_gate ks_region ks_seq ks_cut ks_cond ks_block seqK_n seqK_e seqK_r regK_some condK_t condK_f blkK_n blkK_r endK_n endK_r calL_some ret2_some opv_t opv_c
section
attribute [-simp] DV.cells sliceD
attribute [local simp] cells_st cells_sl cells_i cells_y cells_b cells_s cells_w
attribute [local simp] lend_e3 adopt_e3 new_e3 al_e3 lt_e3
def RdA (s : List UInt8) (Q : List C3) (at_ : Nat) : Option (PT × List UInt8) → Prop
 | none => ∃ R : List C3,R.length ≤ 31 ∧ call lf n_spec_l11Read [.s s,.i at_,.gv 3 (Q.map e3)] = some (.tup [.fr 3 (R.map e3),.i (-1),.i (-1)],[])
 | some (x,r) => call lf n_spec_l11Read [.s s,.i at_,.gv 3 (Q.map e3)] = some (.tup [.fr 3 ((Q ++ ser x Q.length).map e3),.i (rt x Q.length),.i ((s.length : Int) - r.length)],[])
theorem rd_end : ∀ (f c : Nat) (s : List UInt8) (x : PT) (r : List UInt8),rdP f c s = some (x,r) → ∃ k,r = s.drop k ∧ k + r.length = s.length
 | 0,_,_,_,_,h => by cases h
 | f + 1,c,[],x,r,h => by simp [rdP] at h
 | f + 1,c,b :: s,x,r,h => by
  simp only [rdP] at h
  by_cases h1 : b = 48 ∨ b = 49
  ·rw [if_pos h1] at h
   simp only [Option.some.injEq,Prod.mk.injEq] at h
   obtain ⟨rfl,rfl⟩ := h
   exact ⟨1,rfl,by simp; omega⟩
  rw [if_neg h1] at h
  by_cases h2 : b < 97 ∨ 101 < b ∨ s.head? ≠ some 40 ∨ 31 ≤ c
  ·rw [if_pos h2] at h; cases h
  rw [if_neg h2] at h
  simp only [not_or] at h2
  cases e : rdP f (c + 1) s.tail with
  | none => rw [e] at h; cases h
  | some q =>
   obtain ⟨n,r2⟩ := q
   rw [e] at h
   simp only at h
   obtain ⟨k1,i1,i2⟩ := rd_end f (c + 1) s.tail n r2 e
   by_cases h3 : r2.head? ≠ some 44
   ·rw [if_pos h3] at h; cases h
   rw [if_neg h3] at h
   cases e' : rdP f (c + 1 + n.size) r2.tail with
   | none => rw [e'] at h; cases h
   | some q =>
    obtain ⟨y,r4⟩ := q
    rw [e'] at h
    simp only at h
    obtain ⟨k2,j1,j2⟩ := rd_end f (c + 1 + n.size) r2.tail y r4 e'
    by_cases h4 : r4.head? ≠ some 41
    ·rw [if_pos h4] at h; cases h
    rw [if_neg h4] at h
    simp only [Option.some.injEq,Prod.mk.injEq] at h
    obtain ⟨rfl,rfl⟩ := h
    have T : ∀ {l : List UInt8} {v : UInt8},¬ l.head? ≠ some v → l.tail.length + 1 = l.length := fun {l v} q => by
     cases l with
     | nil => simp at q
     | cons a l => rfl
    have t1 := T h2.2.2.1
    have t2 := T h3
    have t3 := T h4
    refine ⟨1 + 1 + k1 + 1 + k2 + 1,?_,?_⟩
    ·have e0 : s.tail = (b :: s).drop 2 := by cases s <;> rfl
     simp only [j1,i1,e0,List.tail_drop,List.drop_drop]
    ·simp only [List.length_cons]
     omega
theorem u8n {a : UInt8} {n : Nat} (hn : n < 256) : a = UInt8.ofNat n ↔ a.toNat = n := by
 rw [← UInt8.toNat_inj,UInt8.toNat_ofNat']
 have : n % 2 ^ 8 = n := Nat.mod_eq_of_lt hn
 rw [this]
theorem idx_bad {s : List UInt8} {n : Int} {v : UInt8} (h : n < 0 ∨ (s.length : Int) ≤ n ∨ ∃ b,s[n.toNat]? = some b ∧ b ≠ v) : n < 0 ∨ (0 ≤ n ∧ (s.length : Int) ≤ n) ∨ (0 ≤ n ∧ n < s.length ∧ ∃ b,s[n.toNat]? = some b ∧ b ≠ v) := by
 by_cases h0 : n < 0
 ·exact .inl h0
 ·by_cases h1 : (s.length : Int) ≤ n
  ·exact .inr (.inl ⟨by omega,h1⟩)
  ·rcases h with h | h | h
   ·exact absurd h h0
   ·exact absurd h h1
   ·exact .inr (.inr ⟨by omega,by omega,h⟩)
def rdRet (k : Nat) (R : List C3) (a b : Int) : LS := ⟨[(6,.own k R.length 0 R.length),(7,.i a),(8,.i b)],[(k,R.map e3)]⟩
def rd5 (s : List UInt8) (R : List C3) (pl ask left right next : Int) : LS := ⟨[(0,.s s),(2,.own 54297 R.length 0 R.length),(9,.i pl),(10,.i ask),(11,.i left),(13,.i right),(14,.i next)],[(54297,R.map e3)]⟩
def rd4 (s : List UInt8) (R : List C3) (pl ask left mid : Int) : LS := ⟨[(0,.s s),(2,.own 42009 R.length 0 R.length),(9,.i pl),(10,.i ask),(11,.i left),(12,.i mid)],[(42009,R.map e3)]⟩
theorem rd5_no {s : List UInt8} {R : List C3} {pl ask left right next : Int} (h : next < 0 ∨ (0 ≤ next ∧ (s.length : Int) ≤ next) ∨ (0 ≤ next ∧ next < s.length ∧ ∃ b : UInt8,s[next.toNat]? = some b ∧ b ≠ 41)) :
  ex lf F_spec_l11Read_C5 (rd5 s R pl ask left right next) = some (.ret,rdRet 54297 R (-1) (-1)) := by
 unfold rd5 rdRet
 rcases h with h | ⟨h0,h⟩ | ⟨h0,h1,b,h2,h3⟩
 ·simp [F_spec_l11Read_C5,h]
 ·have h0' : ¬ next < 0 := by omega
  simp [F_spec_l11Read_C5,h0',h]
 ·have h0' : ¬ next < 0 := by omega
  have h1' : ¬ (s.length : Int) ≤ next := by omega
  have h3' : (b.toNat != 41) = true := by
   have : b.toNat ≠ 41 := fun e => h3 ((u8n (n := 41) (by omega)).2 e)
   simpa using this
  simp [F_spec_l11Read_C5,h0',h1',h0,h2,h3']
theorem rd5_yes {s : List UInt8} {R : List C3} {pl : Nat} {ask left right : Int} {n : Nat} (hp : pl < R.length) (hn : s[n]? = some 41) (hs : s.length ≤ 400) :
  ex lf F_spec_l11Read_C5 (rd5 s R pl ask left right n) = some (.ret,rdRet 54297 (R.set pl (ask,left,right)) pl ((n + 1 : Nat) : Int)) := by
 have nl : n < s.length := (List.getElem?_eq_some_iff.1 hn).1
 have h1' : ¬ (s.length : Int) ≤ (n : Int) := by omega
 have w1 : wr ((n : Int) + 1) = ((n + 1 : Nat) : Int) := by rw [wr_id (by omega) (by omega)]; omega
 have hp' : (pl : Int) < R.length := by omega
 have ea : ((R.map e3))[pl]? = some (e3 R[pl]) := by rw [List.getElem?_map,List.getElem?_eq_getElem hp]; rfl
 have a2 : atN (R.map e3) pl = some (e3 R[pl]) := ea
 have es : (R.map e3).set pl (.st [.i ask,.i left,.i right]) = (R.set pl (ask,left,right)).map e3 := by rw [List.map_set]; rfl
 have le : (e3 R[pl]).cells.length = 3 := rfl
 obtain ⟨x,hx⟩ : ∃ x,e3 R[pl] = .st x := ⟨_,rfl⟩
 have lr : (R.set pl (ask,left,right)).length = R.length := List.length_set
 have hs41 : s[n] = 41 := (List.getElem?_eq_some_iff.1 hn).2
 unfold rd5 rdRet
 rw [lr,← es]
 rw [hx] at a2 le
 have lE : (R.map e3).length = R.length := by simp
 have tkR := tk_e3 R
 generalize R.map e3 = E at *
 have lx : x.length = 3 := le
 have dx : List.drop 3 x = [] := List.drop_eq_nil_of_le (by omega)
 have n0 : ¬ (n : Int) < 0 := by omega
 simp [F_spec_l11Read_C5,n0,h1',nl,hn,hs41,hp,hp',w1,a2,lx,dx,lE,tkR,-Int.natCast_add]
theorem rd4_no {s : List UInt8} {R : List C3} {pl ask left mid : Int} (h : mid < 0 ∨ (0 ≤ mid ∧ (s.length : Int) ≤ mid) ∨ (0 ≤ mid ∧ mid < s.length ∧ ∃ b : UInt8,s[mid.toNat]? = some b ∧ b ≠ 44)) :
  ex lf F_spec_l11Read_C4 (rd4 s R pl ask left mid) = some (.ret,rdRet 42009 R (-1) (-1)) := by
 unfold rd4 rdRet
 rcases h with h | ⟨h0,h⟩ | ⟨h0,h1,b,h2,h3⟩
 ·simp [F_spec_l11Read_C4,h]
 ·have h0' : ¬ mid < 0 := by omega
  simp [F_spec_l11Read_C4,h0',h]
 ·have h0' : ¬ mid < 0 := by omega
  have h1' : ¬ (s.length : Int) ≤ mid := by omega
  have h3' : (b.toNat != 44) = true := by
   have : b.toNat ≠ 44 := fun e => h3 ((u8n (n := 44) (by omega)).2 e)
   simpa using this
  simp [F_spec_l11Read_C4,h0',h1',h0,h2,h3']
theorem rd4_yes {s : List UInt8} {Q R : List C3} {pl ask left right next : Int} {m : Nat} (hm : s[m]? = some 44) (hs : s.length ≤ 400) (lq : Q.length ≤ 31) (lr : R.length ≤ 31) (C : call lf n_spec_l11Read [.s s,.i ((m + 1 : Nat) : Int),.gv 3 (Q.map e3)] = some (.tup [.fr 3 (R.map e3),.i right,.i next],[])) :
  ex lf F_spec_l11Read_C4 (rd4 s Q pl ask left m) = ex lf F_spec_l11Read_C5 (rd5 s R pl ask left right next) := by
 have nl : m < s.length := (List.getElem?_eq_some_iff.1 hm).1
 have h1' : ¬ (s.length : Int) ≤ (m : Int) := by omega
 have w1 : wr ((m : Int) + 1) = ((m + 1 : Nat) : Int) := by rw [wr_id (by omega) (by omega)]; omega
 have hs44 : s[m] = 44 := (List.getElem?_eq_some_iff.1 hm).2
 have tkQ := tk_e3 Q
 have tkR := tk_e3 R
 have lQ : (Q.map e3).length = Q.length := by simp
 have lR : (R.map e3).length = R.length := by simp
 unfold rd4 rd5
 have n0 : ¬ (m : Int) < 0 := by omega
 simp [F_spec_l11Read_C4,n0,h1',nl,hm,hs44,w1,C,tkQ,tkR,-Int.natCast_add]
def rd3 (s : List UInt8) (at_ : Nat) (R : List C3) (pl ask : Int) : LS := ⟨[(0,.s s),(1,.i at_),(2,.own 35864 R.length 0 R.length),(9,.i pl),(10,.i ask)],[(35864,R.map e3)]⟩
def rd2 (s : List UInt8) (at_ : Nat) (Q : List C3) : LS := ⟨[(0,.s s),(1,.i at_),(2,.own 1054 Q.length 0 Q.length)],[(1054,Q.map e3)]⟩
theorem rd3_go {s : List UInt8} {at_ : Nat} {Q R : List C3} {pl ask left mid : Int} (ha : at_ ≤ 400) (lq : Q.length ≤ 32) (lr : R.length ≤ 32) (C : call lf n_spec_l11Read [.s s,.i ((at_ + 2 : Nat) : Int),.gv 3 (Q.map e3)] = some (.tup [.fr 3 (R.map e3),.i left,.i mid],[])) :
  ex lf F_spec_l11Read_C3 (rd3 s at_ Q pl ask) = ex lf F_spec_l11Read_C4 (rd4 s R pl ask left mid) := by
 have w1 : wr ((at_ : Int) + 2) = ((at_ + 2 : Nat) : Int) := by rw [wr_id (by omega) (by omega)]; omega
 have tkQ := tk_e3 Q
 have tkR := tk_e3 R
 have lQ : (Q.map e3).length = Q.length := by simp
 have lR : (R.map e3).length = R.length := by simp
 unfold rd4 rd3
 simp [F_spec_l11Read_C3,w1,C,tkQ,tkR,-Int.natCast_add]
theorem rd2_go {s : List UInt8} {at_ : Nat} {Q : List C3} {b : UInt8} (hb : s[at_]? = some b) (b1 : 97 ≤ b.toNat) (b2 : b.toNat ≤ 101) (lq : Q.length ≤ 31) :
  ex lf F_spec_l11Read_C2 (rd2 s at_ Q) = ex lf F_spec_l11Read_C3 (rd3 s at_ (Q ++ [(((b.toNat - 97 : Nat) : Int),-1,-1)]) Q.length ((b.toNat - 97 : Nat) : Int)) := by
 have hlt : at_ < s.length := (List.getElem?_eq_some_iff.1 hb).1
 have hlt2 : (at_ : Int) < s.length := by omega
 have hbb : s[at_] = b := (List.getElem?_eq_some_iff.1 hb).2
 have kb : wr8 ((b.toNat : Int) - 97) = b.toNat - 97 := by
  unfold wr8
  omega
 have l1 : (Q ++ [(((b.toNat - 97 : Nat) : Int),(-1 : Int),(-1 : Int))]).length = Q.length + 1 := by simp
 have e1 : (Q ++ [(((b.toNat - 97 : Nat) : Int),(-1 : Int),(-1 : Int))]).map e3 = Q.map e3 ++ [.st [.i ((b.toNat - 97 : Nat) : Int),.i (-1),.i (-1)]] := by rw [List.map_append]; rfl
 have lb : Q.length ≤ bound := by unfold bound; omega
 have lb1 : Q.length + 1 ≤ bound := by unfold bound; omega
 have tkQ := tk_e3 Q
 have lQ : (Q.map e3).length = Q.length := by simp
 have cE : ∀ e ∈ Q.map e3,e.cells.length = 3 := fun e he => by
  obtain ⟨x,_,rfl⟩ := List.mem_map.1 he
  rfl
 have lend := lend_e3 Q
 unfold rd2 rd3
 rw [l1,e1]
 generalize b.toNat - 97 = a at *
 generalize Q.map e3 = E at *
 simp [F_spec_l11Read_C2,hlt,hlt2,hb,hbb,kb,lb,lb1,tkQ,lQ,if_pos cE,lend,-Int.natCast_add]
theorem rd1_no {s : List UInt8} {at_ : Nat} {Q : List C3} {b : UInt8} (hs : s.length ≤ 400) (hb : s[at_]? = some b) (lq : Q.length ≤ 31) (h : b < 97 ∨ 101 < b ∨ s[at_ + 1]? ≠ some 40 ∨ 31 ≤ Q.length) :
  ex lf F_spec_l11Read_C1 (rd2 s at_ Q) = some (.ret,rdRet 1054 Q (-1) (-1)) := by
 have hlt : at_ < s.length := (List.getElem?_eq_some_iff.1 hb).1
 have hlt2 : (at_ : Int) < s.length := by omega
 have hbb : s[at_] = b := (List.getElem?_eq_some_iff.1 hb).2
 have wa1 : wr ((at_ : Int) + 1) = ((at_ + 1 : Nat) : Int) := by rw [wr_id (by omega) (by omega)]; omega
 have l97 : b < 97 ↔ b.toNat < 97 := UInt8.lt_iff_toNat_lt
 have l101 : 101 < b ↔ 101 < b.toNat := UInt8.lt_iff_toNat_lt
 have lQ : (Q.map e3).length = Q.length := by simp
 unfold rd2 rdRet
 by_cases c1 : b.toNat < 97
 ·simp [F_spec_l11Read_C1,hlt,hlt2,hb,hbb,c1]
 by_cases c2 : 101 < b.toNat
 ·simp [F_spec_l11Read_C1,hlt,hlt2,hb,hbb,c1,c2]
 by_cases c3 : s.length ≤ at_ + 1
 ·have c3' : (s.length : Int) ≤ ((at_ + 1 : Nat) : Int) := by omega
  simp [F_spec_l11Read_C1,hlt,hlt2,hb,hbb,c1,c2,wa1,c3',-Int.natCast_add]
 have c3l : at_ + 1 < s.length := by omega
 have c3' : ¬ (s.length : Int) ≤ ((at_ + 1 : Nat) : Int) := by omega
 have c3'' : ((at_ + 1 : Nat) : Int) < s.length := by omega
 have at2 : s[at_ + 1]? = some s[at_ + 1] := List.getElem?_eq_getElem c3l
 rw [at2] at h
 obtain ⟨d,hd⟩ : ∃ d,s[at_ + 1] = d := ⟨_,rfl⟩
 rw [hd] at at2 h
 by_cases c4 : d.toNat = 40
 ·have c5 : 31 ≤ Q.length := by
   rcases h with h | h | h | h
   ·exact absurd (l97.1 h) c1
   ·exact absurd (l101.1 h) c2
   ·exact absurd (by rw [(u8n (n := 40) (by omega)).2 c4]; rfl) h
   ·exact h
  have c5' : (31 : Int) ≤ Q.length := by omega
  simp [F_spec_l11Read_C1,hlt,hlt2,hb,hbb,c1,c2,wa1,c3l,c3',c3'',hd,at2,c4,lQ,c5',-Int.natCast_add]
 ·have c4' : (d.toNat != 40) = true := by simp [c4]
  simp [F_spec_l11Read_C1,hlt,hlt2,hb,hbb,c1,c2,wa1,c3l,c3',c3'',hd,at2,c4',-Int.natCast_add]
theorem rd1_yes {s : List UInt8} {at_ : Nat} {Q : List C3} {b : UInt8} (hs : s.length ≤ 400) (hb : s[at_]? = some b) (c1 : ¬ b.toNat < 97) (c2 : ¬ 101 < b.toNat) (c4 : s[at_ + 1]? = some 40) (c5 : ¬ 31 ≤ Q.length) :
  ex lf F_spec_l11Read_C1 (rd2 s at_ Q) = ex lf F_spec_l11Read_C2 (rd2 s at_ Q) := by
 have hlt : at_ < s.length := (List.getElem?_eq_some_iff.1 hb).1
 have hlt2 : (at_ : Int) < s.length := by omega
 have hbb : s[at_] = b := (List.getElem?_eq_some_iff.1 hb).2
 have wa1 : wr ((at_ : Int) + 1) = ((at_ + 1 : Nat) : Int) := by rw [wr_id (by omega) (by omega)]; omega
 have lQ : (Q.map e3).length = Q.length := by simp
 have c3l : at_ + 1 < s.length := (List.getElem?_eq_some_iff.1 c4).1
 have hd : s[at_ + 1] = 40 := (List.getElem?_eq_some_iff.1 c4).2
 have c3' : ¬ (s.length : Int) ≤ ((at_ + 1 : Nat) : Int) := by omega
 have c3'' : ((at_ + 1 : Nat) : Int) < s.length := by omega
 have c5' : ¬ (31 : Int) ≤ Q.length := by omega
 unfold rd2
 simp [F_spec_l11Read_C1,hlt,hlt2,hb,hbb,c1,c2,wa1,c3l,c3',c3'',hd,c4,lQ,c5',-Int.natCast_add]
theorem rd0_dig {s : List UInt8} {at_ : Nat} {Q : List C3} {b : UInt8} (hs : s.length ≤ 400) (hb : s[at_]? = some b) (h : b = 48 ∨ b = 49) :
  ex lf F_spec_l11Read_C0 (rd2 s at_ Q) = some (.ret,rdRet 1054 Q (-1) ((at_ + 1 : Nat) : Int)) := by
 have hlt : at_ < s.length := (List.getElem?_eq_some_iff.1 hb).1
 have hlt2 : (at_ : Int) < s.length := by omega
 have hbb : s[at_] = b := (List.getElem?_eq_some_iff.1 hb).2
 have wa1 : wr ((at_ : Int) + 1) = ((at_ + 1 : Nat) : Int) := by rw [wr_id (by omega) (by omega)]; omega
 unfold rd2 rdRet
 rcases h with rfl | rfl <;> simp [F_spec_l11Read_C0,hlt,hlt2,hb,hbb,wa1,-Int.natCast_add]
theorem rd0_go {s : List UInt8} {at_ : Nat} {Q : List C3} {b : UInt8} (hs : s.length ≤ 400) (hb : s[at_]? = some b) (h : ¬ (b = 48 ∨ b = 49)) :
  ex lf F_spec_l11Read_C0 (rd2 s at_ Q) = ex lf F_spec_l11Read_C1 (rd2 s at_ Q) := by
 have hlt : at_ < s.length := (List.getElem?_eq_some_iff.1 hb).1
 have hlt2 : (at_ : Int) < s.length := by omega
 have hbb : s[at_] = b := (List.getElem?_eq_some_iff.1 hb).2
 rw [not_or] at h
 have n48 : b.toNat ≠ 48 := fun q => h.1 ((u8n (n := 48) (by omega)).2 q)
 have n49 : b.toNat ≠ 49 := fun q => h.2 ((u8n (n := 49) (by omega)).2 q)
 have b48 : (b.toNat == 48) = false := beq_eq_false_iff_ne.2 n48
 have b49 : (b.toNat == 49) = false := beq_eq_false_iff_ne.2 n49
 unfold rd2
 simp [F_spec_l11Read_C0,hlt,hlt2,hb,hbb,b48,b49]
theorem rd_ret {s : List UInt8} {at_ : Nat} {Q R : List C3} {k : Nat} {a c : Int} (hs : s.length ≤ 400) (ha : at_ < s.length) (hk : k = 1054 ∨ k = 42009 ∨ k = 54297) (h : ex lf F_spec_l11Read_C0 (rd2 s at_ Q) = some (.ret,rdRet k R a c)) :
  call lf n_spec_l11Read [.s s,.i at_,.gv 3 (Q.map e3)] = some (.tup [.fr 3 (R.map e3),.i a,.i c],[]) := by
 rw [call_k lf n_spec_l11Read _ (F := F_spec_l11Read) rfl rfl]
 have hlt' : ¬ (s.length : Int) ≤ at_ := by omega
 have lQ : (Q.map e3).length = Q.length := by simp
 have lR : (R.map e3).length = R.length := by simp
 have tkR := tk_e3 R
 unfold rd2 rdRet at h
 generalize R.map e3 = E at *
 rcases hk with rfl | rfl | rfl <;> simp [F_spec_l11Read,hlt',lQ,h,lR,tkR]
theorem rd_out {s : List UInt8} {at_ : Nat} {Q : List C3} (hs : s.length ≤ 400) (ha : s.length ≤ at_) :
  call lf n_spec_l11Read [.s s,.i at_,.gv 3 (Q.map e3)] = some (.tup [.fr 3 (Q.map e3),.i (-1),.i (-1)],[]) := by
 rw [call_k lf n_spec_l11Read _ (F := F_spec_l11Read) rfl rfl]
 have h' : (s.length : Int) ≤ at_ := by omega
 have tkQ := tk_e3 Q
 have lQ : (Q.map e3).length = Q.length := by simp
 generalize Q.map e3 = E at *
 simp [F_spec_l11Read,h',tkQ,lQ]
theorem c_spec_l11Read {s : List UInt8} (hs : s.length ≤ 400) : ∀ (f at_ : Nat) (Q : List C3),at_ ≤ s.length → s.length < at_ + f → Q.length ≤ 31 → RdA s Q at_ (rdP f Q.length (s.drop at_))
 | 0,at_,Q,h1,h2,h3 => by omega
 | f + 1,at_,Q,ha,hf,hQ => by
  by_cases hlt : s.length ≤ at_
  ·have e : s.drop at_ = [] := List.drop_eq_nil_of_le (by omega)
   rw [e]
   exact ⟨Q,hQ,rd_out hs hlt⟩
  have hlt : at_ < s.length := by omega
  have at1 : s[at_]? = some s[at_] := List.getElem?_eq_getElem hlt
  rw [List.drop_eq_getElem_cons hlt]
  obtain ⟨b,hb⟩ : ∃ b,s[at_] = b := ⟨_,rfl⟩
  rw [hb] at at1
  rw [hb]
  simp only [rdP]
  by_cases h1 : b = 48 ∨ b = 49
  ·rw [if_pos h1]
   simp only [RdA]
   have ln : (s.length : Int) - ((s.drop (at_ + 1)).length : Int) = ((at_ + 1 : Nat) : Int) := by
    rw [List.length_drop]; omega
   rw [ln]
   simp only [ser,rt,List.append_nil]
   exact rd_ret hs hlt (.inl rfl) (rd0_dig hs at1 h1)
  rw [if_neg h1]
  have g0 := rd0_go (Q := Q) hs at1 h1
  have hd1 : (s.drop (at_ + 1)).head? = s[at_ + 1]? := List.head?_drop
  rw [hd1]
  by_cases h2 : b < 97 ∨ 101 < b ∨ s[at_ + 1]? ≠ some 40 ∨ 31 ≤ Q.length
  ·rw [if_pos h2]
   exact ⟨Q,hQ,rd_ret hs hlt (.inl rfl) (g0.trans (rd1_no hs at1 hQ h2))⟩
  rw [if_neg h2]
  simp only [not_or,ne_eq,Classical.not_not] at h2
  obtain ⟨c1,c2,c4,c5⟩ := h2
  have l97 : b < 97 ↔ b.toNat < 97 := UInt8.lt_iff_toNat_lt
  have l101 : 101 < b ↔ 101 < b.toNat := UInt8.lt_iff_toNat_lt
  rw [l97] at c1
  rw [l101] at c2
  have g1 := g0.trans (rd1_yes hs at1 c1 c2 c4 c5)
  have g2 := g1.trans (rd2_go at1 (by omega) (by omega) hQ)
  have c3l : at_ + 1 < s.length := (List.getElem?_eq_some_iff.1 c4).1
  have dt : (s.drop (at_ + 1)).tail = s.drop (at_ + 2) := List.tail_drop
  rw [dt]
  have l1 : (Q ++ [(((b.toNat - 97 : Nat) : Int),(-1 : Int),(-1 : Int))]).length = Q.length + 1 := by simp
  have IH1 := c_spec_l11Read hs f (at_ + 2) (Q ++ [(((b.toNat - 97 : Nat) : Int),-1,-1)]) (by omega) (by omega) (by rw [l1]; omega)
  rw [l1] at IH1
  cases r1 : rdP f (Q.length + 1) (s.drop (at_ + 2)) with
  | none =>
   rw [r1] at IH1
   obtain ⟨R,hR,IH1⟩ := IH1
   exact ⟨R,hR,rd_ret hs hlt (.inr (.inl rfl)) (g2.trans ((rd3_go (by omega) (by rw [l1]; omega) (by omega) IH1).trans (rd4_no (.inl (by omega)))))⟩
  | some q =>
   obtain ⟨n,r2⟩ := q
   rw [r1] at IH1
   simp only [RdA] at IH1
   obtain ⟨f1,_,_⟩ := rd_few f (Q.length + 1) _ n r2 (by omega) r1
   obtain ⟨k1,i1,i2⟩ := rd_end _ _ _ _ _ r1
   rw [List.length_drop] at i2
   obtain ⟨mid,hmid⟩ : ∃ mid,mid = at_ + 2 + k1 := ⟨_,rfl⟩
   have i3 : r2 = s.drop mid := by rw [i1,List.drop_drop,hmid]
   have mle : mid ≤ s.length := by omega
   have em : (s.length : Int) - (r2.length : Int) = (mid : Int) := by omega
   rw [l1,em] at IH1
   obtain ⟨Q1,hQ1⟩ : ∃ Q1,Q1 = Q ++ [(((b.toNat - 97 : Nat) : Int),(-1 : Int),(-1 : Int))] ++ ser n (Q.length + 1) := ⟨_,rfl⟩
   have l2 : Q1.length = Q.length + 1 + n.size := by rw [hQ1]; simp [ser_len]; omega
   rw [← hQ1] at IH1
   have g3 := g2.trans (rd3_go (pl := Q.length) (ask := ((b.toNat - 97 : Nat) : Int)) (by omega) (by rw [l1]; omega) (by omega) IH1)
   have hd2 : r2.head? = s[mid]? := by rw [i3]; exact List.head?_drop
   have dt2 : r2.tail = s.drop (mid + 1) := by rw [i3]; exact List.tail_drop
   simp only
   rw [dt2,hd2]
   by_cases h3 : s[mid]? ≠ some 44
   ·rw [if_pos h3]
    refine ⟨Q1,by omega,rd_ret hs hlt (.inr (.inl rfl)) (g3.trans (rd4_no (idx_bad ?_)))⟩
    by_cases m1 : s.length ≤ mid
    ·exact .inr (.inl (by omega))
    ·have m1l : mid < s.length := by omega
     have at3 : s[mid]? = some s[mid] := List.getElem?_eq_getElem m1l
     exact .inr (.inr ⟨s[mid],by rw [Int.toNat_natCast]; exact at3,fun e => h3 (by rw [at3,e])⟩)
   rw [if_neg h3]
   have h3 : s[mid]? = some 44 := Classical.not_not.1 h3
   have m3l : mid < s.length := (List.getElem?_eq_some_iff.1 h3).1
   have IH2 := c_spec_l11Read hs f (mid + 1) Q1 (by omega) (by omega) (by omega)
   rw [l2] at IH2
   cases r2' : rdP f (Q.length + 1 + n.size) (s.drop (mid + 1)) with
   | none =>
    rw [r2'] at IH2
    obtain ⟨R,hR,IH2⟩ := IH2
    exact ⟨R,hR,rd_ret hs hlt (.inr (.inr rfl)) (g3.trans ((rd4_yes h3 hs (by omega) hR IH2).trans (rd5_no (.inl (by omega)))))⟩
   | some q =>
    obtain ⟨y,r4⟩ := q
    rw [r2'] at IH2
    simp only [RdA] at IH2
    obtain ⟨f2,_,_⟩ := rd_few f (Q.length + 1 + n.size) _ y r4 (by omega) r2'
    obtain ⟨k2,j1,j2⟩ := rd_end _ _ _ _ _ r2'
    rw [List.length_drop] at j2
    obtain ⟨nx,hnx⟩ : ∃ nx,nx = mid + 1 + k2 := ⟨_,rfl⟩
    have j3 : r4 = s.drop nx := by rw [j1,List.drop_drop,hnx]
    have nle : nx ≤ s.length := by omega
    have en : (s.length : Int) - (r4.length : Int) = (nx : Int) := by omega
    rw [l2,en] at IH2
    obtain ⟨Q2,hQ2⟩ : ∃ Q2,Q2 = Q1 ++ ser y (Q.length + 1 + n.size) := ⟨_,rfl⟩
    have l3 : Q2.length = Q.length + 1 + n.size + y.size := by rw [hQ2]; simp [ser_len]; omega
    rw [← hQ2] at IH2
    have g4 := g3.trans (rd4_yes h3 hs (by omega) (by omega) IH2)
    have hd3 : r4.head? = s[nx]? := by rw [j3]; exact List.head?_drop
    simp only
    rw [hd3]
    by_cases h4 : s[nx]? ≠ some 41
    ·rw [if_pos h4]
     refine ⟨Q2,by omega,rd_ret hs hlt (.inr (.inr rfl)) (g4.trans (rd5_no (idx_bad ?_)))⟩
     by_cases m1 : s.length ≤ nx
     ·exact .inr (.inl (by omega))
     ·have m1l : nx < s.length := by omega
      have at3 : s[nx]? = some s[nx] := List.getElem?_eq_getElem m1l
      exact .inr (.inr ⟨s[nx],by rw [Int.toNat_natCast]; exact at3,fun e => h4 (by rw [at3,e])⟩)
    rw [if_neg h4]
    have h4 : s[nx]? = some 41 := Classical.not_not.1 h4
    have n3l : nx < s.length := (List.getElem?_eq_some_iff.1 h4).1
    have g5 := g4.trans (rd5_yes (pl := Q.length) (by omega) h4 hs)
    have tl : ((s.length : Int) - (r4.tail.length : Int)) = ((nx + 1 : Nat) : Int) := by
     rw [j3,List.tail_drop,List.length_drop]; omega
    have sr : Q2.set Q.length (((b.toNat - 97 : Nat) : Int),rt n (Q.length + 1),rt y (Q.length + 1 + n.size)) = Q ++ ser (.ask (b.toNat - 97) n y) Q.length := by
     rw [hQ2,hQ1]
     simp [ser,List.set_append]
    simp only [RdA]
    rw [tl,← sr]
    exact rd_ret hs hlt (.inr (.inr rfl)) g5
end
section
attribute [-simp] DV.cells sliceD
attribute [local simp] cells_st cells_sl cells_i cells_y cells_b cells_s cells_w
attribute [local simp] lend_e3 adopt_e3 new_e3 al_e3 lt_e3
def rpV : Option PT → DV
 | none => .tup [.fr 3 [],.b false]
 | some x => .tup [.fr 3 ((ser x 0).map e3),.b true]
theorem tm_nat {m : Int} {t : List T} (h : tmOk m t = true) : ((m.toNat : Nat) : Int) = m ∧ m.toNat ≤ 5 := by
 obtain ⟨h1,_,_⟩ := tmOk_iff.1 h
 omega
theorem pkOk_tm {m : Int} {t : List T} {P : List C3} (h : pkOk m t P = true) : tmOk m t = true := by
 unfold pkOk at h
 simp only [Bool.and_eq_true] at h
 exact h.1.1.1.1
theorem rp_no {s : List UInt8} {m : Int} {t : List T} {P : List C3} (hs : s.length ≤ 400) (hP : P.length ≤ 31) {a next : Int} (C : call lf n_spec_l11Read [.s s,.i 0,.gv 3 []] = some (.tup [.fr 3 (P.map e3),.i a,.i next],[])) (hn : next ≠ s.length) :
  call lf n_spec_ReadPlan [.i m,.sl 0 (t.map e2),.s s] = some (rpV none,[]) := by
 have hs' : ¬ (400 < (s.length : Int)) := by omega
 have tk := tk_e3 P
 have lE : (P.map e3).length = P.length := by simp
 have ne : ((next : Int) != (s.length : Int)) = true := bne_iff_ne.2 hn
 have hLE := lend_e3 P
 have aE := adopt_e3 false P
 rw [call_k lf n_spec_ReadPlan _ (F := F_spec_ReadPlan) rfl rfl]
 generalize P.map e3 = E at *
 simp [F_spec_ReadPlan,hs',C,ne,hLE,aE,tk,lE,rpV]
theorem rp_yes {s : List UInt8} {m : Int} {t : List T} {P : List C3} (hs : s.length ≤ 400) (hP : P.length ≤ 31) {a : Int} (C : call lf n_spec_l11Read [.s s,.i 0,.gv 3 []] = some (.tup [.fr 3 (P.map e3),.i a,.i s.length],[])) {S : List UInt8} (CT : call lf n_spec_PlanText [.i m,.sl 0 (t.map e2),.sl 0 (P.map e3)] = some (.s S,[])) :
  call lf n_spec_ReadPlan [.i m,.sl 0 (t.map e2),.s s] = some (if S = s then .tup [.fr 3 (P.map e3),.b true] else rpV none,[]) := by
 have hs' : ¬ (400 < (s.length : Int)) := by omega
 have tk := tk_e3 P
 have lE : (P.map e3).length = P.length := by simp
 have hLE := lend_e3 P
 have aE := adopt_e3 false P
 rw [call_k lf n_spec_ReadPlan _ (F := F_spec_ReadPlan) rfl rfl]
 generalize P.map e3 = E at *
 by_cases e : S = s
 ·subst e
  simp [F_spec_ReadPlan,hs',C,CT,tk,lE,hLE,aE]
 ·have e' : (S == s) = false := beq_false_of_ne e
  simp [F_spec_ReadPlan,hs',C,CT,tk,lE,hLE,aE,e,e',rpV]
theorem c_spec_ReadPlan {m : Int} {t : List T} (hb : (t.length : Int) < 1099511627776) (s : List UInt8) :
  call lf n_spec_ReadPlan [.i m,.sl 0 (t.map e2),.s s] = some (rpV (rpl m.toNat t s),[]) := by
 by_cases hs : 400 < s.length
 ·have e : rpl m.toNat t s = none := by unfold rpl; rw [if_pos hs]
  have hs' : 400 < (s.length : Int) := by omega
  rw [e,call_k lf n_spec_ReadPlan _ (F := F_spec_ReadPlan) rfl rfl]
  simp [F_spec_ReadPlan,hs',rpV]
 ·have hs' : s.length ≤ 400 := by omega
  have C := c_spec_l11Read hs' (s.length + 1) 0 [] (by omega) (by omega) (by simp)
  rw [List.length_nil,List.drop_zero] at C
  unfold rpl
  rw [if_neg hs]
  cases e : rdP (s.length + 1) 0 s with
  | none =>
   rw [e] at C
   obtain ⟨R,l,C⟩ := C
   exact rp_no hs' l C (by omega)
  | some q =>
   obtain ⟨x,r⟩ := q
   rw [e] at C
   obtain ⟨f1,f2,f3⟩ := rd_few _ _ _ _ _ (by omega) e
   simp only [RdA,List.nil_append,List.length_nil] at C
   have sl : (ser x 0).length ≤ 31 := by rw [ser_len]; omega
   cases r with
   | cons b r =>
    simp only
    exact rp_no hs' sl C (by simp only [List.length_cons]; omega)
   | nil =>
    simp only [List.length_nil,Int.natCast_zero,Int.sub_zero] at C
    simp only
    by_cases hp : pkOk m t (ser x 0) = true
    ·have ht := pkOk_tm hp
     obtain ⟨mm,m5⟩ := tm_nat ht
     have hp' := hp
     rw [← mm] at hp' ht
     obtain ⟨_,ox⟩ := (pk_ser m5).1 hp'
     have CT := c_spec_PlanText hb ht (ser_pl m5 ox)
     rw [mm,lab_er] at CT
     rw [rp_yes hs' sl C CT]
     by_cases g : ptx m.toNat t (non m.toNat) x = s
     ·rw [if_pos g,if_pos ⟨hp',g⟩]; rfl
     ·rw [if_neg g,if_neg (fun q => g q.2)]
    ·have CT := c_spec_PlanText_no (m := m) (t := t) (P := ser x 0) hb (by omega) (by simpa using hp)
     rw [rp_yes hs' sl C CT]
     have g : ¬ ([] : List UInt8) = s := by
      rintro rfl
      simp [rdP] at e
     rw [if_neg g,if_neg (fun q => by
      have ht := pkOk_tm q.1
      obtain ⟨g1,_,_⟩ := tmOk_iff.1 ht
      have mm : ((m.toNat : Nat) : Int) = m := by omega
      rw [mm] at q
      exact hp q.1)]
end
section
attribute [-simp] DV.cells
attribute [local simp] sliceD cells_st cells_sl cells_i cells_y cells_b cells_s cells_w
attribute [local simp] lend_e3 adopt_e3 new_e3 al_e3 lt_e3
theorem pkOk_few {m : Int} {t : List T} {P : List C3} (h : pkOk m t P = true) : P.length ≤ 31 := by
 unfold pkOk at h
 simp only [Bool.and_eq_true,decide_eq_true_eq] at h
 exact h.1.1.1.2
end
section
attribute [-simp] DV.cells sliceD
attribute [local simp] cells_st cells_sl cells_i cells_y cells_b cells_s cells_w
attribute [local simp] lend_e3 adopt_e3 new_e3 al_e3 lt_e3
def bpOk (us t : List T) : Bool := tsOk us && tmOk us.length t
def bpL (us t : List T) : List C3 := if bpOk us t then ser (bX us t) 0 else []
theorem c_spec_BestPlan (us t : List T) (ha : (us.length : Int) < 1099511627776) (hb : (t.length : Int) < 1099511627776) : call lf n_spec_BestPlan [.sl 0 (us.map e2),.sl 0 (t.map e2)] = some (.tup [.fr 3 ((bpL us t).map e3),.b (bpOk us t)],[]) := by
 have C1 := c_spec_TestsOk us ha
 have C2 := c_spec_TermOk us.length t hb
 have ul : (us.map e2).length = us.length := by simp
 rw [call_k lf n_spec_BestPlan _ (F := F_spec_BestPlan) rfl rfl]
 unfold bpL bpOk
 cases h1 : tsOk us with
 | false => rw [h1] at C1; simp [F_spec_BestPlan,C1]
 | true =>
  rw [h1] at C1
  have h' := tsOk_iff.1 h1
  cases h2 : tmOk us.length t with
  | false => rw [h2] at C2; simp [F_spec_BestPlan,C1,C2]
  | true =>
   rw [h2] at C2
   have C3 := c_spec_l3Table h2
   have C4 := c_spec_l4None (m := us.length) (by omega) (by omega)
   have C5 := c_spec_l1Power (n := us.length) (by omega)
   have sz := okT_size (m := us.length) (by omega) (bX_ok (t := t) h'.2).1
   have C6 := c_spec_l6Grow h1 t us.length (non us.length) [] (by omega) (non_len _) (non_all _) (by rw [uk_non]; exact Nat.le_refl _) (by
    show 0 + (bX us t).size ≤ 40
    omega)
   rw [wk_non] at C6
   rw [Int.toNat_natCast] at C4
   have nl := non_len us.length
   have e : bT us t us.length (non us.length) = bX us t := rfl
   rw [e] at C6
   simp only [List.length_nil,List.nil_append,List.map_nil] at C6
   have tk : List.take us.length ((non us.length).map DV.i) = (non us.length).map .i := List.take_of_length_le (by simp [nl])
   have l0 := ser_len (bX us t) 0
   have tk3 := tk_e3 (ser (bX us t) 0)
   rw [l0] at tk3
   simp only [Bool.and_self,if_true]
   generalize bX us t = x at *
   simp [F_spec_BestPlan,C1,C2,C3,C4,C5,C6,nl,tk,l0,tk3]
end
section
attribute [-simp] DV.cells sliceD
attribute [local simp] cells_st cells_sl cells_i cells_y cells_b cells_s cells_w
attribute [local simp] lend_e3 adopt_e3 new_e3 al_e3 lt_e3
theorem lnT_go {m : Nat} {t : List T} {a : Int} {r ks : List Int} (h : fcd m t ks = false) : lnT m t (a :: r) ks = .ask a.toNat (lnT m t r (ks.set a.toNat 0)) (lnT m t r (ks.set a.toNat 1)) := by
 simp only [lnT]
 rw [h,if_neg (by simp)]
theorem lnT_end {m : Nat} {t : List T} {r ks : List Int} (h : fcd m t ks = true) : lnT m t r ks = .stop := by
 cases r with
 | nil => rfl
 | cons a r => simp only [lnT]; rw [h,if_pos rfl]
set_option maxHeartbeats 4000000 in
theorem c_spec_l6Line {m : Nat} (h1 : 1 ≤ m) (h5 : m ≤ 5) (t : List T) {os : List Int} (hos : os.length ≤ 5) : ∀ (rest : List Int) (p : Nat) (so : Nat) (ks : List Int) (Q : List C3),os.drop p = rest → p + rest.length = os.length → orS m so rest = true → ks.length = m → ks.all kOk = true → hkn m ks so → uk ks = rest.length → Q.length + (lnT m t rest ks).size ≤ 40 →
  call lf n_spec_l6Line [.i m,.i (tabT m t),.sl 0 (os.map .i),.i p,.sl 0 (ks.map .i),.gv 3 (Q.map e3)] = some (.tup [.fr 3 ((Q ++ ser (lnT m t rest ks) Q.length).map e3),.i (rt (lnT m t rest ks) Q.length)],[]) := by
 intro rest
 induction rest with
 | nil =>
  intro p so ks Q hd hp ho hl hk hn hu hq
  have F := c_spec_l3Forced (m := (m : Int)) (by omega) (by omega) ks (by omega) (tabT m t) (by
   obtain ⟨s,q1,q2⟩ := agB_some hk
   exact ⟨s,by rw [Int.toNat_natCast,← hl]; exact q1,q2⟩)
  rw [foT_tab (by omega) (by omega)] at F
  have hc : fcd m t ks = true := fcd_all hl hk hu
  have fe : (foT m t ks != -1) = true := hc
  have tk := tk_e3 Q
  rw [call_k lf n_spec_l6Line _ (F := F_spec_l6Line) rfl rfl,lnT_end hc]
  simp only [ser,rt,List.append_nil]
  simp [F_spec_l6Line,F,fe,tk]
 | cons a r ih =>
  intro p so ks Q hd hp ho hl hk hn hu hq
  have F := c_spec_l3Forced (m := (m : Int)) (by omega) (by omega) ks (by omega) (tabT m t) (by
   obtain ⟨s,q1,q2⟩ := agB_some hk
   exact ⟨s,by rw [Int.toNat_natCast,← hl]; exact q1,q2⟩)
  rw [foT_tab (by omega) (by omega)] at F
  have fe : (foT m t ks != -1) = fcd m t ks := rfl
  rw [call_k lf n_spec_l6Line _ (F := F_spec_l6Line) rfl rfl]
  cases hc : fcd m t ks with
  | true =>
   rw [hc] at fe
   have tk := tk_e3 Q
   rw [lnT_end hc]
   simp only [ser,rt,List.append_nil]
   simp [F_spec_l6Line,F,fe,tk]
  | false =>
    rw [hc] at fe
    obtain ⟨o1,o2,o3⟩ := orS_cons.1 ho
    obtain ⟨k,rfl⟩ : ∃ k : Nat,a = k := ⟨a.toNat,by omega⟩
    rw [lnT_go hc] at hq ⊢
    simp only [Int.toNat_natCast] at o2 o3 hq ⊢
    have km : k < m := by omega
    have k1 : ks[k]? = some (-1) := (hn k km).2 o2
    have kk : k < ks.length := by omega
    have kk' : (k : Int) < ks.length := by omega
    simp only [List.length_cons] at hp hu
    have hd' : os.drop (p + 1) = r := by
     have := congrArg (List.drop 1) hd
     simpa using this
    have us' := fun (b : Bool) => uk_set (b := bI b) (by cases b <;> simp [bI]) k1
    simp only [PT.size] at hq
    have G := fun (b : Bool) (Q' : List C3) (h : Q'.length + (lnT m t r (ks.set k (bI b))).size ≤ 40) => ih (p + 1) (so ||| 2 ^ k) (ks.set k (bI b)) Q' hd' (by omega) o3 (by simpa using hl) (kOk_set hk k b) (hkn_set hl km hn b) (by have := us' b; omega) h
    have G0 := G false (Q ++ [((k : Int),-1,-1)]) (by rw [bI_0]; simp; omega)
    rw [bI_0] at G0
    have G1 := G true (Q ++ [((k : Int),-1,-1)] ++ ser (lnT m t r (ks.set k 0)) (Q.length + 1)) (by rw [bI_1]; simp [ser_len]; omega)
    rw [bI_1] at G1
    obtain ⟨u,atk⟩ : ∃ u : Int,atN (ks.map DV.i) k = some (.i u) := ⟨ks[k],by show (ks.map DV.i)[k]? = _; simp [kk]⟩
    have t0 : List.take ks.length ((ks.map DV.i).set k (.i 0)) = (ks.map .i).set k (.i 0) := List.take_of_length_le (by simp)
    have t1 : List.take ks.length ((ks.map DV.i).set k (.i 1)) = (ks.map .i).set k (.i 1) := List.take_of_length_le (by simp)
    have lb : ks.length ≤ bound := by unfold bound; omega
    have lq : Q.length ≤ bound := by unfold bound; omega
    have lq1 : Q.length + 1 ≤ bound := by unfold bound; omega
    have ek : e3 ((k : Int),-1,-1) = .st [.i (k : Int),.i (-1),.i (-1)] := rfl
    have kp : p < os.length := by omega
    have kp' : (p : Int) < os.length := by omega
    have w1 : wr ((p : Int) + 1) = ((p + 1 : Nat) : Int) := by rw [wr_id (by omega) (by omega)]; omega
    have AO : atI (os.map DV.i) p = some (.i k) := by
     simp only [atI,if_pos (Int.natCast_nonneg p)]
     show (os.map DV.i)[(p : Int).toNat]? = _
     have : os[p]? = some (k : Int) := by
      have := congrArg (fun l => l[0]?) hd
      simpa using this
     simp [this]
    have l1 : (Q ++ [((k : Int),(-1 : Int),(-1 : Int))]).length = Q.length + 1 := by simp
    rw [l1] at G0
    have l2 : (Q ++ [((k : Int),(-1 : Int),(-1 : Int))] ++ ser (lnT m t r (ks.set k 0)) (Q.length + 1)).length = Q.length + 1 + (lnT m t r (ks.set k 0)).size := by simp [ser_len]; omega
    rw [l2] at G1
    have l0s := ser_len (lnT m t r (ks.set k 0)) (Q.length + 1)
    have l1s := ser_len (lnT m t r (ks.set k 1)) (Q.length + 1 + (lnT m t r (ks.set k 0)).size)
    simp only [ser]
    rw [show rt (PT.ask k (lnT m t r (ks.set k 0)) (lnT m t r (ks.set k 1))) Q.length = (Q.length : Int) from rfl]
    have fin : ∀ a b : Int,((Q ++ [((k : Int),(-1 : Int),(-1 : Int))] ++ ser (lnT m t r (ks.set k 0)) (Q.length + 1) ++ ser (lnT m t r (ks.set k 1)) (Q.length + 1 + (lnT m t r (ks.set k 0)).size)).map e3).set Q.length (.st [.i (k : Int),.i a,.i b]) = (Q ++ ((k : Int),a,b) :: (ser (lnT m t r (ks.set k 0)) (Q.length + 1) ++ ser (lnT m t r (ks.set k 1)) (Q.length + 1 + (lnT m t r (ks.set k 0)).size))).map e3 := fun a b => by
     simp [e3]
    rw [← fin]
    have l3 : (Q ++ [((k : Int),(-1 : Int),(-1 : Int))] ++ ser (lnT m t r (ks.set k 0)) (Q.length + 1) ++ ser (lnT m t r (ks.set k 1)) (Q.length + 1 + (lnT m t r (ks.set k 0)).size)).length = Q.length + 1 + (lnT m t r (ks.set k 0)).size + (lnT m t r (ks.set k 1)).size := by rw [List.length_append,l2,l1s]
    have ql : (Q.length : Int) < ((Q.length + 1 + (lnT m t r (ks.set k 0)).size + (lnT m t r (ks.set k 1)).size : Nat) : Int) := by omega
    have hf1 : ∀ X : C3,e3 X = .st [.i X.1,.i X.2.1,.i X.2.2] := fun X => rfl
    have at1 : atN ((Q ++ [((k : Int),(-1 : Int),(-1 : Int))] ++ ser (lnT m t r (ks.set k 0)) (Q.length + 1) ++ ser (lnT m t r (ks.set k 1)) (Q.length + 1 + (lnT m t r (ks.set k 0)).size)).map e3) Q.length = some (.st [.i k,.i (-1),.i (-1)]) := by
     rw [← ek]
     show (List.map e3 _)[Q.length]? = _
     simp
    generalize (lnT m t r (ks.set k 0)).size = z0 at *
    generalize (lnT m t r (ks.set k 1)).size = z1 at *
    generalize rt (lnT m t r (ks.set k 0)) (Q.length + 1) = R0 at *
    generalize rt (lnT m t r (ks.set k 1)) (Q.length + 1 + z0) = R1 at *
    generalize ser (lnT m t r (ks.set k 0)) (Q.length + 1) = S0 at *
    generalize ser (lnT m t r (ks.set k 1)) (Q.length + 1 + z0) = S1 at *
    have e1 : (Q ++ [((k : Int),(-1 : Int),(-1 : Int))]).map e3 = Q.map e3 ++ [.st [.i (k : Int),.i (-1),.i (-1)]] := by rw [List.map_append]; rfl
    rw [e1] at G0
    have h0 := lend_e3 (Q ++ [((k : Int),(-1 : Int),(-1 : Int))] ++ S0)
    have h1 := lend_e3 (Q ++ [((k : Int),(-1 : Int),(-1 : Int))] ++ S0 ++ S1)
    have lm2 : ((Q ++ [((k : Int),(-1 : Int),(-1 : Int))] ++ S0).map e3).length = Q.length + 1 + z0 := by rw [List.length_map,l2]
    have lm3 : ((Q ++ [((k : Int),(-1 : Int),(-1 : Int))] ++ S0 ++ S1).map e3).length = Q.length + 1 + z0 + z1 := by rw [List.length_map,l3]
    have a0 := fun o => adopt_e3 o (Q ++ [((k : Int),(-1 : Int),(-1 : Int))] ++ S0)
    have a1 := fun o => adopt_e3 o (Q ++ [((k : Int),(-1 : Int),(-1 : Int))] ++ S0 ++ S1)
    have n0 := new_e3 (Q ++ [((k : Int),(-1 : Int),(-1 : Int))] ++ S0)
    have n1 := new_e3 (Q ++ [((k : Int),(-1 : Int),(-1 : Int))] ++ S0 ++ S1)
    rw [show Q ++ [((k : Int),(-1 : Int),(-1 : Int))] ++ S0 = (Q ++ [((k : Int),(-1 : Int),(-1 : Int))] ++ S0) from rfl] at G0
    generalize (Q ++ [((k : Int),(-1 : Int),(-1 : Int))] ++ S0 ++ S1).map e3 = M1 at *
    generalize (Q ++ [((k : Int),(-1 : Int),(-1 : Int))] ++ S0).map e3 = M0 at *
    have lE := lend_e3 Q
    have tkE := tk_e3 Q
    have cE : ∀ e ∈ Q.map e3,e.cells.length = 3 := fun e he => by
     obtain ⟨x,_,rfl⟩ := List.mem_map.1 he
     rfl
    have lmQ : (Q.map e3).length = Q.length := by simp
    generalize Q.map e3 = E at *
    generalize Q.length = qn at *
    rw [List.map_set] at G0 G1
    simp [F_spec_l6Line,F,fe,kp,kp',AO,lb,lq,lq1,lmQ,lE,tkE,if_pos cE,kk,kk',atk,w1,t0,t1,lend_set,G0,G1,lm2,lm3,h0,h1,a0,a1,n0,n1,ql,at1,-Int.natCast_add]
end
section
attribute [-simp] DV.cells
attribute [local simp] sliceD cells_st cells_sl cells_i cells_y cells_b cells_s cells_w
attribute [local simp] lend_e3 adopt_e3 new_e3 al_e3 lt_e3
theorem okT_len {m : Nat} {t : List T} : ∀ {os ks : List Int} {so : Nat},1 ≤ m → m ≤ 5 → ks.length = m → ks.all kOk = true → hkn m ks so → orS m so os = true → uk ks = os.length → okT m t ks (lnT m t os ks) := by
 intro os ks so h1 h5 hl hk hn ho hu
 have e : (List.replicate m ((1 : Int),(1 : Int))).length = m := by simp
 have := lnT_ok (us := List.replicate m ((1 : Int),(1 : Int))) (t := t) (by omega) os ks so (by omega) hk (by rw [e]; exact hn) (by rw [e]; exact ho) hu
 rw [e] at this
 exact this.1
def opOk (m : Int) (t : List T) (os : List Int) : Bool := tmOk m t && orOk m os
def opX (m : Int) (t : List T) (os : List Int) : PT := lnT m.toNat t os (non m.toNat)
def opL (m : Int) (t : List T) (os : List Int) : List C3 := if opOk m t os then ser (opX m t os) 0 else []
theorem opX_ok {m : Int} {t : List T} {os : List Int} (h : opOk m t os = true) : okT m.toNat t (non m.toNat) (opX m t os) := by
 unfold opOk at h
 rw [Bool.and_eq_true] at h
 obtain ⟨g1,g2,g3⟩ := orOk_iff.1 h.2
 refine okT_len (so := 0) (by omega) (by omega) (non_len _) (non_all _) (non_kn _) ?_ (by rw [uk_non]; omega)
 rw [show ((m.toNat : Nat) : Int) = m by omega]
 exact g3
theorem c_spec_OrderPlan (m : Int) (t : List T) (os : List Int) (ha : (os.length : Int) < 1099511627776) (hb : (t.length : Int) < 1099511627776) : call lf n_spec_OrderPlan [.i m,.sl 0 (t.map e2),.sl 0 (os.map .i)] = some (.tup [.fr 3 ((opL m t os).map e3),.b (opOk m t os)],[]) := by
 have C1 := c_spec_TermOk m t hb
 have C2 := c_spec_OrderOk m os ha
 rw [call_k lf n_spec_OrderPlan _ (F := F_spec_OrderPlan) rfl rfl]
 cases h1 : tmOk m t with
 | false =>
  rw [h1] at C1
  have e : opOk m t os = false := by unfold opOk; rw [h1]; rfl
  unfold opL
  rw [e]
  simp [F_spec_OrderPlan,C1]
 | true =>
  rw [h1] at C1
  cases h2 : orOk m os with
  | false =>
   rw [h2] at C2
   have e : opOk m t os = false := by unfold opOk; rw [h1,h2]; rfl
   unfold opL
   rw [e]
   simp [F_spec_OrderPlan,C1,C2]
  | true =>
   rw [h2] at C2
   have e : opOk m t os = true := by unfold opOk; rw [h1,h2]; rfl
   have ok := opX_ok e
   obtain ⟨g1,g2,g3⟩ := orOk_iff.1 h2
   have C3 := c_spec_l3Table h1
   have C4 := c_spec_l4None (m := m) (by omega) (by omega)
   have sz := okT_size (m := m.toNat) (by omega) ok
   have mm : ((m.toNat : Nat) : Int) = m := by omega
   have C6 := c_spec_l6Line (m := m.toNat) (by omega) (by omega) t (os := os) (by omega) os 0 0 (non m.toNat) [] rfl (by omega) (by rw [mm]; exact g3) (non_len _) (non_all _) (non_kn _) (by rw [uk_non]; omega) (by
    show 0 + (opX m t os).size ≤ 40
    omega)
   rw [mm] at C6
   have nl := non_len m.toNat
   have ex : lnT m.toNat t os (non m.toNat) = opX m t os := rfl
   rw [ex] at C6
   simp only [List.length_nil,List.nil_append,List.map_nil,Int.natCast_zero] at C6
   have tk : List.take m.toNat ((non m.toNat).map DV.i) = (non m.toNat).map .i := List.take_of_length_le (by simp [nl])
   have l0 := ser_len (opX m t os) 0
   have tk3 := tk_e3 (ser (opX m t os) 0)
   rw [l0] at tk3
   unfold opL
   rw [e]
   simp only [if_true]
   generalize opX m t os = x at *
   simp [F_spec_OrderPlan,C1,C2,C3,C4,C6,nl,tk,l0,tk3]
end
section
attribute [-simp] DV.cells
attribute [local simp] sliceD cells_st cells_sl cells_i cells_y cells_b cells_s cells_w
attribute [local simp] lend_e3 adopt_e3 new_e3 al_e3 lt_e3
theorem bpL_len (us t : List T) : (bpL us t).length ≤ 31 := by
 unfold bpL
 by_cases h : bpOk us t = true
 ·rw [if_pos h,ser_len]
  unfold bpOk at h
  rw [Bool.and_eq_true] at h
  have h' := tsOk_iff.1 h.1
  exact okT_size (by omega) (bX_ok (t := t) h'.2).1
 ·rw [if_neg h]; simp
theorem opL_len (m : Int) (t : List T) (os : List Int) : (opL m t os).length ≤ 31 := by
 unfold opL
 by_cases h : opOk m t os = true
 ·rw [if_pos h,ser_len]
  have ok := opX_ok h
  unfold opOk at h
  rw [Bool.and_eq_true] at h
  obtain ⟨⟨m1,m5⟩,_,_⟩ := tmOk_iff.1 h.1
  exact okT_size (by omega) ok
 ·rw [if_neg h]; simp
theorem c_odd_none {bs : List Nat} (p : Int) : call lf n_spec_l20Rd_odd [.ref (.st [.sl 0 (bs.map .y),.i p]),.i 0] = some (.b false,[.st [.sl 0 (bs.map .y),.i p]]) := by
 rw [call_k lf n_spec_l20Rd_odd _ (F := F_spec_l20Rd_odd) rfl rfl]
 simp [F_spec_l20Rd_odd]
theorem c_l20Order0 {bs : List Nat} (hb : ∀ y ∈ bs,y < 256) (hl : bs.length ≤ 2000) {p : Int} {m : Nat} (h0 : 0 ≤ p) (h1 : p < 700000) (hm : m ≤ 5) :
  ∃ (us : List Int) (p' : Int),us.length ≤ 6 ∧ p ≤ p' ∧ p' ≤ p + 20 ∧ call lf n_spec_l20Order [.ref (.st [.sl 0 (bs.map .y),.i p]),.i m,.i 0] = some (.fr 1 (us.map .i),[.st [.sl 0 (bs.map .y),.i p']]) := by
 obtain ⟨us,u1,L⟩ := l_l20Order hb hl m hm 0 m 0 p 5640 [] (.inl rfl) h0 (by omega) (by omega) (by rfl)
 have lu := perm_len u1
 simp only [Int.natCast_zero,List.map_nil] at L
 have q0 : 0 ≤ p + (m : Int) := by omega
 have k2 := c_odd_none (bs := bs) (p + (m : Int))
 generalize hq : p + (m : Int) = q at *
 refine ⟨us,q,by omega,by omega,by omega,?_⟩
 rw [call_k lf n_spec_l20Order _ (F := F_spec_l20Order) rfl rfl]
 simp [F_spec_l20Order,L,k2,lu]
set_option maxHeartbeats 8000000 in
theorem c_l20Plan {bs : List Nat} (hb : ∀ y ∈ bs,y < 256) (hl : bs.length ≤ 2000) {p n : Int} (h0 : 0 ≤ p) (h1 : p < 600000) (hn : 1 ≤ n) (hn2 : n ≤ 100000) {us t : List T} (hu : us.length ≤ 5) (ht : t.length ≤ 12) :
  ∃ (P : List C3) (p' : Int),P.length ≤ 32 ∧ p ≤ p' ∧ p' ≤ p + 40 ∧ call lf n_spec_l20Plan [.ref (.st [.sl 0 (bs.map .y),.i p]),.sl 0 (us.map e2),.sl 0 (t.map e2),.i n] = some (.fr 3 (P.map e3),[.st [.sl 0 (bs.map .y),.i p']]) := by
 have CB := c_spec_BestPlan us t (by omega) (by omega)
 have LB := bpL_len us t
 have kk := c_pick hb hl (p := p) (n := 2) (by omega) (by omega) (by omega)
 have ka := pk_bound hb (p := p) (n := 2) (by omega) (by omega) (by omega)
 generalize bpL us t = P1 at *
 cases hB : bpOk us t with
 | true =>
  rw [hB] at CB
  by_cases e0 : pk bs p 2 = 0
  ·rw [e0] at kk
   obtain ⟨os,q,o1,q1,q2,OR⟩ := c_l20Order0 hb hl (p := p + 1) (m := us.length) (by omega) (by omega) (by omega)
   have CO := c_spec_OrderPlan us.length t os (by omega) (by omega)
   have LO := opL_len us.length t os
   generalize opL us.length t os = P at *
   have lb : P.length + 1 ≤ bound := by unfold bound; omega
   have k1 := c_odd hb hl (p := q) (n := n) (by omega) (by omega) hn (by omega)
   by_cases e1 : pk bs q n = n - 1
   ·have e1' : (pk bs q n == n - 1) = true := beq_iff_eq.2 e1
    rw [e1'] at k1
    have k2 := c_pick hb hl (p := q + 1) (n := 3) (by omega) (by omega) (by omega)
    have a2 := pk_bound hb (p := q + 1) (n := 3) (by omega) (by omega) (by omega)
    generalize pk bs (q + 1) 3 = v at *
    have v3 : v = 0 ∨ v = 1 ∨ v = 2 := by omega
    rcases v3 with rfl | rfl | rfl
    ·refine ⟨P ++ [(0,-1,-1)],q + 1 + 1,by simp; omega,by omega,by omega,?_⟩
     have tk : List.take (P.length + 1) (P.map e3 ++ [DV.st [.i 0,.i (-1),.i (-1)]]) = P.map e3 ++ [DV.st [.i 0,.i (-1),.i (-1)]] := List.take_of_length_le (by simp)
     have em : (P ++ [((0 : Int),(-1 : Int),(-1 : Int))]).map e3 = P.map e3 ++ [DV.st [.i 0,.i (-1),.i (-1)]] := by rw [List.map_append]; rfl
     have lm : (P.map e3).length = P.length := by simp
     have lE := lend_e3 P
     have nE := new_e3 P
     have aE := fun o => adopt_e3 o P
     rw [em,call_k lf n_spec_l20Plan _ (F := F_spec_l20Plan) rfl rfl]
     generalize P.map e3 = E at *
     simp [F_spec_l20Plan,CB,kk,OR,CO,k1,k2,tk,lm,lb,lE,nE,aE]
    ·by_cases z : P.length = 0
     ·have z0 := List.length_eq_zero_iff.1 z
      subst z0
      refine ⟨[],q + 1 + 1,by simp,by omega,by omega,?_⟩
      rw [call_k lf n_spec_l20Plan _ (F := F_spec_l20Plan) rfl rfl]
      simp [F_spec_l20Plan,CB,kk,OR,CO,k1,k2]
     ·have k3 := c_pick hb hl (p := q + 1 + 1) (n := (P.length : Int)) (by omega) (by omega) (by omega)
      have a3 := pk_bound hb (p := q + 1 + 1) (n := (P.length : Int)) (by omega) (by omega) (by omega)
      have k4 := c_pick hb hl (p := q + 1 + 1 + 1) (n := 6) (by omega) (by omega) (by omega)
      generalize pk bs (q + 1 + 1 + 1) 6 = w at *
      obtain ⟨i,hi⟩ : ∃ i : Nat,pk bs (q + 1 + 1) (P.length : Int) = i := ⟨(pk bs (q + 1 + 1) (P.length : Int)).toNat,by omega⟩
      rw [hi] at k3 a3
      have iN : i < P.length := by omega
      have ai := at_e3 (List.getElem?_eq_getElem iN)
      have an := atN_e3 (List.getElem?_eq_getElem iN)
      refine ⟨P.set i (w,P[i].2.1,P[i].2.2),q + 1 + 1 + 1 + 1,by simp; omega,by omega,by omega,?_⟩
      have em : (P.set i (w,P[i].2.1,P[i].2.2)).map e3 = (P.map e3).set i (.st [.i w,.i P[i].2.1,.i P[i].2.2]) := by rw [List.map_set]; rfl
      have lm : (P.map e3).length = P.length := by simp
      have tk : ∀ x : DV,List.take P.length ((P.map e3).set i x) = (P.map e3).set i x := fun x => List.take_of_length_le (by simp)
      have nz : 0 < P.length := by omega
      have ii : (i : Int) < P.length := by omega
      rw [em,call_k lf n_spec_l20Plan _ (F := F_spec_l20Plan) rfl rfl]
      generalize P[i].1 = x1 at *
      generalize P[i].2.1 = x2 at *
      generalize P[i].2.2 = x3 at *
      have nE := new_e3 P
      have lE := lend_e3 P
      have aE := fun o => adopt_e3 o P
      have nw := new_e3 (P.set i (w,x2,x3))
      rw [em] at nw
      have ad := fun o => adopt_e3 o (P.set i (w,x2,x3))
      rw [em] at ad
      generalize P.map e3 = E at *
      simp [F_spec_l20Plan,CB,kk,OR,CO,k1,k2,k3,k4,tk,lm,lb,ai,an,nz,ii,iN,nw,ad,lE,nE,aE]
    ·by_cases z : P.length = 0
     ·have z0 := List.length_eq_zero_iff.1 z
      subst z0
      refine ⟨[],q + 1 + 1,by simp,by omega,by omega,?_⟩
      rw [call_k lf n_spec_l20Plan _ (F := F_spec_l20Plan) rfl rfl]
      simp [F_spec_l20Plan,CB,kk,OR,CO,k1,k2]
     ·have k3 := c_pick hb hl (p := q + 1 + 1) (n := (P.length : Int) + 2) (by omega) (by omega) (by omega)
      have a3 := pk_bound hb (p := q + 1 + 1) (n := (P.length : Int) + 2) (by omega) (by omega) (by omega)
      generalize pk bs (q + 1 + 1) ((P.length : Int) + 2) = w at *
      have iN : 0 < P.length := by omega
      have ai := at_e3 (List.getElem?_eq_getElem iN)
      have an := atN_e3 (List.getElem?_eq_getElem iN)
      refine ⟨P.set 0 (P[0].1,w - 1,P[0].2.2),q + 1 + 1 + 1,by simp; omega,by omega,by omega,?_⟩
      have em : (P.set 0 (P[0].1,w - 1,P[0].2.2)).map e3 = (P.map e3).set 0 (.st [.i P[0].1,.i (w - 1),.i P[0].2.2]) := by rw [List.map_set]; rfl
      have lm : (P.map e3).length = P.length := by simp
      have tk : ∀ x : DV,List.take P.length ((P.map e3).set 0 x) = (P.map e3).set 0 x := fun x => List.take_of_length_le (by simp)
      have ii : (0 : Int) < P.length := by omega
      have w1 : wr (w - 1) = w - 1 := wr_id (by omega) (by omega)
      have w2 : wr ((P.length : Int) + 2) = (P.length : Int) + 2 := wr_id (by omega) (by omega)
      rw [em,call_k lf n_spec_l20Plan _ (F := F_spec_l20Plan) rfl rfl]
      generalize P[0].1 = x1 at *
      generalize P[0].2.1 = x2 at *
      generalize P[0].2.2 = x3 at *
      have nE := new_e3 P
      have lE := lend_e3 P
      have aE := fun o => adopt_e3 o P
      have nw := new_e3 (P.set 0 (x1,w - 1,x3))
      rw [em] at nw
      have ad := fun o => adopt_e3 o (P.set 0 (x1,w - 1,x3))
      rw [em] at ad
      simp only [Int.natCast_zero] at ai
      generalize P.map e3 = E at *
      simp [F_spec_l20Plan,CB,kk,OR,CO,k1,k2,k3,tk,lm,lb,ai,an,ii,iN,w1,w2,nw,ad,lE,nE,aE]
   ·have e1' : (pk bs q n == n - 1) = false := beq_eq_false_iff_ne.2 e1
    rw [e1'] at k1
    refine ⟨P,q + 1,by omega,by omega,by omega,?_⟩
    have tk := tk_e3 P
    rw [call_k lf n_spec_l20Plan _ (F := F_spec_l20Plan) rfl rfl]
    skip
    simp [F_spec_l20Plan,CB,kk,OR,CO,k1,tk]
  ·have e0' : (pk bs p 2 == 0) = false := beq_eq_false_iff_ne.2 e0
   obtain ⟨q,hq⟩ : ∃ q,p + 1 = q := ⟨_,rfl⟩
   rw [hq] at kk
   generalize P1 = P at *
   have lb : P.length + 1 ≤ bound := by unfold bound; omega
   have k1 := c_odd hb hl (p := q) (n := n) (by omega) (by omega) hn (by omega)
   by_cases e1 : pk bs q n = n - 1
   ·have e1' : (pk bs q n == n - 1) = true := beq_iff_eq.2 e1
    rw [e1'] at k1
    have k2 := c_pick hb hl (p := q + 1) (n := 3) (by omega) (by omega) (by omega)
    have a2 := pk_bound hb (p := q + 1) (n := 3) (by omega) (by omega) (by omega)
    generalize pk bs (q + 1) 3 = v at *
    have v3 : v = 0 ∨ v = 1 ∨ v = 2 := by omega
    rcases v3 with rfl | rfl | rfl
    ·refine ⟨P ++ [(0,-1,-1)],q + 1 + 1,by simp; omega,by omega,by omega,?_⟩
     have tk : List.take (P.length + 1) (P.map e3 ++ [DV.st [.i 0,.i (-1),.i (-1)]]) = P.map e3 ++ [DV.st [.i 0,.i (-1),.i (-1)]] := List.take_of_length_le (by simp)
     have em : (P ++ [((0 : Int),(-1 : Int),(-1 : Int))]).map e3 = P.map e3 ++ [DV.st [.i 0,.i (-1),.i (-1)]] := by rw [List.map_append]; rfl
     have lm : (P.map e3).length = P.length := by simp
     have lE := lend_e3 P
     have nE := new_e3 P
     have aE := fun o => adopt_e3 o P
     rw [em,call_k lf n_spec_l20Plan _ (F := F_spec_l20Plan) rfl rfl]
     generalize P.map e3 = E at *
     simp [F_spec_l20Plan,CB,kk,e0',k1,k2,tk,lm,lb,lE,nE,aE]
    ·by_cases z : P.length = 0
     ·have z0 := List.length_eq_zero_iff.1 z
      subst z0
      refine ⟨[],q + 1 + 1,by simp,by omega,by omega,?_⟩
      rw [call_k lf n_spec_l20Plan _ (F := F_spec_l20Plan) rfl rfl]
      simp [F_spec_l20Plan,CB,kk,e0',k1,k2]
     ·have k3 := c_pick hb hl (p := q + 1 + 1) (n := (P.length : Int)) (by omega) (by omega) (by omega)
      have a3 := pk_bound hb (p := q + 1 + 1) (n := (P.length : Int)) (by omega) (by omega) (by omega)
      have k4 := c_pick hb hl (p := q + 1 + 1 + 1) (n := 6) (by omega) (by omega) (by omega)
      generalize pk bs (q + 1 + 1 + 1) 6 = w at *
      obtain ⟨i,hi⟩ : ∃ i : Nat,pk bs (q + 1 + 1) (P.length : Int) = i := ⟨(pk bs (q + 1 + 1) (P.length : Int)).toNat,by omega⟩
      rw [hi] at k3 a3
      have iN : i < P.length := by omega
      have ai := at_e3 (List.getElem?_eq_getElem iN)
      have an := atN_e3 (List.getElem?_eq_getElem iN)
      refine ⟨P.set i (w,P[i].2.1,P[i].2.2),q + 1 + 1 + 1 + 1,by simp; omega,by omega,by omega,?_⟩
      have em : (P.set i (w,P[i].2.1,P[i].2.2)).map e3 = (P.map e3).set i (.st [.i w,.i P[i].2.1,.i P[i].2.2]) := by rw [List.map_set]; rfl
      have lm : (P.map e3).length = P.length := by simp
      have tk : ∀ x : DV,List.take P.length ((P.map e3).set i x) = (P.map e3).set i x := fun x => List.take_of_length_le (by simp)
      have nz : 0 < P.length := by omega
      have ii : (i : Int) < P.length := by omega
      rw [em,call_k lf n_spec_l20Plan _ (F := F_spec_l20Plan) rfl rfl]
      generalize P[i].1 = x1 at *
      generalize P[i].2.1 = x2 at *
      generalize P[i].2.2 = x3 at *
      have nE := new_e3 P
      have lE := lend_e3 P
      have aE := fun o => adopt_e3 o P
      have nw := new_e3 (P.set i (w,x2,x3))
      rw [em] at nw
      have ad := fun o => adopt_e3 o (P.set i (w,x2,x3))
      rw [em] at ad
      generalize P.map e3 = E at *
      simp [F_spec_l20Plan,CB,kk,e0',k1,k2,k3,k4,tk,lm,lb,ai,an,nz,ii,iN,nw,ad,lE,nE,aE]
    ·by_cases z : P.length = 0
     ·have z0 := List.length_eq_zero_iff.1 z
      subst z0
      refine ⟨[],q + 1 + 1,by simp,by omega,by omega,?_⟩
      rw [call_k lf n_spec_l20Plan _ (F := F_spec_l20Plan) rfl rfl]
      simp [F_spec_l20Plan,CB,kk,e0',k1,k2]
     ·have k3 := c_pick hb hl (p := q + 1 + 1) (n := (P.length : Int) + 2) (by omega) (by omega) (by omega)
      have a3 := pk_bound hb (p := q + 1 + 1) (n := (P.length : Int) + 2) (by omega) (by omega) (by omega)
      generalize pk bs (q + 1 + 1) ((P.length : Int) + 2) = w at *
      have iN : 0 < P.length := by omega
      have ai := at_e3 (List.getElem?_eq_getElem iN)
      have an := atN_e3 (List.getElem?_eq_getElem iN)
      refine ⟨P.set 0 (P[0].1,w - 1,P[0].2.2),q + 1 + 1 + 1,by simp; omega,by omega,by omega,?_⟩
      have em : (P.set 0 (P[0].1,w - 1,P[0].2.2)).map e3 = (P.map e3).set 0 (.st [.i P[0].1,.i (w - 1),.i P[0].2.2]) := by rw [List.map_set]; rfl
      have lm : (P.map e3).length = P.length := by simp
      have tk : ∀ x : DV,List.take P.length ((P.map e3).set 0 x) = (P.map e3).set 0 x := fun x => List.take_of_length_le (by simp)
      have ii : (0 : Int) < P.length := by omega
      have w1 : wr (w - 1) = w - 1 := wr_id (by omega) (by omega)
      have w2 : wr ((P.length : Int) + 2) = (P.length : Int) + 2 := wr_id (by omega) (by omega)
      rw [em,call_k lf n_spec_l20Plan _ (F := F_spec_l20Plan) rfl rfl]
      generalize P[0].1 = x1 at *
      generalize P[0].2.1 = x2 at *
      generalize P[0].2.2 = x3 at *
      have nE := new_e3 P
      have lE := lend_e3 P
      have aE := fun o => adopt_e3 o P
      have nw := new_e3 (P.set 0 (x1,w - 1,x3))
      rw [em] at nw
      have ad := fun o => adopt_e3 o (P.set 0 (x1,w - 1,x3))
      rw [em] at ad
      simp only [Int.natCast_zero] at ai
      generalize P.map e3 = E at *
      simp [F_spec_l20Plan,CB,kk,e0',k1,k2,k3,tk,lm,lb,ai,an,ii,iN,w1,w2,nw,ad,lE,nE,aE]
   ·have e1' : (pk bs q n == n - 1) = false := beq_eq_false_iff_ne.2 e1
    rw [e1'] at k1
    refine ⟨P,q + 1,by omega,by omega,by omega,?_⟩
    have tk := tk_e3 P
    rw [call_k lf n_spec_l20Plan _ (F := F_spec_l20Plan) rfl rfl]
    skip
    simp [F_spec_l20Plan,CB,kk,e0',k1,tk]
 | false =>
  rw [hB] at CB
  obtain ⟨os,q,o1,q1,q2,OR⟩ := c_l20Order0 hb hl (p := p) (m := us.length) (by omega) (by omega) (by omega)
  have CO := c_spec_OrderPlan us.length t os (by omega) (by omega)
  have LO := opL_len us.length t os
  generalize opL us.length t os = P at *
  have lb : P.length + 1 ≤ bound := by unfold bound; omega
  have k1 := c_odd hb hl (p := q) (n := n) (by omega) (by omega) hn (by omega)
  by_cases e1 : pk bs q n = n - 1
  ·have e1' : (pk bs q n == n - 1) = true := beq_iff_eq.2 e1
   rw [e1'] at k1
   have k2 := c_pick hb hl (p := q + 1) (n := 3) (by omega) (by omega) (by omega)
   have a2 := pk_bound hb (p := q + 1) (n := 3) (by omega) (by omega) (by omega)
   generalize pk bs (q + 1) 3 = v at *
   have v3 : v = 0 ∨ v = 1 ∨ v = 2 := by omega
   rcases v3 with rfl | rfl | rfl
   ·refine ⟨P ++ [(0,-1,-1)],q + 1 + 1,by simp; omega,by omega,by omega,?_⟩
    have tk : List.take (P.length + 1) (P.map e3 ++ [DV.st [.i 0,.i (-1),.i (-1)]]) = P.map e3 ++ [DV.st [.i 0,.i (-1),.i (-1)]] := List.take_of_length_le (by simp)
    have em : (P ++ [((0 : Int),(-1 : Int),(-1 : Int))]).map e3 = P.map e3 ++ [DV.st [.i 0,.i (-1),.i (-1)]] := by rw [List.map_append]; rfl
    have lm : (P.map e3).length = P.length := by simp
    have lE := lend_e3 P
    have nE := new_e3 P
    have aE := fun o => adopt_e3 o P
    rw [em,call_k lf n_spec_l20Plan _ (F := F_spec_l20Plan) rfl rfl]
    skip
    generalize P.map e3 = E at *
    simp [F_spec_l20Plan,CB,OR,CO,k1,k2,tk,lm,lb,lE,nE,aE]
   ·by_cases z : P.length = 0
    ·have z0 := List.length_eq_zero_iff.1 z
     subst z0
     refine ⟨[],q + 1 + 1,by simp,by omega,by omega,?_⟩
     rw [call_k lf n_spec_l20Plan _ (F := F_spec_l20Plan) rfl rfl]
     simp [F_spec_l20Plan,CB,OR,CO,k1,k2]
    ·have k3 := c_pick hb hl (p := q + 1 + 1) (n := (P.length : Int)) (by omega) (by omega) (by omega)
     have a3 := pk_bound hb (p := q + 1 + 1) (n := (P.length : Int)) (by omega) (by omega) (by omega)
     have k4 := c_pick hb hl (p := q + 1 + 1 + 1) (n := 6) (by omega) (by omega) (by omega)
     generalize pk bs (q + 1 + 1 + 1) 6 = w at *
     obtain ⟨i,hi⟩ : ∃ i : Nat,pk bs (q + 1 + 1) (P.length : Int) = i := ⟨(pk bs (q + 1 + 1) (P.length : Int)).toNat,by omega⟩
     rw [hi] at k3 a3
     have iN : i < P.length := by omega
     have ai := at_e3 (List.getElem?_eq_getElem iN)
     have an := atN_e3 (List.getElem?_eq_getElem iN)
     refine ⟨P.set i (w,P[i].2.1,P[i].2.2),q + 1 + 1 + 1 + 1,by simp; omega,by omega,by omega,?_⟩
     have em : (P.set i (w,P[i].2.1,P[i].2.2)).map e3 = (P.map e3).set i (.st [.i w,.i P[i].2.1,.i P[i].2.2]) := by rw [List.map_set]; rfl
     have lm : (P.map e3).length = P.length := by simp
     have tk : ∀ x : DV,List.take P.length ((P.map e3).set i x) = (P.map e3).set i x := fun x => List.take_of_length_le (by simp)
     have nz : 0 < P.length := by omega
     have ii : (i : Int) < P.length := by omega
     rw [em,call_k lf n_spec_l20Plan _ (F := F_spec_l20Plan) rfl rfl]
     generalize P[i].1 = x1 at *
     generalize P[i].2.1 = x2 at *
     generalize P[i].2.2 = x3 at *
     have nE := new_e3 P
     have lE := lend_e3 P
     have aE := fun o => adopt_e3 o P
     have nw := new_e3 (P.set i (w,x2,x3))
     rw [em] at nw
     have ad := fun o => adopt_e3 o (P.set i (w,x2,x3))
     rw [em] at ad
     generalize P.map e3 = E at *
     simp [F_spec_l20Plan,CB,OR,CO,k1,k2,k3,k4,tk,lm,lb,ai,an,nz,ii,iN,nw,ad,lE,nE,aE]
   ·by_cases z : P.length = 0
    ·have z0 := List.length_eq_zero_iff.1 z
     subst z0
     refine ⟨[],q + 1 + 1,by simp,by omega,by omega,?_⟩
     rw [call_k lf n_spec_l20Plan _ (F := F_spec_l20Plan) rfl rfl]
     simp [F_spec_l20Plan,CB,OR,CO,k1,k2]
    ·have k3 := c_pick hb hl (p := q + 1 + 1) (n := (P.length : Int) + 2) (by omega) (by omega) (by omega)
     have a3 := pk_bound hb (p := q + 1 + 1) (n := (P.length : Int) + 2) (by omega) (by omega) (by omega)
     generalize pk bs (q + 1 + 1) ((P.length : Int) + 2) = w at *
     have iN : 0 < P.length := by omega
     have ai := at_e3 (List.getElem?_eq_getElem iN)
     have an := atN_e3 (List.getElem?_eq_getElem iN)
     refine ⟨P.set 0 (P[0].1,w - 1,P[0].2.2),q + 1 + 1 + 1,by simp; omega,by omega,by omega,?_⟩
     have em : (P.set 0 (P[0].1,w - 1,P[0].2.2)).map e3 = (P.map e3).set 0 (.st [.i P[0].1,.i (w - 1),.i P[0].2.2]) := by rw [List.map_set]; rfl
     have lm : (P.map e3).length = P.length := by simp
     have tk : ∀ x : DV,List.take P.length ((P.map e3).set 0 x) = (P.map e3).set 0 x := fun x => List.take_of_length_le (by simp)
     have ii : (0 : Int) < P.length := by omega
     have w1 : wr (w - 1) = w - 1 := wr_id (by omega) (by omega)
     have w2 : wr ((P.length : Int) + 2) = (P.length : Int) + 2 := wr_id (by omega) (by omega)
     rw [em,call_k lf n_spec_l20Plan _ (F := F_spec_l20Plan) rfl rfl]
     generalize P[0].1 = x1 at *
     generalize P[0].2.1 = x2 at *
     generalize P[0].2.2 = x3 at *
     have nE := new_e3 P
     have lE := lend_e3 P
     have aE := fun o => adopt_e3 o P
     have nw := new_e3 (P.set 0 (x1,w - 1,x3))
     rw [em] at nw
     have ad := fun o => adopt_e3 o (P.set 0 (x1,w - 1,x3))
     rw [em] at ad
     simp only [Int.natCast_zero] at ai
     generalize P.map e3 = E at *
     simp [F_spec_l20Plan,CB,OR,CO,k1,k2,k3,tk,lm,lb,ai,an,ii,iN,w1,w2,nw,ad,lE,nE,aE]
  ·have e1' : (pk bs q n == n - 1) = false := beq_eq_false_iff_ne.2 e1
   rw [e1'] at k1
   refine ⟨P,q + 1,by omega,by omega,by omega,?_⟩
   have tk := tk_e3 P
   rw [call_k lf n_spec_l20Plan _ (F := F_spec_l20Plan) rfl rfl]
   skip
   simp [F_spec_l20Plan,CB,OR,CO,k1,tk]
end
section
attribute [-simp] DV.cells
attribute [local simp] sliceD cells_st cells_sl cells_i cells_y cells_b cells_s cells_w
attribute [local simp] lend_e3 adopt_e3 new_e3 al_e3 lt_e3
theorem drawn_plan {bs : List Nat} (hb : ∀ y ∈ bs,y < 256) (hl : bs.length ≤ 2000) {n : Int} (hn : 1 ≤ n) (hn2 : n ≤ 100000) :
  ∃ (us t : List T) (P : List C3) (p q : Int),us.length ≤ 5 ∧ t.length ≤ 12 ∧ P.length ≤ 32 ∧ (0 ≤ q ∧ q ≤ 120) ∧
   call lf n_spec_l20Case [.ref (.st [.sl 0 (bs.map .y),.i 0]),.i 14] = some (.tup [.fr 2 (us.map e2),.fr 2 (t.map e2)],[.st [.sl 0 (bs.map .y),.i p]]) ∧
   call lf n_spec_l20Plan [.ref (.st [.sl 0 (bs.map .y),.i p]),.sl 0 (us.map e2),.sl 0 (t.map e2),.i n] = some (.fr 3 (P.map e3),[.st [.sl 0 (bs.map .y),.i q]]) := by
 obtain ⟨us,t,p,u1,t1,p1,p2,h⟩ := c_l20Case hb hl (p := 0) (n := 14) (by omega) (by omega) (by omega) (by omega)
 obtain ⟨P,q,l1,q1,q2,h2⟩ := c_l20Plan hb hl (p := p) (n := n) (by omega) (by omega) hn hn2 u1 t1
 exact ⟨us,t,P,p,q,u1,t1,l1,by omega,h,h2⟩
end
section
attribute [-simp] DV.cells
attribute [local simp] sliceD cells_st cells_sl cells_i cells_y cells_b cells_s cells_w
attribute [local simp] lend_e3 adopt_e3 new_e3 al_e3 lt_e3
theorem c_samePlan_self (P : List C3) (hP : P.length ≤ 1000) : call lf n_laws_samePlan [.sl 0 (P.map e3),.sl 0 (P.map e3)] = some (.b true,[]) := by
 rw [call_k lf n_laws_samePlan _ (F := F_laws_samePlan) rfl rfl]
 have L := loop_count (lf := lf) (L := F_laws_samePlan_L0) P.length (fun i => ⟨[(0,.sl 0 (P.map e3)),(1,.sl 0 (P.map e3)),(5,.i i)],[]⟩) (x := .exit 0) (R := ⟨[(0,.sl 0 (P.map e3)),(1,.sl 0 (P.map e3)),(5,.i P.length)],[]⟩) (fun i hi => by
  have AT := at_e3 (List.getElem?_eq_getElem hi)
  have w1 : wr ((i : Int) + 1) = ((i + 1 : Nat) : Int) := by rw [wr_id (by omega) (by omega)]; omega
  have hi' : (i : Int) < P.length := by omega
  generalize P[i].1 = x1 at *
  generalize P[i].2.1 = x2 at *
  generalize P[i].2.2 = x3 at *
  have lm : (P.map e3).length = P.length := by simp
  generalize P.map e3 = E at *
  simp [F_laws_samePlan_L0,hi',AT,w1,lm,eqI,-Int.natCast_add]) (by
  have lm : (P.map e3).length = P.length := by simp
  generalize P.map e3 = E at *
  simp [F_laws_samePlan_L0,lm]) (by intro h; cases h)
 simp only [Int.natCast_zero] at L
 change ex lf F_laws_samePlan_W0 _ = _ at L
 have lm : (P.map e3).length = P.length := by simp
 generalize P.map e3 = E at *
 simp [F_laws_samePlan,lm,L]
end
section
def aN : List Int → Nat
 | [] => 0
 | k :: r => (if k = -1 then 0 else 1) + 2 * aN r
def kn : List Int → Nat
 | [] => 0
 | k :: r => (if k = -1 then 0 else 1) + kn r
theorem aN_lt : ∀ ks : List Int,aN ks < 2 ^ ks.length
 | [] => by decide
 | k :: r => by
  have ih := aN_lt r
  simp only [aN,List.length_cons,Nat.pow_succ]
  split <;> omega
theorem aN_non : ∀ m : Nat,aN (non m) = 0
 | 0 => rfl
 | m + 1 => by
  show (if (-1 : Int) = -1 then 0 else 1) + 2 * aN (non m) = 0
  rw [aN_non m]
  rfl
theorem aN_b0 (k : Int) (r : List Int) : (aN (k :: r)).testBit 0 = !decide (k = -1) := by
 simp only [aN,Nat.testBit_zero]
 by_cases h : k = -1
 ·simp [h]
 ·simp [h]
theorem aN_div (k : Int) (r : List Int) : aN (k :: r) / 2 = aN r := by
 simp only [aN]
 split <;> omega
theorem aN_bs (k : Int) (r : List Int) (i : Nat) : (aN (k :: r)).testBit (i + 1) = (aN r).testBit i := by
 rw [Nat.testBit_succ,aN_div]
theorem aN_bit : ∀ {ks : List Int} {i : Nat},i < ks.length → ((aN ks).testBit i = !decide (ks[i]? = some (-1)))
 | [],i,h => by simp at h
 | k :: r,0,_ => by rw [aN_b0]; simp
 | k :: r,i + 1,h => by
  rw [aN_bs,aN_bit (ks := r) (by simpa using h)]
  simp
theorem aN_set {ks : List Int} {k : Nat} {b : Int} (hb : b ≠ -1) (h : ks[k]? = some (-1)) : aN (ks.set k b) = aN ks ||| 2 ^ k := by
 apply Nat.eq_of_testBit_eq
 intro i
 have hk := ks_ex h
 rw [Nat.testBit_or,Nat.testBit_two_pow]
 by_cases hi : i < ks.length
 ·rw [aN_bit (by simpa using hi),aN_bit hi]
  by_cases e : k = i
  ·subst e
   rw [List.getElem?_set_self hk]
   simp [hb]
  ·rw [List.getElem?_set_ne e]
   simp [e]
 ·have l1 := aN_lt (ks.set k b)
  have l2 := aN_lt ks
  rw [List.length_set] at l1
  have p : 2 ^ ks.length ≤ 2 ^ i := Nat.pow_le_pow_right (by omega) (by omega)
  rw [Nat.testBit_lt_two_pow (by omega),Nat.testBit_lt_two_pow (by omega)]
  simp; omega
def pc (x : Nat) : Nat := x % 2 + x / 2 % 2 + x / 4 % 2 + x / 8 % 2 + x / 16 % 2
def lfW (ks : List Int) : BitVec 32 := agW ks 0 (4294967295#32)
theorem lfW_bit {ks : List Int} (hk : ks.all kOk = true) (hl : ks.length ≤ 5) {s : Nat} (hs : s < 32) : (lfW ks).getLsbD s = agB ks s := by
 unfold lfW
 rw [agW_bit hk (by omega) hs,ones_bit hs]
 simp
theorem lfW_non (m : Nat) (hm : m ≤ 5) : lfW (non m) = 4294967295#32 := by
 apply BitVec.eq_of_getLsbD_eq
 intro s hs
 rw [lfW_bit (non_all m) (by rw [non_len]; exact hm) hs,agB_non,ones_bit hs]
def syW (k : Nat) (b : Bool) : BitVec 32 := if b then yesW k else ~~~ yesW k
theorem lfW_set {ks : List Int} {k : Nat} (b : Bool) (hk : ks.all kOk = true) (hl : ks.length ≤ 5) (h : ks[k]? = some (-1)) : lfW (ks.set k (bI b)) = lfW ks &&& syW k b := by
 have hk5 := ks_ex h
 apply BitVec.eq_of_getLsbD_eq
 intro s hs
 have y := yes_bit ⟨k,by omega⟩ ⟨s,hs⟩
 simp only at y
 rw [lfW_bit (kOk_set hk k b) (by simpa using hl) hs,agB_put h,BitVec.getLsbD_and,lfW_bit hk hl hs]
 unfold syW
 cases b with
 | true => rw [if_pos rfl,y]; cases agB ks s <;> cases s.testBit k <;> rfl
 | false =>
  rw [if_neg (by simp),BitVec.getLsbD_not,y]
  cases agB ks s <;> cases s.testBit k <;> simp [hs]
theorem vaW_fcd {m : Nat} {t : List T} {ks : List Int} (h1 : tmOk m t = true) (hl : ks.length = m) (hk : ks.all kOk = true) : vaW (tsW t) (lfW ks) = foT m t ks := by
 obtain ⟨h3,_,_⟩ := tmOk_iff.1 h1
 exact vaW_foT h1 (ksOk_iff.2 ⟨h3,by omega,hk⟩)
end
section
abbrev Pts := List (Option (List Int))
def cTo (m : Nat) (t : List T) (pts : Pts) (p a : Int) (ks : List Int) : Option Pts :=
 if a = -1 ∨ fcd m t ks = true then (if a = -1 ∧ fcd m t ks = true then some pts else none)
 else if p + 1 ≤ a ∧ a ≤ (pts.length : Int) - 1 ∧ pts[a.toNat]? = some none then some (pts.set a.toNat (some ks)) else none
def rn1 (m : Nat) (t : List T) (pts : Pts) (p : Nat) (c : C3) : Option Pts :=
 match pts[p]? with
 | some (some ks) => if (0 ≤ c.1 ∧ c.1 < m) ∧ ks[c.1.toNat]? = some (-1) then
   (cTo m t pts p c.2.1 (ks.set c.1.toNat 0)).bind fun q => cTo m t q p c.2.2 (ks.set c.1.toNat 1) else none
 | _ => none
def rnA (m : Nat) (t : List T) : List C3 → Nat → Pts → Option Pts
 | [],_,pts => some pts
 | c :: r,p,pts => (rn1 m t pts p c).bind fun q => rnA m t r (p + 1) q
def rnS (m : Nat) (t : List T) (P : List C3) : Option Pts := (cTo m t (List.replicate P.length none) (-1) (rot P) (non m)).bind fun q => rnA m t P 0 q
theorem cTo_of {m : Nat} {t : List T} {pts q : Pts} {p a : Int} {ks : List Int} (hp : -1 ≤ p) (h : cTo m t pts p a ks = some q) :
  (a = -1 ∧ fcd m t ks = true ∧ q = pts) ∨ (fcd m t ks = false ∧ p + 1 ≤ a ∧ a ≤ (pts.length : Int) - 1 ∧ pts[a.toNat]? = some none ∧ q = pts.set a.toNat (some ks)) := by
 unfold cTo at h
 split at h
 ·split at h
  ·rename_i h1
   injection h with h
   exact .inl ⟨h1.1,h1.2,h.symm⟩
  ·cases h
 ·rename_i h1
  split at h
  ·rename_i h2
   injection h with h
   rw [not_or] at h1
   exact .inr ⟨by simpa using h1.2,h2.1,h2.2.1,h2.2.2,h.symm⟩
  ·cases h
theorem cTo_len {m : Nat} {t : List T} {pts q : Pts} {p a : Int} {ks : List Int} (hp : -1 ≤ p) (h : cTo m t pts p a ks = some q) : q.length = pts.length := by
 rcases cTo_of hp h with ⟨_,_,rfl⟩ | ⟨_,_,_,_,rfl⟩
 ·rfl
 ·simp
theorem cTo_keep {m : Nat} {t : List T} {pts q : Pts} {p a : Int} {ks : List Int} (hp : -1 ≤ p) (h : cTo m t pts p a ks = some q) {b : Nat} {ls : List Int} (hb : pts[b]? = some (some ls)) : q[b]? = some (some ls) := by
 rcases cTo_of hp h with ⟨_,_,rfl⟩ | ⟨_,_,_,h4,rfl⟩
 ·exact hb
 ·rw [List.getElem?_set_ne]
  ·exact hb
  ·intro e
   rw [e,hb] at h4
   cases h4
def go3 (m : Nat) (t : List T) (N : Nat) (pts : Pts) (p : Int) (a : Int) (ks : List Int) : Prop :=
 (a = -1 ∧ fcd m t ks = true) ∨ (p + 1 ≤ a ∧ a ≤ (N : Int) - 1 ∧ pts[a.toNat]? = some (some ks))
theorem go3_of {m : Nat} {t : List T} {pts q : Pts} {p a : Int} {ks : List Int} (hp : -1 ≤ p) (h : cTo m t pts p a ks = some q) : go3 m t pts.length q p a ks := by
 rcases cTo_of hp h with ⟨h1,h2,rfl⟩ | ⟨h1,h2,h3,h4,rfl⟩
 ·exact .inl ⟨h1,h2⟩
 ·refine .inr ⟨h2,h3,?_⟩
  rw [List.getElem?_set_self (by omega)]
structure Inv (m : Nat) (t : List T) (P : List C3) (p : Nat) (pts : Pts) : Prop where
 len : pts.length = P.length
 nd : (rfs (P.take p)).Nodup
 rng : ∀ a ∈ rfs (P.take p),1 ≤ a ∧ a < P.length
 iff_ : ∀ a : Nat,a < P.length → (pts[a]? ≠ some none ↔ (a = 0 ∨ (a : Int) ∈ rfs (P.take p)))
 ok : ∀ (a : Nat) (ks : List Int),pts[a]? = some (some ks) → ks.length = m ∧ ks.all kOk = true ∧ fcd m t ks = false
 loc : ∀ q : Nat,q < p → ∃ (ks : List Int) (k no ye : Int),P[q]? = some (k,no,ye) ∧ pts[q]? = some (some ks) ∧ (0 ≤ k ∧ k < m) ∧ ks[k.toNat]? = some (-1) ∧ go3 m t P.length pts q no (ks.set k.toNat 0) ∧ go3 m t P.length pts q ye (ks.set k.toNat 1)
theorem go3_keep {m : Nat} {t : List T} {N : Nat} {pts q : Pts} {p a : Int} {ks : List Int} (hk : ∀ (b : Nat) (ls : List Int),pts[b]? = some (some ls) → q[b]? = some (some ls)) (h : go3 m t N pts p a ks) : go3 m t N q p a ks := by
 rcases h with h | ⟨h1,h2,h3⟩
 ·exact .inl h
 ·exact .inr ⟨h1,h2,hk _ _ h3⟩
def ad1 (a : Int) : List Int := if a = -1 then [] else [a]
theorem step_iff {m : Nat} {t : List T} {N : Nat} {pts q : Pts} {p a : Int} {ks : List Int} {R : List Int} (hp : 0 ≤ p) (hN : pts.length = N) (h : cTo m t pts p a ks = some q) (nd : R.Nodup) (rng : ∀ a ∈ R,1 ≤ a ∧ a < N)
  (hi : ∀ a : Nat,a < N → (pts[a]? ≠ some none ↔ (a = 0 ∨ (a : Int) ∈ R))) :
  (R ++ ad1 a).Nodup ∧ (∀ x ∈ R ++ ad1 a,1 ≤ x ∧ x < N) ∧ ∀ b : Nat,b < N → (q[b]? ≠ some none ↔ (b = 0 ∨ (b : Int) ∈ R ++ ad1 a)) := by
 rcases cTo_of (by omega) h with ⟨rfl,_,rfl⟩ | ⟨_,h2,h3,h4,rfl⟩
 ·have e : ad1 (-1) = [] := rfl
  rw [e,List.append_nil]
  exact ⟨nd,rng,hi⟩
 ·have e : ad1 a = [a] := if_neg (by omega)
  rw [e]
  have ha : a.toNat < N := by omega
  have hn : a ∉ R := fun hm => by
   have := (hi a.toNat ha).2 (.inr (by rw [Int.toNat_of_nonneg (by omega)]; exact hm))
   exact this h4
  refine ⟨List.nodup_append.2 ⟨nd,by simp,fun x hx y hy e => ?_⟩,fun x hx => ?_,fun b hb => ?_⟩
  ·have : y = a := by simpa using hy
   exact hn (by rw [← this,← e]; exact hx)
  ·rcases List.mem_append.1 hx with hx | hx
   ·exact rng x hx
   ·have : x = a := by simpa using hx
    omega
  ·by_cases eb : a.toNat = b
   ·subst eb
    rw [List.getElem?_set_self (by omega)]
    constructor
    ·intro _
     right
     rw [Int.toNat_of_nonneg (by omega)]
     simp
    ·intro _ h
     cases h
   ·rw [List.getElem?_set_ne eb,hi b hb]
    have : (b : Int) ≠ a := by omega
    simp [this]
theorem step_ok {m : Nat} {t : List T} {pts q : Pts} {p a : Int} {ks : List Int} (hp : -1 ≤ p) (h : cTo m t pts p a ks = some q) (hl : ks.length = m) (hk : ks.all kOk = true)
  (ho : ∀ (a : Nat) (ks : List Int),pts[a]? = some (some ks) → ks.length = m ∧ ks.all kOk = true ∧ fcd m t ks = false) :
  ∀ (a : Nat) (ks : List Int),q[a]? = some (some ks) → ks.length = m ∧ ks.all kOk = true ∧ fcd m t ks = false := by
 intro b ls hb
 rcases cTo_of hp h with ⟨_,_,rfl⟩ | ⟨h1,h2,h3,h4,rfl⟩
 ·exact ho b ls hb
 ·by_cases eb : a.toNat = b
  ·subst eb
   rw [List.getElem?_set_self (by omega)] at hb
   simp only [Option.some.injEq] at hb
   subst hb
   exact ⟨hl,hk,h1⟩
  ·rw [List.getElem?_set_ne eb] at hb
   exact ho b ls hb
theorem rfs_snoc (P : List C3) (k no ye : Int) : rfs (P ++ [(k,no,ye)]) = rfs P ++ ad1 no ++ ad1 ye := by
 rw [rfs_app]
 simp only [rfs,List.append_nil]
 unfold ad1
 rw [List.append_assoc]
theorem take_snoc {P : List C3} {p : Nat} {c : C3} (h : P[p]? = some c) : P.take (p + 1) = P.take p ++ [c] := by
 rw [List.take_add_one,h]
 rfl
theorem inv_step {m : Nat} {t : List T} {P : List C3} {p : Nat} {pts q : Pts} {c : C3} (hc : P[p]? = some c) (h : Inv m t P p pts) (hr : rn1 m t pts p c = some q) : Inv m t P (p + 1) q := by
 obtain ⟨k,no,ye⟩ := c
 unfold rn1 at hr
 split at hr
 ·rename_i ks hks
  split at hr
  ·rename_i hk
   simp only [Option.bind_eq_some_iff] at hr
   obtain ⟨q1,h1,h2⟩ := hr
   obtain ⟨o1,o2,o3⟩ := h.ok p ks hks
   have hp : (0 : Int) ≤ p := by omega
   have l1 := cTo_len (by omega) h1
   have l2 := cTo_len (by omega) h2
   have k0 : (ks.set k.toNat 0).all kOk = true := kOk_set o2 k.toNat false
   have k1 : (ks.set k.toNat 1).all kOk = true := kOk_set o2 k.toNat true
   obtain ⟨n1,r1,i1⟩ := step_iff hp h.len h1 h.nd h.rng h.iff_
   obtain ⟨n2,r2,i2⟩ := step_iff hp (l1.trans h.len) h2 n1 r1 i1
   have ok1 := step_ok (by omega) h1 (by simpa using o1) k0 h.ok
   have ok2 := step_ok (by omega) h2 (by simpa using o1) k1 ok1
   have kp : ∀ (b : Nat) (ls : List Int),pts[b]? = some (some ls) → q[b]? = some (some ls) := fun b ls hb => cTo_keep (by omega) h2 (cTo_keep (by omega) h1 hb)
   refine ⟨(l2.trans l1).trans h.len,?_,?_,?_,ok2,fun j hj => ?_⟩
   ·rw [take_snoc hc,rfs_snoc]; exact n2
   ·rw [take_snoc hc,rfs_snoc]; exact r2
   ·rw [take_snoc hc,rfs_snoc]; exact i2
   ·by_cases e : j = p
    ·subst e
     have g1 := go3_of (by omega) h1
     have g2 := go3_of (by omega) h2
     rw [h.len] at g1
     rw [l1,h.len] at g2
     exact ⟨ks,k,no,ye,hc,kp _ _ hks,hk.1,hk.2,go3_keep (fun b ls hb => cTo_keep (by omega) h2 hb) g1,g2⟩
    ·obtain ⟨ks',k',no',ye',a1,a2,a3,a4,a5,a6⟩ := h.loc j (by omega)
     exact ⟨ks',k',no',ye',a1,kp _ _ a2,a3,a4,go3_keep kp a5,go3_keep kp a6⟩
  ·cases hr
 ·cases hr
theorem inv_all {m : Nat} {t : List T} {P : List C3} : ∀ (rest : List C3) (p : Nat) (pts q : Pts),P.drop p = rest → p ≤ P.length → Inv m t P p pts → rnA m t rest p pts = some q → Inv m t P P.length q
 | [],p,pts,q,hd,hp,h,hr => by
  have : P.length ≤ p := List.drop_eq_nil_iff.1 hd
  have e : p = P.length := by omega
  subst e
  simp only [rnA,Option.some.injEq] at hr
  subst hr
  exact h
 | c :: r,p,pts,q,hd,hp,h,hr => by
  simp only [rnA,Option.bind_eq_some_iff] at hr
  obtain ⟨q1,h1,h2⟩ := hr
  have hc : P[p]? = some c := by
   have : (P.drop p)[0]? = some c := by rw [hd]; rfl
   rw [List.getElem?_drop,Nat.add_zero] at this
   exact this
  have hlt : p < P.length := (List.getElem?_eq_some_iff.1 hc).1
  have hd' : P.drop (p + 1) = r := by
   rw [← List.drop_drop,hd]
   rfl
  exact inv_all r (p + 1) q1 q hd' (by omega) (inv_step hc h h1) h2
theorem inv_start {m : Nat} {t : List T} {P : List C3} {q : Pts} (h : cTo m t (List.replicate P.length none) (-1) (rot P) (non m) = some q) : Inv m t P 0 q ∧ go3 m t P.length q (-1) (rot P) (non m) := by
 have g := go3_of (by omega) h
 have l := cTo_len (by omega) h
 rw [List.length_replicate] at g l
 have ok := step_ok (by omega) h (non_len m) (non_all m) (fun a ks ha => by
  rw [List.getElem?_replicate] at ha
  split at ha <;> cases ha)
 refine ⟨⟨l,by simp [rfs],by simp [rfs],fun a ha => ?_,ok,fun j hj => by omega⟩,g⟩
 have hP : P ≠ [] := fun e => by subst e; simp at ha
 have r0 : rot P = 0 := if_neg hP
 rcases cTo_of (by omega) h with ⟨h1,_,_⟩ | ⟨_,_,_,_,rfl⟩
 ·omega
 ·rw [r0]
  simp only [List.take_zero,rfs,List.not_mem_nil,or_false,Int.toNat_zero]
  by_cases e : a = 0
  ·subst e
   rw [List.getElem?_set_self (by simpa using ha)]
   simp
  ·rw [List.getElem?_set_ne (by omega),List.getElem?_replicate,if_pos ha]
   simp [e]
theorem inv_tree {m : Nat} {t : List T} {P : List C3} {pts : Pts} (h : Inv m t P P.length pts) : ∀ (n a : Nat) (ks : List Int),P.length - a ≤ n → pts[a]? = some (some ks) → ∃ L,enc P (a : Int) L ∧ okT m t ks L.er
 | 0,a,ks,hn,ha => by
  have := (List.getElem?_eq_some_iff.1 ha).1
  rw [h.len] at this
  omega
 | n + 1,a,ks,hn,ha => by
  have hlt := (List.getElem?_eq_some_iff.1 ha).1
  rw [h.len] at hlt
  obtain ⟨ks',k,no,ye,a1,a2,a3,a4,a5,a6⟩ := h.loc a hlt
  rw [ha] at a2
  simp only [Option.some.injEq] at a2
  subst a2
  obtain ⟨_,_,o3⟩ := h.ok a ks ha
  have key : ∀ (b : Int) (ls : List Int),go3 m t P.length pts a b ls → ∃ L,enc P b L ∧ okT m t ls L.er ∧ nxt P.length a b := fun b ls g => by
   rcases g with ⟨rfl,g⟩ | ⟨g1,g2,g3⟩
   ·exact ⟨.stop,rfl,g,.inl rfl⟩
   ·obtain ⟨L,l1,l2⟩ := inv_tree h n b.toNat ls (by omega) g3
    rw [Int.toNat_of_nonneg (by omega)] at l1
    exact ⟨L,l1,l2,.inr ⟨g1,g2⟩⟩
  obtain ⟨L0,e0,k0,x0⟩ := key no _ a5
  obtain ⟨L1,e1,k1,x1⟩ := key ye _ a6
  exact ⟨.ask a k.toNat L0 L1,⟨rfl,no,ye,by rw [a1,Int.toNat_of_nonneg a3.1],x0,x1,e0,e1⟩,⟨o3,a4,k0,k1⟩⟩
theorem rcn_ge {P : List C3} {a q : Nat} {d : C3} (hq : P[q]? = some d) (hd : d.2.1 = (a : Int) ∨ d.2.2 = (a : Int)) : ∀ {L : LT},L.cnt q ≤ L.rcn P a
 | .stop => Nat.le_refl _
 | .ask p k n y => by
  have c0 := rcn_ge hq hd (L := n)
  have c1 := rcn_ge hq hd (L := y)
  simp only [LT.rcn,LT.cnt]
  by_cases e : p = q
  ·subst e
   rw [if_pos rfl,hq]
   simp only [Option.map_some,Option.some.injEq]
   rcases hd with hd | hd
   ·rw [if_pos hd]; omega
   ·rw [if_pos hd]; omega
  ·rw [if_neg e]; omega
theorem sN_one : ∀ {f : Nat → Nat} {n : Nat},(∀ a,a < n → f a = 1) → sN f n = n
 | f,0,_ => rfl
 | f,n + 1,h => by
  simp only [sN]
  rw [sN_one (f := f) (n := n) (fun a ha => h a (by omega)),h n (by omega)]
theorem inv_pl {m : Nat} {t : List T} {P : List C3} {pts : Pts} (h31 : P.length ≤ 31) (h : Inv m t P P.length pts) (hg : go3 m t P.length pts (-1) (rot P) (non m)) : ∃ L,isPl m t P L := by
 have nd := h.nd
 have rng := h.rng
 have hi := h.iff_
 rw [List.take_length] at nd rng hi
 have ht : ∃ L,enc P (rot P) L ∧ okT m t (non m) L.er := by
  rcases hg with ⟨g1,g2⟩ | ⟨g1,g2,g3⟩
  ·rw [g1]; exact ⟨.stop,rfl,g2⟩
  ·obtain ⟨L,l1,l2⟩ := inv_tree h P.length (rot P).toNat (non m) (by omega) g3
   rw [Int.toNat_of_nonneg (by omega)] at l1
   exact ⟨L,l1,l2⟩
 obtain ⟨L,e,ok⟩ := ht
 have all1 : ∀ a,a < P.length → 0 < L.cnt a := by
  intro a
  induction a using Nat.strongRecOn with
  | ind a ih =>
   intro ha
   have r := cnt_root (a := a) e
   by_cases a0 : a = 0
   ·subst a0
    have : rot P = 0 := if_neg (fun e => by subst e; simp at ha)
    rw [this] at r
    simp at r
    omega
   ·obtain ⟨ks,k,no,ye,_,a2,_⟩ := h.loc a ha
    have hm := (hi a ha).1 (by rw [a2]; simp)
    rcases hm with hm | hm
    ·exact absurd hm a0
    ·obtain ⟨_,q,d,d1,d2⟩ := rfs_mem.1 hm
     obtain ⟨ks',k',no',ye',b1,b2,b3,b4,b5,b6⟩ := h.loc q (List.getElem?_eq_some_iff.1 d1).1
     rw [d1] at b1
     simp only [Option.some.injEq] at b1
     subst b1
     have hqa : q < a := by
      rcases d2 with d2 | d2
      ·simp only at d2
       subst d2
       rcases b5 with ⟨b,_⟩ | ⟨b,_⟩ <;> omega
      ·simp only at d2
       subst d2
       rcases b6 with ⟨b,_⟩ | ⟨b,_⟩ <;> omega
     have c := ih q hqa (by omega)
     have g := rcn_ge d1 d2 (L := L)
     omega
 have le1 := cnt_le nd e
 refine ⟨L,e,ok,?_,⟨nd,fun a ha => by have := rng a ha; omega⟩,h31⟩
 rw [← size_sN e]
 exact sN_one fun a ha => by have := all1 a ha; have := le1 a; omega
theorem cTo_some {m : Nat} {t : List T} {pts : Pts} {p a : Int} {ks : List Int} (h : (a = -1 ∧ fcd m t ks = true) ∨ (a ≠ -1 ∧ fcd m t ks = false ∧ p + 1 ≤ a ∧ a ≤ (pts.length : Int) - 1 ∧ pts[a.toNat]? = some none)) : ∃ q,cTo m t pts p a ks = some q := by
 unfold cTo
 rcases h with ⟨h1,h2⟩ | ⟨h1,h2,h3⟩
 ·exact ⟨pts,by rw [if_pos (.inl h1),if_pos ⟨h1,h2⟩]⟩
 ·exact ⟨_,by rw [if_neg (by rw [h2]; rintro (h | h); exact h1 h; cases h),if_pos h3]⟩
def CIv (m : Nat) (t : List T) (P : List C3) (pts : Pts) : Prop := ∀ (a : Nat) (ks : List Int),pts[a]? = some (some ks) → ∃ M,enc P (a : Int) M ∧ okT m t ks M.er
theorem civ_step {m : Nat} {t : List T} {P : List C3} {pts q : Pts} {p a : Int} {ks : List Int} (hp : -1 ≤ p) (h : cTo m t pts p a ks = some q) (hc : CIv m t P pts) {M : LT} (hM : enc P a M) (hk : okT m t ks M.er) : CIv m t P q := by
 intro b ls hb
 rcases cTo_of hp h with ⟨_,_,rfl⟩ | ⟨h1,h2,h3,h4,rfl⟩
 ·exact hc b ls hb
 ·by_cases eb : a.toNat = b
  ·subst eb
   rw [List.getElem?_set_self (by omega)] at hb
   simp only [Option.some.injEq] at hb
   subst hb
   rw [Int.toNat_of_nonneg (by omega)]
   exact ⟨M,hM,hk⟩
  ·rw [List.getElem?_set_ne eb] at hb
   exact hc b ls hb
theorem go_some {m : Nat} {t : List T} {P : List C3} {pts : Pts} {p : Nat} {a : Int} {ks : List Int} {M : LT} (hM : enc P a M) (hk : okT m t ks M.er) (hn : nxt P.length p a) (hl : pts.length = P.length) (hf : a ≠ -1 → pts[a.toNat]? = some none) : ∃ q,cTo m t pts p a ks = some q := by
 apply cTo_some
 cases M with
 | stop => exact .inl ⟨hM,hk⟩
 | ask p' k n y =>
  obtain ⟨e,_⟩ := hM
  obtain ⟨o1,_⟩ := hk
  have ha : a ≠ -1 := by omega
  rcases hn with hn | hn
  ·exact absurd hn ha
  ·exact .inr ⟨ha,o1,hn.1,by rw [hl]; exact hn.2,hf ha⟩
theorem none_of {pts : Pts} {a : Nat} (h : a < pts.length) (hn : ¬ pts[a]? ≠ some none) : pts[a]? = some none := Classical.not_not.1 hn
theorem pl_step {m : Nat} {t : List T} {P : List C3} {L : LT} (hL : isPl m t P L) {p : Nat} {c : C3} (hc : P[p]? = some c) {pts : Pts} (h : Inv m t P p pts) (hv : CIv m t P pts) : ∃ q,rn1 m t pts p c = some q ∧ CIv m t P q := by
 have hlt : p < P.length := (List.getElem?_eq_some_iff.1 hc).1
 have nd := hL.on.1
 -- it has been come to
 have hin : p = 0 ∨ (p : Int) ∈ rfs (P.take p) := by
  by_cases p0 : p = 0
  ·exact .inl p0
  ·right
   have c1 := all_in nd hL.e hL.sz p hlt
   have r := cnt_root (a := p) hL.e
   have rp : ¬ rot P = (p : Int) := by
    unfold rot
    split <;> omega
   rw [if_neg rp] at r
   obtain ⟨q,d,q1,q2,q3⟩ := rcn_pos hL.e (a := p) (by omega)
   refine rfs_mem.2 ⟨by omega,q,d,?_,q2⟩
   rw [List.getElem?_take,if_pos q3]
   exact q1
 have hne := (h.iff_ p hlt).2 hin
 cases hpp : pts[p]? with
 | none =>
  rw [List.getElem?_eq_none_iff,h.len] at hpp
  omega
 | some o =>
  cases o with
  | none => exact absurd hpp hne
  | some ks =>
   obtain ⟨M,m1,m2⟩ := hv p ks hpp
   obtain ⟨o1,o2,o3⟩ := h.ok p ks hpp
   cases M with
   | stop =>
    have m1 : (p : Int) = -1 := m1
    omega
   | ask p' k n y =>
    obtain ⟨e,no,ye,d1,d2,d3,d4,d5⟩ := m1
    obtain ⟨u1,u2,u3,u4⟩ := m2
    have ep : p = p' := by omega
    subst ep
    rw [hc] at d1
    simp only [Option.some.injEq] at d1
    subst d1
    have hk : k < m := by rw [← o1]; exact ks_ex u2
    have ndp : (rfs (P.take p) ++ ad1 no ++ ad1 ye).Nodup := by
     rw [← rfs_snoc _ (k : Int),← take_snoc hc]
     have : rfs P = rfs (P.take (p + 1)) ++ rfs (P.drop (p + 1)) := by rw [← rfs_app,List.take_append_drop]
     rw [this] at nd
     exact (List.nodup_append.1 nd).1
    obtain ⟨nd1,_,nd3⟩ := List.nodup_append.1 ndp
    obtain ⟨_,_,nd2⟩ := List.nodup_append.1 nd1
    have free0 : no ≠ -1 → pts[no.toNat]? = some none := fun hno => by
     have hr : (p : Int) + 1 ≤ no ∧ no ≤ (P.length : Int) - 1 := d2.resolve_left hno
     refine none_of (by rw [h.len]; omega) (fun hx => ?_)
     rcases (h.iff_ no.toNat (by omega)).1 hx with h0 | h0
     ·omega
     ·rw [Int.toNat_of_nonneg (by omega)] at h0
      exact nd2 no h0 no (by unfold ad1; rw [if_neg hno]; simp) rfl
    obtain ⟨q1,c1⟩ := go_some (p := p) d4 u3 d2 h.len free0
    have iv1 := step_iff (by omega) h.len c1 h.nd h.rng h.iff_
    have l1 := cTo_len (by omega) c1
    have free1 : ye ≠ -1 → q1[ye.toNat]? = some none := fun hye => by
     have hr : (p : Int) + 1 ≤ ye ∧ ye ≤ (P.length : Int) - 1 := d3.resolve_left hye
     refine none_of (by rw [l1,h.len]; omega) (fun hx => ?_)
     rcases (iv1.2.2 ye.toNat (by omega)).1 hx with h0 | h0
     ·omega
     ·rw [Int.toNat_of_nonneg (by omega)] at h0
      exact nd3 ye h0 ye (by unfold ad1; rw [if_neg hye]; simp) rfl
    obtain ⟨q2,c2⟩ := go_some (p := p) d5 u4 d3 (l1.trans h.len) free1
    refine ⟨q2,?_,civ_step (by omega) c2 (civ_step (by omega) c1 hv d4 u3) d5 u4⟩
    unfold rn1
    rw [hpp]
    simp only [Int.toNat_natCast]
    rw [if_pos ⟨⟨by omega,by omega⟩,u2⟩,c1]
    exact c2
theorem pl_all {m : Nat} {t : List T} {P : List C3} {L : LT} (hL : isPl m t P L) : ∀ (rest : List C3) (p : Nat) (pts : Pts),P.drop p = rest → p ≤ P.length → Inv m t P p pts → CIv m t P pts → ∃ q,rnA m t rest p pts = some q
 | [],p,pts,_,_,_,_ => ⟨pts,rfl⟩
 | c :: r,p,pts,hd,hp,h,hv => by
  have hc : P[p]? = some c := by
   have : (P.drop p)[0]? = some c := by rw [hd]; rfl
   rw [List.getElem?_drop,Nat.add_zero] at this
   exact this
  have hlt : p < P.length := (List.getElem?_eq_some_iff.1 hc).1
  have hd' : P.drop (p + 1) = r := by
   rw [← List.drop_drop,hd]
   rfl
  obtain ⟨q1,h1,h2⟩ := pl_step hL hc h hv
  obtain ⟨q,h3⟩ := pl_all hL r (p + 1) q1 hd' (by omega) (inv_step hc h h1) h2
  exact ⟨q,by simp only [rnA]; rw [h1]; exact h3⟩
theorem rnA_keep {m : Nat} {t : List T} : ∀ (rest : List C3) (p : Nat) (a b : Pts),rnA m t rest p a = some b → ∀ (x : Nat) (ls : List Int),a[x]? = some (some ls) → b[x]? = some (some ls) := by
 intro rest
 induction rest with
 | nil =>
  intro p a b h x ls hx
  simp only [rnA,Option.some.injEq] at h
  subst h
  exact hx
 | cons c r ih =>
  intro p a b h x ls hx
  simp only [rnA,Option.bind_eq_some_iff] at h
  obtain ⟨a1,e1,e2⟩ := h
  refine ih (p + 1) a1 b e2 x ls ?_
  unfold rn1 at e1
  split at e1
  ·split at e1
   ·simp only [Option.bind_eq_some_iff] at e1
    obtain ⟨a2,f1,f2⟩ := e1
    exact cTo_keep (by omega) f2 (cTo_keep (by omega) f1 hx)
   ·cases e1
  ·cases e1
theorem rn_keep {m : Nat} {t : List T} {N : Nat} {x a : Int} {ks : List Int} (rest : List C3) (p : Nat) (q0 q : Pts) (h : rnA m t rest p q0 = some q) (g : go3 m t N q0 x a ks) : go3 m t N q x a ks := go3_keep (rnA_keep rest p q0 q h) g
theorem rnS_iff {m : Nat} {t : List T} {P : List C3} (h31 : P.length ≤ 31) : (∃ q,rnS m t P = some q) ↔ ∃ L,isPl m t P L := by
 constructor
 ·rintro ⟨q,h⟩
  unfold rnS at h
  simp only [Option.bind_eq_some_iff] at h
  obtain ⟨q0,h1,h2⟩ := h
  obtain ⟨i,g⟩ := inv_start h1
  have i2 := inv_all P 0 q0 q rfl (Nat.zero_le _) i h2
  refine inv_pl h31 i2 ?_
  exact rn_keep P 0 q0 q h2 g
 ·rintro ⟨L,hL⟩
  unfold rnS
  have hs : ∃ q,cTo m t (List.replicate P.length none) (-1) (rot P) (non m) = some q := by
   apply cTo_some
   have he := hL.e
   have hk := hL.ok
   cases L with
   | stop => exact .inl ⟨he,hk⟩
   | ask p k n y =>
    obtain ⟨e,no,ye,d1,_⟩ := he
    have hlt : p < P.length := (List.getElem?_eq_some_iff.1 d1).1
    have r0 : rot P = 0 := if_neg (fun e => by subst e; simp at hlt)
    refine .inr ⟨by omega,hk.1,by omega,by rw [List.length_replicate]; omega,?_⟩
    rw [r0,List.getElem?_replicate,if_pos (by simp; omega)]
  obtain ⟨q0,h1⟩ := hs
  obtain ⟨i,g⟩ := inv_start h1
  have cv : CIv m t P q0 := civ_step (by omega) h1 (fun a ks ha => by
   rw [List.getElem?_replicate] at ha
   split at ha <;> cases ha) hL.e hL.ok
  obtain ⟨q,h2⟩ := pl_all hL P 0 q0 rfl (Nat.zero_le _) i cv
  exact ⟨q,by rw [h1]; exact h2⟩
end
section
attribute [-simp] DV.cells
attribute [local simp] sliceD cells_st cells_sl cells_i cells_y cells_b cells_s cells_w
attribute [local simp] lend_e3 adopt_e3 new_e3 al_e3 lt_e3
def pv (m a : Int) (w v : BitVec 32) : DV := .st [.i m,.i a,.w w,.w v]
def pD (m : Nat) (t : List T) (ks : List Int) : DV := pv m (aN ks) (lfW ks) (tsW t)
theorem c_value {m : Nat} {t : List T} {ks : List Int} (h1 : tmOk m t = true) (hl : ks.length = m) (hk : ks.all kOk = true) : call lf n_impl_point_value [pD m t ks] = some (.i (foT m t ks),[]) := by
 have C := c_impl_valueAmong (tsW t) (lfW ks)
 rw [vaW_fcd h1 hl hk] at C
 unfold pD pv
 rw [call_k lf n_impl_point_value _ (F := F_impl_point_value) rfl rfl]
 simp [F_impl_point_value,C]
theorem c_isForced {m : Nat} {t : List T} {ks : List Int} (h1 : tmOk m t = true) (hl : ks.length = m) (hk : ks.all kOk = true) : call lf n_impl_point_isForced [pD m t ks] = some (.b (fcd m t ks),[]) := by
 have C := c_value h1 hl hk
 unfold pD pv at *
 rw [call_k lf n_impl_point_isForced _ (F := F_impl_point_isForced) rfl rfl]
 unfold fcd
 simp [F_impl_point_isForced,C]
def caK (m : Nat) (ks : List Int) (a : Int) : Bool := decide (0 ≤ a ∧ a < m) && decide (ks[a.toNat]? = some (-1))
theorem c_canAsk {m : Nat} {t : List T} {ks : List Int} (hm : m ≤ 5) (hl : ks.length = m) (a : Int) : call lf n_impl_point_canAsk [pD m t ks,.i a] = some (.b (caK m ks a),[]) := by
 have W := c_impl_isWithin a 0 ((m : Int) - 1)
 have w1 : wr ((m : Int) - 1) = (m : Int) - 1 := wr_id (by omega) (by omega)
 unfold pD pv
 rw [call_k lf n_impl_point_canAsk _ (F := F_impl_point_canAsk) rfl rfl]
 unfold caK
 by_cases h : 0 ≤ a ∧ a < m
 ·obtain ⟨k,rfl⟩ := Int.eq_ofNat_of_zero_le h.1
  have e : decide (0 ≤ (k : Int) ∧ (k : Int) ≤ (m : Int) - 1) = true := decide_eq_true ⟨h.1,by omega⟩
  have H := c_impl_hasTest (aN ks) k (by omega)
  have hb := aN_bit (ks := ks) (i := k) (by omega)
  rw [hb] at H
  rw [e] at W
  rw [decide_eq_true h,Int.toNat_natCast]
  generalize aN ks = x at *
  generalize lfW ks = y at *
  simp [F_impl_point_canAsk,w1,W,H]
 ·have e : decide (0 ≤ a ∧ a ≤ (m : Int) - 1) = false := decide_eq_false (by omega)
  rw [e] at W
  rw [decide_eq_false h]
  simp [F_impl_point_canAsk,w1,W]
theorem c_canAsk0 (a : Int) : call lf n_impl_point_canAsk [pv 0 0 (0#32) (0#32),.i a] = some (.b false,[]) := by
 have W := c_impl_isWithin a 0 (-1)
 have e : decide (0 ≤ a ∧ a ≤ -1) = false := decide_eq_false (by omega)
 rw [e] at W
 have w1 : wr (-1) = -1 := wr_id (by omega) (by omega)
 unfold pv
 rw [call_k lf n_impl_point_canAsk _ (F := F_impl_point_canAsk) rfl rfl]
 simp [F_impl_point_canAsk,w1,W]
theorem c_answered {m : Nat} {t : List T} {ks : List Int} {k : Nat} (b : Bool) (hl : ks.length ≤ 5) (hk : ks.all kOk = true) (h : ks[k]? = some (-1)) : call lf n_impl_point_answered [pD m t ks,.i k,.i (bI b)] = some (pD m t (ks.set k (bI b)),[]) := by
 have hlt := ks_ex h
 have C := c_impl_statesSaying (k := k) (by omega) (bI b)
 have e1 : syI k (bI b) = syW k b := by cases b <;> rfl
 rw [e1] at C
 have sh := shl1 (k := (k : Int)) (by omega) (by omega)
 have nk : ¬ (k : Int) < 0 := by omega
 have l := aN_lt ks
 have p : 2 ^ ks.length ≤ 2 ^ 5 := Nat.pow_le_pow_right (by omega) hl
 have p2 : 2 ^ k ≤ 2 ^ 5 := Nat.pow_le_pow_right (by omega) (by omega)
 have o := orI_nat (a := aN ks) (b := 2 ^ k) (by omega) (by omega)
 rw [← aN_set (b := bI b) (by cases b <;> simp [bI]) h] at o
 have e2 := lfW_set b hk hl h
 unfold pD pv
 rw [call_k lf n_impl_point_answered _ (F := F_impl_point_answered) rfl rfl]
 rw [e2]
 have o' : orI (aN ks) (2 ^ k) = aN (ks.set k (bI b)) := by
  have : ((2 ^ k : Nat) : Int) = 2 ^ k := by simp
  rw [← this]; exact o
 rw [Int.toNat_natCast] at sh
 generalize aN (ks.set k (bI b)) = x at *
 generalize aN ks = y at *
 generalize lfW ks = z at *
 generalize (2 : Int) ^ k = w at *
 simp [F_impl_point_answered,C,sh,nk,o']
theorem c_startOf {m : Nat} {t : List T} (hm : m ≤ 5) (h : tmOk m t = true) : call lf n_impl_startOf [.i m,.sl 0 (t.map e2)] = some (pD m t (non m),[]) := by
 have C := c_impl_trueStates h
 unfold pD pv
 rw [aN_non,lfW_non m hm]
 rw [call_k lf n_impl_startOf _ (F := F_impl_startOf) rfl rfl]
 simp [F_impl_startOf,C]
theorem c_firstOf (P : List C3) (h : (P.length : Int) < 1099511627776) : call lf n_impl_firstOf [.sl 0 (P.map e3)] = some (.i (rot P),[]) := by
 rw [call_k lf n_impl_firstOf _ (F := F_impl_firstOf) rfl rfl]
 unfold rot
 cases P with
 | nil => simp [F_impl_firstOf]
 | cons c r =>
  have e : (((r.length : Int) + 1) == 0) = false := beq_eq_false_iff_ne.2 (by omega)
  simp [F_impl_firstOf,e]
end
section
attribute [-simp] DV.cells
attribute [local simp] sliceD cells_st cells_sl cells_i cells_y cells_b cells_s cells_w
attribute [local simp] lend_e3 adopt_e3 new_e3 al_e3 lt_e3
def e4 (m : Nat) (t : List T) : Option (List Int) → DV
 | some ks => pD m t ks
 | none => pv 0 0 (0#32) (0#32)
theorem e4_st (m : Nat) (t : List T) (o : Option (List Int)) : ∃ (a b : Int) (w v : BitVec 32),e4 m t o = .st [.i a,.i b,.w w,.w v] := by
 cases o with
 | none => exact ⟨_,_,_,_,rfl⟩
 | some ks => exact ⟨_,_,_,_,rfl⟩
theorem e4_lend (m : Nat) (t : List T) (o : Option (List Int)) : (e4 m t o).lend = e4 m t o := by
 obtain ⟨a,b,w,v,e⟩ := e4_st m t o
 rw [e]; rfl
theorem e4_adopt (m : Nat) (t : List T) (o : Option (List Int)) (x : Bool) : (e4 m t o).adopt x = e4 m t o := by
 obtain ⟨a,b,w,v,e⟩ := e4_st m t o
 rw [e]; rfl
theorem e4_cells (m : Nat) (t : List T) (o : Option (List Int)) : (e4 m t o).cells.length = 4 := by
 obtain ⟨a,b,w,v,e⟩ := e4_st m t o
 rw [e]; rfl
theorem lend_e4 (m : Nat) (t : List T) (P : Pts) : lendL (P.map (e4 m t)) = P.map (e4 m t) := by
 rw [lendL_map,List.map_map]
 exact List.map_congr_left fun o _ => e4_lend m t o
theorem adopt_e4 (m : Nat) (t : List T) (x : Bool) (P : Pts) : adoptL x (P.map (e4 m t)) = P.map (e4 m t) := by
 rw [adoptL_map,List.map_map]
 exact List.map_congr_left fun o _ => e4_adopt m t o x
theorem new_e4 (m : Nat) (t : List T) (P : Pts) : allNewL (P.map (e4 m t)) = true := by
 rw [allNewL_all,List.all_map,List.all_eq_true]
 intro o _
 obtain ⟨a,b,w,v,e⟩ := e4_st m t o
 show (e4 m t o).allNew = true
 rw [e]; rfl
theorem wid_e4 (m : Nat) (t : List T) (P : Pts) : ∀ e ∈ P.map (e4 m t),e.cells.length = 4 := fun e he => by
 obtain ⟨o,_,rfl⟩ := List.mem_map.1 he
 exact e4_cells m t o
theorem atN_e4 {m : Nat} {t : List T} {P : Pts} {p : Nat} {o : Option (List Int)} (h : P[p]? = some o) : atN (P.map (e4 m t)) p = some (e4 m t o) := by
 show (P.map (e4 m t))[p]? = _
 rw [List.getElem?_map,h]; rfl
def ctR (m : Nat) (t : List T) (pts : Pts) : Option Pts → DV × List DV
 | some q => (.b true,[.fr 4 (q.map (e4 m t))])
 | none => (.b false,[.fr 4 (pts.map (e4 m t))])
set_option maxHeartbeats 4000000 in
theorem c_comesTo {m : Nat} {t : List T} {pts : Pts} {p a : Int} {ks : List Int} (h1 : tmOk m t = true) (hl : ks.length = m) (hk : ks.all kOk = true) (hp : -1 ≤ p ∧ p ≤ 100) (hn : pts.length ≤ 40) :
  call lf n_impl_comesTo [.fr 4 (pts.map (e4 m t)),.i p,.i a,pD m t ks] = some (ctR m t pts (cTo m t pts p a ks)) := by
 obtain ⟨h3,_,_⟩ := tmOk_iff.1 h1
 have F := c_isForced h1 hl hk
 have W := c_impl_isWithin a (p + 1) ((pts.length : Int) - 1)
 have w1 : wr (p + 1) = p + 1 := wr_id (by omega) (by omega)
 have w2 : wr ((pts.length : Int) - 1) = (pts.length : Int) - 1 := wr_id (by omega) (by omega)
 have len : (pts.map (e4 m t)).length = pts.length := by simp
 have wid := wid_e4 m t pts
 have ad := fun x => adopt_e4 m t x pts
 rw [call_k lf n_impl_comesTo _ (F := F_impl_comesTo) rfl rfl]
 unfold cTo
 by_cases ha : a = -1
 ·subst ha
  unfold pD pv at *
  cases hf : fcd m t ks with
  | true =>
   rw [hf] at F
   rw [if_pos (.inl rfl),if_pos ⟨rfl,rfl⟩]
   simp only [ctR]
   generalize pts.map (e4 m t) = M at *
   simp [F_impl_comesTo,F,len]
  | false =>
   rw [hf] at F
   rw [if_pos (.inl rfl),if_neg (by simp)]
   simp only [ctR]
   generalize pts.map (e4 m t) = M at *
   simp [F_impl_comesTo,F,len]
 ·have na : (a == -1) = false := beq_eq_false_iff_ne.2 ha
  cases hf : fcd m t ks with
  | true =>
   rw [hf] at F
   rw [if_pos (.inr rfl),if_neg (fun h => ha h.1)]
   simp only [ctR]
   unfold pD pv at *
   generalize pts.map (e4 m t) = M at *
   simp [F_impl_comesTo,F,na,len]
  | false =>
   rw [hf] at F
   rw [if_neg (by simp [ha])]
   by_cases hw : p + 1 ≤ a ∧ a ≤ (pts.length : Int) - 1
   ·rw [decide_eq_true hw] at W
    obtain ⟨n,rfl⟩ := Int.eq_ofNat_of_zero_le (a := a) (by omega)
    rw [Int.toNat_natCast]
    have hlt : n < pts.length := by omega
    have hlt' : (n : Int) < pts.length := by omega
    obtain ⟨o,ho⟩ : ∃ o,pts[n]? = some o := ⟨pts[n],List.getElem?_eq_getElem hlt⟩
    have A := atN_e4 (m := m) (t := t) ho
    cases o with
    | none =>
     rw [if_pos ⟨hw.1,hw.2,ho⟩]
     simp only [ctR]
     have e : (pts.set n (some ks)).map (e4 m t) = (pts.map (e4 m t)).set n (pD m t ks) := by rw [List.map_set]; rfl
     rw [e]
     simp only [e4] at A
     unfold pD pv at *
     have z1 : ((0 : Int) == 0) = true := rfl
     have z2 : ((0#32 : BitVec 32) == 0#32) = true := rfl
     generalize pts.map (e4 m t) = M at *
     generalize pts.length = N at *
     simp [F_impl_comesTo,F,na,w1,w2,W,len,hlt,hlt',A,eqI]
    | some ls =>
     rw [if_neg (by rw [ho]; rintro ⟨_,_,h⟩; cases h)]
     simp only [ctR]
     simp only [e4] at A
     unfold pD pv at *
     have m0 : ((m : Int) == 0) = false := beq_eq_false_iff_ne.2 (by omega)
     generalize pts.map (e4 m t) = M at *
     generalize pts.length = N at *
     simp [F_impl_comesTo,F,na,w1,w2,W,len,hlt,hlt',A,eqI,m0]
   ·rw [decide_eq_false hw] at W
    rw [if_neg (fun h => hw ⟨h.1,h.2.1⟩)]
    simp only [ctR]
    unfold pD pv at *
    generalize pts.map (e4 m t) = M at *
    simp [F_impl_comesTo,F,na,w1,w2,W,len]
def stPt (m : Nat) (t : List T) (P : List C3) (p : Nat) (pts : Pts) : LS :=
 ⟨[(8,.own 11808 P.length 0 P.length),(32,.sl 0 (P.map e3)),(33,.i P.length),(34,.i p)],[(11808,pts.map (e4 m t))]⟩
def noPt : LS := ⟨[(6,.own 3104 0 0 0),(7,.b false)],[(3104,[])]⟩
set_option maxHeartbeats 8000000 in
theorem pt_step {m : Nat} {t : List T} {P : List C3} {p : Nat} {pts : Pts} {c : C3} (h1 : tmOk m t = true) (hc : P[p]? = some c) (hP : P.length ≤ 31) (hl : pts.length = P.length)
  (ho : ∀ (a : Nat) (ks : List Int),pts[a]? = some (some ks) → ks.length = m ∧ ks.all kOk = true) :
  ex lf F_impl_pointsOf_L0 (stPt m t P p pts) = match rn1 m t pts p c with
   | some q => some (.normal,stPt m t P (p + 1) q)
   | none => some (.ret,noPt) := by
 obtain ⟨h3,_,_⟩ := tmOk_iff.1 h1
 obtain ⟨k,no,ye⟩ := c
 have hlt : p < P.length := (List.getElem?_eq_some_iff.1 hc).1
 have hlt' : (p : Int) < P.length := by omega
 have AP := at_e3 hc
 have AN := atN_e3 hc
 simp only at AP AN
 obtain ⟨o,hpo⟩ : ∃ o,pts[p]? = some o := ⟨pts[p]'(by omega),List.getElem?_eq_getElem (by omega)⟩
 have A := atN_e4 (m := m) (t := t) hpo
 have len : (pts.map (e4 m t)).length = P.length := by simp [hl]
 have wid := wid_e4 m t pts
 have ld := lend_e4 m t pts
 have ad := fun x => adopt_e4 m t x pts
 have w1 : wr ((p : Int) + 1) = ((p + 1 : Nat) : Int) := by rw [wr_id (by omega) (by omega)]; omega
 unfold rn1
 rw [hpo]
 cases o with
 | none =>
  simp only
  have C := c_canAsk0 k
  simp only [e4] at A
  unfold stPt noPt
  unfold pv at *
  generalize pts.map (e4 m t) = M at *
  generalize P.length = N at *
  simp [F_impl_pointsOf_L0,hlt,hlt',AP,AN,len,A,C,w1,-Int.natCast_add]
 | some ks =>
  simp only
  obtain ⟨o1,o2⟩ := ho p ks hpo
  have C := c_canAsk (t := t) (ks := ks) (by omega) o1 k
  simp only [e4] at A
  by_cases hk : (0 ≤ k ∧ k < m) ∧ ks[k.toNat]? = some (-1)
  ·have ca : caK m ks k = true := by unfold caK; rw [decide_eq_true hk.1,decide_eq_true hk.2]; rfl
   rw [ca] at C
   rw [if_pos hk]
   obtain ⟨j,rfl⟩ := Int.eq_ofNat_of_zero_le hk.1.1
   rw [Int.toNat_natCast] at hk ⊢
   have B0 := c_answered (m := m) (t := t) false (by omega) o2 hk.2
   have B1 := c_answered (m := m) (t := t) true (by omega) o2 hk.2
   rw [bI_0] at B0
   rw [bI_1] at B1
   have k0 : (ks.set j 0).all kOk = true := kOk_set o2 j false
   have k1 : (ks.set j 1).all kOk = true := kOk_set o2 j true
   have G0 := c_comesTo (pts := pts) (p := p) (a := no) h1 (ks := ks.set j 0) (by simpa using o1) k0 ⟨by omega,by omega⟩ (by omega)
   cases hc0 : cTo m t pts p no (ks.set j 0) with
   | none =>
    rw [hc0] at G0
    simp only [ctR] at G0
    rw [Option.bind_none]
    simp only
    unfold stPt noPt
    unfold pD pv at *
    generalize pts.map (e4 m t) = M at *
    generalize P.length = N at *
    simp [F_impl_pointsOf_L0,hlt,hlt',AP,AN,len,A,C,B0,G0,ld,ad,w1,-Int.natCast_add]
   | some q1 =>
    rw [hc0] at G0
    simp only [ctR] at G0
    rw [Option.bind_some]
    have l1 := cTo_len (by omega) hc0
    have len1 : (q1.map (e4 m t)).length = P.length := by simp [l1,hl]
    have ld1 := lend_e4 m t q1
    have ad1 := fun x => adopt_e4 m t x q1
    have G1 := c_comesTo (pts := q1) (p := p) (a := ye) h1 (ks := ks.set j 1) (by simpa using o1) k1 ⟨by omega,by omega⟩ (by omega)
    cases hc1 : cTo m t q1 p ye (ks.set j 1) with
    | none =>
     rw [hc1] at G1
     simp only [ctR] at G1
     simp only
     unfold stPt noPt
     unfold pD pv at *
     generalize pts.map (e4 m t) = M at *
     generalize q1.map (e4 m t) = M1 at *
     generalize P.length = N at *
     simp [F_impl_pointsOf_L0,hlt,hlt',AP,AN,len,A,C,B0,B1,G0,G1,len1,ld,ad,ld1,ad1,w1,-Int.natCast_add]
    | some q2 =>
     rw [hc1] at G1
     simp only [ctR] at G1
     simp only
     have ad2 := fun x => adopt_e4 m t x q2
     unfold stPt
     unfold pD pv at *
     generalize pts.map (e4 m t) = M at *
     generalize q1.map (e4 m t) = M1 at *
     generalize q2.map (e4 m t) = M2 at *
     generalize P.length = N at *
     simp [F_impl_pointsOf_L0,hlt,hlt',AP,AN,len,A,C,B0,B1,G0,G1,len1,ld,ad,ld1,ad1,ad2,w1,-Int.natCast_add]
  ·have ca : caK m ks k = false := by
    unfold caK
    by_cases q : 0 ≤ k ∧ k < m
    ·rw [decide_eq_true q,decide_eq_false (fun h => hk ⟨q,h⟩)]; rfl
    ·rw [decide_eq_false q]; rfl
   rw [ca] at C
   rw [if_neg hk]
   simp only
   unfold stPt noPt
   unfold pD pv at *
   generalize pts.map (e4 m t) = M at *
   generalize P.length = N at *
   simp [F_impl_pointsOf_L0,hlt,hlt',AP,AN,len,A,C,w1,-Int.natCast_add]
end
section
attribute [-simp] DV.cells
attribute [local simp] sliceD cells_st cells_sl cells_i cells_y cells_b cells_s cells_w
attribute [local simp] lend_e3 adopt_e3 new_e3 al_e3 lt_e3
theorem pt_loop {m : Nat} {t : List T} {P : List C3} (h1 : tmOk m t = true) (hP : P.length ≤ 31) : ∀ (rest : List C3) (p : Nat) (pts : Pts),P.drop p = rest → p ≤ P.length → Inv m t P p pts →
  ex lf F_impl_pointsOf_W0 (stPt m t P p pts) = match rnA m t rest p pts with
   | some q => some (.exit 0,stPt m t P P.length q)
   | none => some (.ret,noPt)
 | [],p,pts,hd,hp,h => by
  have : P.length ≤ p := List.drop_eq_nil_iff.1 hd
  have e : p = P.length := by omega
  subst e
  rw [w_impl_pointsOf_0]
  unfold stPt
  have nlt : ¬ ((P.length : Int) < P.length) := by omega
  simp [F_impl_pointsOf_L0,nlt,rnA]
 | c :: r,p,pts,hd,hp,h => by
  have hc : P[p]? = some c := by
   have : (P.drop p)[0]? = some c := by rw [hd]; rfl
   rw [List.getElem?_drop,Nat.add_zero] at this
   exact this
  have hlt : p < P.length := (List.getElem?_eq_some_iff.1 hc).1
  have hd' : P.drop (p + 1) = r := by
   rw [← List.drop_drop,hd]
   rfl
  have S := pt_step h1 hc hP h.len (fun a ks ha => by obtain ⟨q1,q2,_⟩ := h.ok a ks ha; exact ⟨q1,q2⟩)
  rw [w_impl_pointsOf_0,S]
  simp only [rnA]
  cases hr : rn1 m t pts p c with
  | none => rfl
  | some q =>
   rw [Option.bind_some]
   exact pt_loop h1 hP r (p + 1) q hd' (by omega) (inv_step hc h hr)
def ptR (m : Int) (t : List T) (P : List C3) : Option Pts := if tmOk m t && decide (P.length ≤ 31) then rnS m.toNat t P else none
theorem ptR_iff {m : Int} {t : List T} {P : List C3} : (∃ q,ptR m t P = some q) ↔ pkOk m t P = true := by
 unfold ptR
 cases h1 : tmOk m t with
 | false =>
  simp only [Bool.false_and,Bool.false_eq_true,if_false]
  unfold pkOk
  rw [h1]
  simp
 | true =>
  obtain ⟨h3,_,_⟩ := tmOk_iff.1 h1
  obtain ⟨n,rfl⟩ := Int.eq_ofNat_of_zero_le (a := m) (by omega)
  rw [pk_iff,Int.toNat_natCast]
  by_cases h : P.length ≤ 31
  ·rw [decide_eq_true h,Bool.and_self,if_pos rfl,rnS_iff h]
   exact ⟨fun q => ⟨h1,q⟩,fun q => q.2⟩
  ·rw [decide_eq_false h]
   simp only [Bool.and_false,Bool.false_eq_true,if_false]
   constructor
   ·rintro ⟨q,h⟩; cases h
   ·rintro ⟨_,L,hL⟩; exact absurd hL.few h
def ptD (m : Int) (t : List T) : Option Pts → List DV
 | some q => q.map (e4 m.toNat t)
 | none => []
set_option maxHeartbeats 4000000 in
theorem c_pointsOf {m : Int} {t : List T} {P : List C3} (ht : (t.length : Int) < 1099511627776) (hN : (P.length : Int) < 1099511627776) :
  call lf n_impl_pointsOf [.i m,.sl 0 (t.map e2),.sl 0 (P.map e3)] = some (.tup [.fr 4 (ptD m t (ptR m t P)),.b (ptR m t P).isSome],[]) := by
 have C1 := c_impl_TermOk m t ht
 rw [call_k lf n_impl_pointsOf _ (F := F_impl_pointsOf) rfl rfl]
 have lP : (P.map e3).length = P.length := by simp
 unfold ptR
 cases h1 : tmOk m t with
 | false => rw [h1] at C1; simp [F_impl_pointsOf,C1,ptD]
 | true =>
  rw [h1] at C1
  obtain ⟨h3,_,_⟩ := tmOk_iff.1 h1
  obtain ⟨n,rfl⟩ := Int.eq_ofNat_of_zero_le (a := m) (by omega)
  rw [Int.toNat_natCast]
  by_cases h : P.length ≤ 31
  ·have ng : ¬ (31 : Int) < P.length := by omega
   rw [decide_eq_true h,Bool.and_self,if_pos rfl]
   have C2 := c_firstOf P hN
   have C3 := c_startOf (t := t) (by omega) h1
   have r1 : -1 ≤ rot P := by unfold rot; split <;> omega
   have C4 := c_comesTo (pts := List.replicate P.length none) (p := -1) (a := rot P) h1 (non_len n) (non_all n) ⟨by omega,by omega⟩ (by rw [List.length_replicate]; omega)
   have lE := lend_e3 P
   have rp : (List.replicate P.length (none : Option (List Int))).map (e4 n t) = List.replicate P.length (.st [.i 0,.i 0,.w (0#32),.w (0#32)]) := by rw [List.map_replicate]; rfl
   have ldr := lend_e4 n t (List.replicate P.length none)
   have adr := fun x => adopt_e4 n t x (List.replicate P.length none)
   rw [rp] at C4 ldr adr
   have lb : (P.length : Int) ≤ (bound : Int) := by unfold bound; omega
   unfold rnS
   cases hq : cTo n t (List.replicate P.length none) (-1) (rot P) (non n) with
   | none =>
    rw [hq] at C4
    simp only [ctR] at C4
    rw [rp] at C4
    rw [Option.bind_none]
    unfold pD pv at *
    generalize P.map e3 = Q at *
    generalize rot P = r0 at *
    generalize P.length = N at *
    have lr : (List.replicate N (DV.st [.i 0,.i 0,.w (0#32),.w (0#32)])).length = N := by simp
    simp [F_impl_pointsOf,C1,C2,C3,C4,ng,lb,lP,lE,ldr,adr,lr,ptD]
   | some q0 =>
    rw [hq] at C4
    simp only [ctR] at C4
    rw [Option.bind_some]
    obtain ⟨iv,_⟩ := inv_start hq
    have L := pt_loop h1 h P 0 q0 rfl (Nat.zero_le _) iv
    have ad0 := fun x => adopt_e4 n t x q0
    have lq0 : (q0.map (e4 n t)).length = P.length := by rw [List.length_map,iv.len]
    cases hr : rnA n t P 0 q0 with
    | none =>
     rw [hr] at L
     simp only at L
     unfold stPt noPt at L
     unfold pD pv at *
     generalize q0.map (e4 n t) = M at *
     generalize P.map e3 = Q at *
     generalize rot P = r0 at *
     generalize P.length = N at *
     have lr : (List.replicate N (DV.st [.i 0,.i 0,.w (0#32),.w (0#32)])).length = N := by simp
     simp only [Int.natCast_zero] at L
     simp [F_impl_pointsOf,C1,C2,C3,C4,ng,lb,lP,lE,ldr,ad0,lr,L,ptD]
    | some q =>
     rw [hr] at L
     simp only at L
     have iv2 := inv_all P 0 q0 q rfl (Nat.zero_le _) iv hr
     have lq : (q.map (e4 n t)).length = P.length := by rw [List.length_map,iv2.len]
     unfold stPt at L
     unfold pD pv at *
     simp only [ptD,Int.toNat_natCast]
     generalize q.map (e4 n t) = M2 at *
     generalize q0.map (e4 n t) = M at *
     generalize P.map e3 = Q at *
     generalize rot P = r0 at *
     generalize P.length = N at *
     have lr : (List.replicate N (DV.st [.i 0,.i 0,.w (0#32),.w (0#32)])).length = N := by simp
     simp only [Int.natCast_zero] at L
     simp [F_impl_pointsOf,C1,C2,C3,C4,ng,lb,lP,lE,ldr,ad0,lr,L,lq]
  ·have ng : (31 : Int) < P.length := by omega
   rw [decide_eq_false h]
   generalize P.map e3 = Q at *
   generalize P.length = N at *
   simp [F_impl_pointsOf,C1,ng,lP,ptD]
theorem c_impl_PlanOk {m : Int} {t : List T} {P : List C3} (ht : (t.length : Int) < 1099511627776) (hN : (P.length : Int) < 1099511627776) :
  call lf n_impl_PlanOk [.i m,.sl 0 (t.map e2),.sl 0 (P.map e3)] = some (.b (pkOk m t P),[]) := by
 have C := c_pointsOf (m := m) (t := t) (P := P) ht hN
 have e : (ptR m t P).isSome = pkOk m t P := by
  have q := ptR_iff (m := m) (t := t) (P := P)
  rw [Bool.eq_iff_iff,Option.isSome_iff_exists]
  exact q
 rw [e] at C
 have nw : allNewL (ptD m t (ptR m t P)) = true := by
  cases ptR m t P with
  | none => rfl
  | some q => exact new_e4 _ _ _
 rw [call_k lf n_impl_PlanOk _ (F := F_impl_PlanOk) rfl rfl]
 generalize ptD m t (ptR m t P) = M at *
 simp [F_impl_PlanOk,C,nw]
structure Fin (m : Nat) (t : List T) (P : List C3) (L : LT) (pts : Pts) : Prop where
 inv : Inv m t P P.length pts
 start : go3 m t P.length pts (-1) (rot P) (non m)
end
section
def kp : List T → List Int → Int
 | t :: r,k :: ks => (if k = -1 then 1 else if k = 1 then t.2 else 6 - t.2) * kp r ks
 | _,_ => 1
end
section
attribute [-simp] DV.cells
attribute [local simp] sliceD cells_st cells_sl cells_i cells_y cells_b cells_s cells_w
attribute [local simp] lend_e3 adopt_e3 new_e3 al_e3 lt_e3
def rw3 (A B C : List DV) : List DV := [.sl 0 A,.sl 0 B,.sl 0 C]
def stC0 (X : List DV) (s : Int) (i : Nat) : LS := ⟨[(0,.sl 0 X),(3,.i s),(9,.sl 0 X),(10,.i 3),(11,.i i)],[]⟩
def stC1 (X acc : List DV) (i : Nat) : LS := ⟨[(6,.own 12312 acc.length 0 acc.length),(25,.sl 0 X),(26,.i 3),(27,.i i)],[(12312,acc)]⟩
theorem cc_step0 {X es : List DV} {i : Nat} {s : Int} (h : atI X (i : Int) = some (.sl 0 es)) (hi : i < 3) (h0 : 0 ≤ s) (hb : s + es.length ≤ 1000000) :
  ex lf F_slices_Concat_impl_Choice_impl_Choice_L0 (stC0 X s i) = some (.normal,stC0 X (s + es.length) (i + 1)) := by
 have w1 : wr ((i : Int) + 1) = ((i + 1 : Nat) : Int) := by rw [wr_id (by omega) (by omega)]; omega
 have w2 : wr (s + (es.length : Int)) = s + es.length := wr_id (by omega) (by omega)
 have hi' : (i : Int) < 3 := by omega
 have ng : ¬ s + (es.length : Int) < 0 := by omega
 unfold stC0
 simp [F_slices_Concat_impl_Choice_impl_Choice_L0,hi',h,w1,w2,ng,-Int.natCast_add]
theorem cc_step1 {X es acc : List DV} {i : Nat} (h : atI X (i : Int) = some (.sl 0 es)) (hi : i < 3) (hb : acc.length + es.length ≤ 1000000) (hc : ∀ e ∈ es,e.cells.length = 3) :
  ex lf F_slices_Concat_impl_Choice_impl_Choice_L1 (stC1 X acc i) = some (.normal,stC1 X (acc ++ es) (i + 1)) := by
 have w1 : wr ((i : Int) + 1) = ((i + 1 : Nat) : Int) := by rw [wr_id (by omega) (by omega)]; omega
 have hi' : (i : Int) < 3 := by omega
 have lb : acc.length + es.length ≤ bound := by unfold bound; omega
 unfold stC1
 rw [List.length_append]
 simp [F_slices_Concat_impl_Choice_impl_Choice_L1,hi',h,w1,lb,if_pos hc,-Int.natCast_add]
set_option maxHeartbeats 4000000 in
theorem c_Concat {A B C : List DV} (hA : 0 < A.length) (hl : A.length + B.length + C.length ≤ 1000000) (cA : ∀ e ∈ A,e.cells.length = 3) (cB : ∀ e ∈ B,e.cells.length = 3) (cC : ∀ e ∈ C,e.cells.length = 3) :
  call lf n_slices_Concat_impl_Choice_impl_Choice [.sl 0 [.sl 0 A,.sl 0 B,.sl 0 C]] = some (.fr 3 (A ++ B ++ C),[]) := by
 have a0 : atI (rw3 A B C) ((0 : Nat) : Int) = some (.sl 0 A) := rfl
 have a1 : atI (rw3 A B C) ((1 : Nat) : Int) = some (.sl 0 B) := rfl
 have a2 : atI (rw3 A B C) ((2 : Nat) : Int) = some (.sl 0 C) := rfl
 have L0 : ex lf F_slices_Concat_impl_Choice_impl_Choice_W0 (stC0 (rw3 A B C) 0 0) = some (.exit 0,stC0 (rw3 A B C) ((A.length : Int) + B.length + C.length) 3) := by
  rw [w_slices_Concat_impl_Choice_impl_Choice_0,cc_step0 a0 (by omega) (by omega) (by omega)]
  simp only
  rw [w_slices_Concat_impl_Choice_impl_Choice_0,cc_step0 a1 (by omega) (by omega) (by omega)]
  simp only
  rw [w_slices_Concat_impl_Choice_impl_Choice_0,cc_step0 a2 (by omega) (by omega) (by omega)]
  simp only
  rw [w_slices_Concat_impl_Choice_impl_Choice_0,Int.zero_add]
  unfold stC0
  generalize rw3 A B C = X
  simp [F_slices_Concat_impl_Choice_impl_Choice_L0]
 have L1 : ex lf F_slices_Concat_impl_Choice_impl_Choice_W1 (stC1 (rw3 A B C) [] 0) = some (.exit 2,stC1 (rw3 A B C) (A ++ B ++ C) 3) := by
  rw [w_slices_Concat_impl_Choice_impl_Choice_1,cc_step1 a0 (by omega) (by simp; omega) cA]
  simp only
  rw [w_slices_Concat_impl_Choice_impl_Choice_1,cc_step1 a1 (by omega) (by simp; omega) cB]
  simp only
  rw [w_slices_Concat_impl_Choice_impl_Choice_1,cc_step1 a2 (by omega) (by simp; omega) cC]
  simp only
  rw [w_slices_Concat_impl_Choice_impl_Choice_1,List.nil_append]
  unfold stC1
  generalize rw3 A B C = X
  simp [F_slices_Concat_impl_Choice_impl_Choice_L1]
 have G : call lf n_slices_Grow_impl_Choice_impl_Choice [.nil,.i ((A.length : Int) + B.length + C.length)] = some (.fr 3 [],[]) := by
  rw [call_prim lf n_slices_Grow_impl_Choice_impl_Choice _ (F := F_slices_Grow_impl_Choice_impl_Choice) rfl rfl,grow_k,if_pos]
  unfold bound
  omega
 have rl : (rw3 A B C).length = 3 := rfl
 show call lf n_slices_Concat_impl_Choice_impl_Choice [.sl 0 (rw3 A B C)] = _
 rw [call_k lf n_slices_Concat_impl_Choice_impl_Choice _ (F := F_slices_Concat_impl_Choice_impl_Choice) rfl rfl]
 unfold stC0 at L0
 unfold stC1 at L1
 simp only [Int.natCast_zero,List.length_nil] at L0 L1
 generalize rw3 A B C = X at *
 generalize (A.length : Int) + B.length + C.length = n at *
 generalize A ++ B ++ C = Y at *
 simp [F_slices_Concat_impl_Choice_impl_Choice,L0,L1,G,rl]
theorem cells_e3 (P : List C3) : ∀ e ∈ P.map e3,e.cells.length = 3 := fun e he => by
 obtain ⟨x,_,rfl⟩ := List.mem_map.1 he
 rfl
set_option maxHeartbeats 8000000 in
theorem c_impl_laidOut (a : Int) {place : Nat} {N Y : List C3} (hb : place + 1 + N.length + Y.length ≤ 1000) :
  call lf n_impl_laidOut [.i a,.i place,.sl 0 (N.map e3),.sl 0 (Y.map e3)] = some (.fr 3 ([.st [.i a,.i (if N = [] then -1 else ((place + 1 : Nat) : Int)),.i (if Y = [] then -1 else ((place + 1 + N.length : Nat) : Int))]] ++ N.map e3 ++ Y.map e3),[]) := by
 have w1 : wr ((place : Int) + 1) = ((place + 1 : Nat) : Int) := by rw [wr_id (by omega) (by omega)]; omega
 have w2 : wr (((place + 1 : Nat) : Int) + (N.length : Int)) = ((place + 1 + N.length : Nat) : Int) := by rw [wr_id (by omega) (by omega)]; omega
 have cN := cells_e3 N
 have cY := cells_e3 Y
 have lN : (N.map e3).length = N.length := by simp
 have lY : (Y.map e3).length = Y.length := by simp
 have eN := lend_e3 N
 have eY := lend_e3 Y
 have aN' := fun x => adopt_e3 x N
 have aY' := fun x => adopt_e3 x Y
 have nN := new_e3 N
 have nY := new_e3 Y
 have CC := fun (b c : Int) => c_Concat (A := [.st [.i a,.i b,.i c]]) (B := N.map e3) (C := Y.map e3) (by simp) (by simp; omega) (fun e he => by
  have : e = .st [.i a,.i b,.i c] := by simpa using he
  rw [this]; rfl) cN cY
 rw [call_k lf n_impl_laidOut _ (F := F_impl_laidOut) rfl rfl]
 have gN : 0 < N.length ↔ N ≠ [] := List.length_pos_iff
 have gY : 0 < Y.length ↔ Y ≠ [] := List.length_pos_iff
 by_cases hN : N = []
 ·have pN : ¬ 0 < N.length := fun h => gN.1 h hN
  rw [if_pos hN]
  by_cases hY : Y = []
  ·have pY : ¬ 0 < Y.length := fun h => gY.1 h hY
   rw [if_pos hY]
   clear hN hY gN gY
   generalize N.map e3 = M at *
   generalize Y.map e3 = Q at *
   generalize N.length = n at *
   generalize Y.length = y at *
   simp [F_impl_laidOut,w1,w2,pN,pY,CC,lN,lY,eN,eY,aN',aY',nN,nY,if_pos cN,if_pos cY,-Int.natCast_add]
  ·have pY : 0 < Y.length := gY.2 hY
   rw [if_neg hY]
   clear hN hY gN gY
   generalize N.map e3 = M at *
   generalize Y.map e3 = Q at *
   generalize N.length = n at *
   generalize Y.length = y at *
   simp [F_impl_laidOut,w1,w2,pN,pY,CC,lN,lY,eN,eY,aN',aY',nN,nY,if_pos cN,if_pos cY,-Int.natCast_add]
 ·have pN : 0 < N.length := gN.2 hN
  rw [if_neg hN]
  by_cases hY : Y = []
  ·have pY : ¬ 0 < Y.length := fun h => gY.1 h hY
   rw [if_pos hY]
   clear hN hY gN gY
   generalize N.map e3 = M at *
   generalize Y.map e3 = Q at *
   generalize N.length = n at *
   generalize Y.length = y at *
   simp [F_impl_laidOut,w1,w2,pN,pY,CC,lN,lY,eN,eY,aN',aY',nN,nY,if_pos cN,if_pos cY,-Int.natCast_add]
  ·have pY : 0 < Y.length := gY.2 hY
   rw [if_neg hY]
   clear hN hY gN gY
   generalize N.map e3 = M at *
   generalize Y.map e3 = Q at *
   generalize N.length = n at *
   generalize Y.length = y at *
   simp [F_impl_laidOut,w1,w2,pN,pY,CC,lN,lY,eN,eY,aN',aY',nN,nY,if_pos cN,if_pos cY,-Int.natCast_add]
end
section
def pA (us : List T) (k : Nat) : Int := (us.getD k (0,0)).2
end
section
structure CS where
 c : Nat → Int
 p : Nat → Int
 q : Nat → Int
 lA : Nat → Nat → Bool
 lB : Nat → Nat → Bool
 ch : List Nat → Nat → Nat
def rk (l : Nat → Nat → Bool) (S : List Nat) (i : Nat) : Nat := S.countP fun x => l x i
def CS.inA (C : CS) (S : List Nat) (k i : Nat) : Prop := rk C.lA S i < k
def CS.inB (C : CS) (S : List Nat) (k i : Nat) : Prop := rk C.lB S i + k ≤ S.length
structure SO (D : Nat → Prop) (l : Nat → Nat → Bool) : Prop where
 asy : ∀ a b,D a → D b → l a b = true → l b a = false
 tr : ∀ a b c,D a → D b → D c → l a b = true → l b c = true → l a c = true
 tot : ∀ a b,D a → D b → a ≠ b → l a b = true ∨ l b a = true
structure CSok (C : CS) (D : Nat → Prop) : Prop where
 c0 : ∀ i,D i → 0 ≤ C.c i
 pq : ∀ i,D i → 0 ≤ C.p i ∧ 0 ≤ C.q i ∧ C.p i + C.q i = 6
 oA : SO D C.lA
 oB : SO D C.lB
 rA : ∀ i j,D i → D j → C.lA i j = true → C.c i * C.p j ≤ C.c j * C.p i
 rB : ∀ i j,D i → D j → C.lB i j = true → C.c i * C.q j ≤ C.c j * C.q i
 ch : ∀ S k,S.Nodup → (∀ x ∈ S,D x) → 1 ≤ k → k ≤ S.length → C.ch S k ∈ S ∧ C.inA S k (C.ch S k) ∧ C.inB S k (C.ch S k)
theorem rk_erase (l : Nat → Nat → Bool) {S : List Nat} {j : Nat} (hj : j ∈ S) (i : Nat) : rk l S i = rk l (S.erase j) i + if l j i = true then 1 else 0 := by
 unfold rk
 rw [(List.perm_cons_erase hj).countP_eq,List.countP_cons]
theorem rk_mono {D : Nat → Prop} {l : Nat → Nat → Bool} (h : SO D l) {S : List Nat} (hS : ∀ x ∈ S,D x) {i j : Nat} (hi : i ∈ S) (dj : D j) (hl : l i j = true) : rk l S i < rk l S j := by
 have di := hS i hi
 have a := rk_erase l hi i
 have b := rk_erase l hi j
 have ii : l i i = false := by
  cases e : l i i with
  | false => rfl
  | true => have := h.asy i i di di e; rw [e] at this; exact this
 rw [ii] at a
 rw [hl] at b
 have m : rk l (S.erase i) i ≤ rk l (S.erase i) j := List.countP_mono_left fun x hx q => h.tr x i j (hS x (List.mem_of_mem_erase hx)) di dj q hl
 simp at a b
 omega
def vR (C : CS) : Nat → List Nat → Nat → Int
 | 0,_,_ => 0
 | f + 1,S,k => if k = 0 ∨ S.length < k then 0 else 6 ^ S.length * C.c (C.ch S k) + C.p (C.ch S k) * vR C f (S.erase (C.ch S k)) (k - 1) + C.q (C.ch S k) * vR C f (S.erase (C.ch S k)) k
def CS.V (C : CS) (S : List Nat) (k : Nat) : Int := vR C S.length S k
def CS.W (C : CS) (S : List Nat) (k i : Nat) : Int := 6 ^ S.length * C.c i + C.p i * C.V (S.erase i) (k - 1) + C.q i * C.V (S.erase i) k
theorem V_step {C : CS} {D : Nat → Prop} (ok : CSok C D) {S : List Nat} (nd : S.Nodup) (hS : ∀ x ∈ S,D x) {k : Nat} (h1 : 1 ≤ k) (h2 : k ≤ S.length) : C.V S k = C.W S k (C.ch S k) := by
 have hm := (ok.ch S k nd hS h1 h2).1
 have le := List.length_erase_of_mem hm
 unfold CS.W CS.V
 rw [le]
 obtain ⟨n,hn⟩ : ∃ n,S.length = n + 1 := ⟨S.length - 1,by omega⟩
 rw [hn]
 simp only [vR]
 rw [if_neg (by omega),hn]
 rfl
end
section
variable {C : CS} {D : Nat → Prop}
theorem inA_two (ok : CSok C D) {S : List Nat} (nd : S.Nodup) (hS : ∀ x ∈ S,D x) {k i j : Nat} (hi : i ∈ S) (hj : j ∈ S) (hne : i ≠ j) (ai : C.inA S k i) (aj : C.inA S k j) : C.inA (S.erase j) (k - 1) i := by
 unfold CS.inA at *
 have e := rk_erase C.lA hj i
 rcases ok.oA.tot i j (hS i hi) (hS j hj) hne with q | q
 ·have m := rk_mono ok.oA hS hi (hS j hj) q
  rw [ok.oA.asy i j (hS i hi) (hS j hj) q] at e
  simp at e
  omega
 ·have m := rk_mono ok.oA hS hj (hS i hi) q
  rw [q] at e
  simp at e
  omega
theorem inB_two (ok : CSok C D) {S : List Nat} (nd : S.Nodup) (hS : ∀ x ∈ S,D x) {k i j : Nat} (hi : i ∈ S) (hj : j ∈ S) (hne : i ≠ j) (ai : C.inB S k i) (aj : C.inB S k j) : C.inB (S.erase j) k i := by
 unfold CS.inB at *
 have e := rk_erase C.lB hj i
 have le := List.length_erase_of_mem hj
 have pos : 0 < S.length := List.length_pos_of_mem hj
 rcases ok.oB.tot i j (hS i hi) (hS j hj) hne with q | q
 ·have m := rk_mono ok.oB hS hi (hS j hj) q
  rw [ok.oB.asy i j (hS i hi) (hS j hj) q] at e
  simp at e
  omega
 ·have m := rk_mono ok.oB hS hj (hS i hi) q
  rw [q] at e
  simp at e
  omega
theorem inA_less {S : List Nat} {k i j : Nat} (hj : j ∈ S) (ai : C.inA S k i) : C.inA (S.erase j) k i := by
 unfold CS.inA at *
 have e := rk_erase C.lA hj i
 omega
theorem inB_less {S : List Nat} {k i j : Nat} (hj : j ∈ S) (hk : 1 ≤ k) (ai : C.inB S k i) : C.inB (S.erase j) (k - 1) i := by
 unfold CS.inB at *
 have e := rk_erase C.lB hj i
 have le := List.length_erase_of_mem hj
 have pos : 0 < S.length := List.length_pos_of_mem hj
 omega
structure CM (C : CS) (D : Nat → Prop) (n : Nat) : Prop where
 E : ∀ S : List Nat,S.length = n → S.Nodup → (∀ x ∈ S,D x) → ∀ k i,1 ≤ k → k ≤ n → i ∈ S → C.inA S k i → C.inB S k i → C.V S k = C.W S k i
 L : ∀ T : List Nat,T.length = n → T.Nodup → (∀ x ∈ T,D x) → ∀ k y z,1 ≤ k → k + 1 ≤ n → y ∈ T → z ∈ T → y ≠ z → C.inA (T.erase z) k y → C.c y * C.q z ≤ C.c z * C.q y →
  (C.V (T.erase y) k - 6 * C.V ((T.erase z).erase y) (k - 1)) * C.q y ≤ (C.V (T.erase z) k - 6 * C.V ((T.erase z).erase y) (k - 1)) * C.q z + 6 ^ (n - 1) * (C.c z * C.q y - C.c y * C.q z)
 R : ∀ S : List Nat,S.length = n → S.Nodup → (∀ x ∈ S,D x) → ∀ k j,1 ≤ k → k ≤ n → j ∈ S → C.V S k ≤ C.W S k j
theorem cE (ok : CSok C D) {n : Nat} (ih : CM C D n) : ∀ S : List Nat,S.length = n + 1 → S.Nodup → (∀ x ∈ S,D x) → ∀ k i,1 ≤ k → k ≤ n + 1 → i ∈ S → C.inA S k i → C.inB S k i → C.V S k = C.W S k i := by
 intro S hl nd hS k i h1 h2 hi ai bi
 obtain ⟨m,am,bm⟩ := ok.ch S k nd hS h1 (by omega)
 rw [V_step ok nd hS h1 (by omega)]
 generalize C.ch S k = j at *
 by_cases e : i = j
 ·rw [e]
 have si := List.length_erase_of_mem hi
 have sj := List.length_erase_of_mem m
 have nde : ∀ x,(S.erase x).Nodup := fun x => nd.erase x
 have hSe : ∀ y,∀ x ∈ S.erase y,D x := fun y x hx => hS x (List.mem_of_mem_erase hx)
 have ij : i ∈ S.erase j := (List.mem_erase_of_ne e).2 hi
 have ji : j ∈ S.erase i := (List.mem_erase_of_ne (Ne.symm e)).2 m
 have a1 := inA_two ok nd hS hi m e ai am
 have a2 := inA_two ok nd hS m hi (Ne.symm e) am ai
 have b1 := inB_two ok nd hS hi m e bi bm
 have b2 := inB_two ok nd hS m hi (Ne.symm e) bm bi
 have k1 : 2 ≤ k := by unfold CS.inA at a1; omega
 have k2 : k ≤ n := by unfold CS.inB at b1; omega
 have w1 := ih.E (S.erase j) (by omega) (nde j) (hSe j) (k - 1) i (by omega) (by omega) ij a1 (inB_less m (by omega) bi)
 have w2 := ih.E (S.erase j) (by omega) (nde j) (hSe j) k i (by omega) (by omega) ij (inA_less m ai) b1
 have w3 := ih.E (S.erase i) (by omega) (nde i) (hSe i) (k - 1) j (by omega) (by omega) ji a2 (inB_less hi (by omega) bm)
 have w4 := ih.E (S.erase i) (by omega) (nde i) (hSe i) k j (by omega) (by omega) ji (inA_less hi am) b2
 have ec : (S.erase i).erase j = (S.erase j).erase i := List.erase_comm ..
 unfold CS.W at *
 rw [w1,w2,w3,w4,ec,si,sj,hl]
 have p6 : (6 : Int) ^ (n + 1) = 6 * 6 ^ (n + 1 - 1) := by rw [Nat.add_sub_cancel,Int.pow_succ,Int.mul_comm]
 rw [p6]
 have pi := (ok.pq i (hS i hi)).2.2
 have pj := (ok.pq j (hS j m)).2.2
 have qi : C.q i = 6 - C.p i := by omega
 have qj : C.q j = 6 - C.p j := by omega
 rw [qi,qj]
 generalize (6 : Int) ^ (n + 1 - 1) = X
 generalize C.V ((S.erase j).erase i) (k - 1 - 1) = v1
 generalize C.V ((S.erase j).erase i) (k - 1) = v2
 generalize C.V ((S.erase j).erase i) k = v3
 grind
end
section
def tltA (us : List T) (a b : Nat) : Bool := decide (cA us a * pA us b < cA us b * pA us a ∨ cA us b * pA us a = cA us a * pA us b ∧ a < b)
def tltB (us : List T) (a b : Nat) : Bool := decide (cA us a * (6 - pA us b) < cA us b * (6 - pA us a) ∨ cA us b * (6 - pA us a) = cA us a * (6 - pA us b) ∧ a < b)
def bothL (us : List T) (S : List Nat) (k : Nat) : List Nat := S.filter fun i => decide (rk (tltA us) S i < k) && decide (rk (tltB us) S i + k ≤ S.length)
def cs (us : List T) : CS := ⟨cA us,pA us,fun i => 6 - pA us i,tltA us,tltB us,fun S k => (bothL us S k).headD 0⟩
end
section
def unk (m : Nat) (ks : List Int) : List Nat := (List.range m).filter fun k => ks[k]? == some (-1)
end
section
def stpF (so n a k : Nat) : Nat := if pc a < n ∧ so.testBit k = true then a ||| 2 ^ k else a
def fF (so n : Nat) (l : List Nat) : Nat := l.foldl (stpF so n) 0
def Sl (m so : Nat) : List Nat := (List.range m).filter fun k => so.testBit k
def nx (us : List T) (so k : Nat) : Nat := (cs us).ch (Sl us.length so) k
end
section
attribute [-simp] DV.cells sliceD
attribute [local simp] cells_st cells_sl cells_i cells_y cells_b cells_s cells_w
def hb : Nat → Nat → Nat
 | 0,_ => 0
 | f + 1,n => n % 2 + hb f (n / 2)
def ctOk (us : List T) (k : Int) : Bool := tsOk us && decide (1 ≤ k ∧ k ≤ us.length)
end
section
attribute [-simp] DV.cells
attribute [local simp] sliceD cells_st cells_sl cells_i cells_y cells_b cells_s cells_w
attribute [local simp] lend_e3 adopt_e3 new_e3 al_e3 lt_e3
theorem c_l20Planned {bs : List Nat} (hb : ∀ y ∈ bs,y < 256) (hl : bs.length ≤ 2000) {n : Int} (hn : 1 ≤ n) (hn2 : n ≤ 100000) :
  ∃ (m : Nat) (t : List T) (P : List C3) (q : Int),m ≤ 5 ∧ t.length ≤ 12 ∧ P.length ≤ 32 ∧ (0 ≤ q ∧ q ≤ 120) ∧
   call lf n_spec_l20Planned [.ref (.st [.sl 0 (bs.map .y),.i 0]),.i n] = some (.tup [.i m,.sl 1 (t.map e2),.fr 3 (P.map e3)],[.st [.sl 2 (bs.map .y),.i q]]) := by
 obtain ⟨us,t,P,p,q,u1,t1,l1,q1,h,h2⟩ := drawn_plan hb hl hn hn2
 refine ⟨us.length,t,P,q,u1,t1,l1,q1,?_⟩
 have tk := tk_e3 P
 rw [call_k lf n_spec_l20Planned _ (F := F_spec_l20Planned) rfl rfl]
 simp [F_spec_l20Planned,h,h2,tk]
theorem c_spec_PlanText_any {m : Nat} {t : List T} {P : List C3} (hb : (t.length : Int) < 1099511627776) (hN : (P.length : Int) < 1099511627776) : ∃ S : List UInt8,S.length ≤ 156 ∧ call lf n_spec_PlanText [.i m,.sl 0 (t.map e2),.sl 0 (P.map e3)] = some (.s S,[]) := by
 by_cases h : pkOk m t P = true
 ·have few := pkOk_few h
  obtain ⟨ht,L,hL⟩ := pk_iff.1 h
  refine ⟨_,?_,c_spec_PlanText hb ht hL⟩
  rw [ptx_len,er_size,hL.sz]
  omega
 ·rw [Bool.not_eq_true] at h
  exact ⟨[],by simp,c_spec_PlanText_no hb hN h⟩
def sevn : List (List UInt8) := [[],[40],[41],[44],[48],[49],[97],[98,40,48,44,49,41]]
set_option maxHeartbeats 4000000 in
theorem c_DrawReadPlan {bs : List Nat} (hb : ∀ y ∈ bs,y < 256) (hl : bs.length ≤ 1048576) :
  ∃ (m : Nat) (t : List T) (S : List UInt8),m ≤ 5 ∧ t.length ≤ 12 ∧ S.length ≤ 200 ∧ call lf n_spec_DrawReadPlan [.sl 0 (bs.map .y)] = some (.tup [.i m,.sl 1 (t.map e2),.s S],[]) := by
 obtain ⟨c1,c2⟩ := take_b hb
 have o := c_open hl
 generalize bs.take 2000 = cs at *
 obtain ⟨m,t,P,q,u1,t1,l1,q1,h⟩ := c_l20Planned c1 c2 (n := 30) (by omega) (by omega)
 obtain ⟨S,s1,C⟩ := c_spec_PlanText_any (m := m) (t := t) (P := P) (by omega) (by omega)
 have tk := tk_e3 P
 have lE := lend_e3 P
 have aE := fun o => adopt_e3 o P
 have ll : (P.map e3).length = P.length := by simp
 have k1 := c_pick c1 c2 (p := q) (n := 3) (by omega) (by omega) (by omega)
 have a1 := pk_bound c1 (p := q) (n := 3) (by omega) (by omega) (by omega)
 generalize pk cs q 3 = v1 at *
 by_cases g : v1 = 0 ∧ 0 < S.length
 ·obtain ⟨rfl,g⟩ := g
  have g' : 0 < (S.length : Int) := by omega
  have k2 := c_pick c1 c2 (p := q + 1) (n := (S.length : Int)) (by omega) (by omega) (by omega)
  have a2 := pk_bound c1 (p := q + 1) (n := (S.length : Int)) (by omega) (by omega) (by omega)
  have k3 := c_pick c1 c2 (p := q + 1 + 1) (n := 8) (by omega) (by omega) (by omega)
  have a3 := pk_bound c1 (p := q + 1 + 1) (n := 8) (by omega) (by omega) (by omega)
  have k4 := c_pick c1 c2 (p := q + 1 + 1 + 1) (n := 2) (by omega) (by omega) (by omega)
  have a4 := pk_bound c1 (p := q + 1 + 1 + 1) (n := 2) (by omega) (by omega) (by omega)
  generalize pk cs (q + 1) (S.length : Int) = v2 at *
  generalize pk cs (q + 1 + 1) 8 = v3 at *
  generalize pk cs (q + 1 + 1 + 1) 2 = v4 at *
  obtain ⟨w2,rfl⟩ : ∃ w : Nat,v2 = w := ⟨v2.toNat,by omega⟩
  obtain ⟨w3,rfl⟩ : ∃ w : Nat,v3 = w := ⟨v3.toNat,by omega⟩
  obtain ⟨w4,rfl⟩ : ∃ w : Nat,v4 = w := ⟨v4.toNat,by omega⟩
  have x3 : w3 = 0 ∨ w3 = 1 ∨ w3 = 2 ∨ w3 = 3 ∨ w3 = 4 ∨ w3 = 5 ∨ w3 = 6 ∨ w3 = 7 := by omega
  have wa : wr ((w2 : Int) + w4) = ((w2 + w4 : Nat) : Int) := by rw [wr_id (by omega) (by omega)]; omega
  have b0 : (w2 : Int) ≤ S.length := by omega
  have b1 : w2 ≤ S.length := by omega
  have b2 : ((w2 + w4 : Nat) : Int) ≤ S.length := by omega
  have b3 : w2 + w4 ≤ S.length := by omega
  have d0 : w2 ≤ bound := by unfold bound; omega
  have d1 : w2 + 1 ≤ bound := by unfold bound; omega
  have d2 : w2 + 6 ≤ bound := by unfold bound; omega
  have d3 : w2 + (S.length - (w2 + w4)) ≤ bound := by unfold bound; omega
  have d4 : w2 + 1 + (S.length - (w2 + w4)) ≤ bound := by unfold bound; omega
  have d5 : w2 + (S.length - (w2 + w4) + 1) ≤ bound := by unfold bound; omega
  have d6 : w2 + 6 + (S.length - (w2 + w4)) ≤ bound := by unfold bound; omega
  have d7 : w2 + (S.length - (w2 + w4) + 1 + 1 + 1 + 1 + 1 + 1) ≤ bound := by unfold bound; omega
  refine ⟨m,t,S.take w2 ++ sevn[w3]! ++ S.drop (w2 + w4),u1,t1,?_,?_⟩
  ·rcases x3 with rfl | rfl | rfl | rfl | rfl | rfl | rfl | rfl <;> simp [sevn] <;> omega
  ·rw [call_k lf n_spec_DrawReadPlan _ (F := F_spec_DrawReadPlan) rfl rfl]
   generalize P.map e3 = E at *
   rcases x3 with rfl | rfl | rfl | rfl | rfl | rfl | rfl | rfl <;>
   simp [F_spec_DrawReadPlan,o,h,tk,lE,aE,ll,C,k1,k2,k3,k4,g,g',wa,b0,b1,b2,b3,d0,d1,d2,d3,d4,d5,d6,d7,sevn,-Int.natCast_add]
 ·refine ⟨m,t,S,u1,t1,by omega,?_⟩
  rw [call_k lf n_spec_DrawReadPlan _ (F := F_spec_DrawReadPlan) rfl rfl]
  generalize P.map e3 = E at *
  by_cases g1 : v1 = 0
  ·have g2 : S = [] := by
    cases S with
    | nil => rfl
    | cons a b => exact absurd ⟨g1,by simp⟩ g
   subst g1 g2
   simp [F_spec_DrawReadPlan,o,h,tk,lE,aE,ll,C,k1]
  ·have g2 : (v1 == 0) = false := beq_false_of_ne g1
   simp [F_spec_DrawReadPlan,o,h,tk,lE,aE,ll,C,k1,g1,g2]
end
section
attribute [-simp] DV.cells sliceD
attribute [local simp] cells_st cells_sl cells_i cells_y cells_b cells_s cells_w
attribute [local simp] lend_e3 adopt_e3 new_e3 al_e3 lt_e3
theorem c_impl_writeValue (b : Bool) : call lf n_impl_writeValue [.i (bI b)] = some (.s [dgt (bI b)],[]) := by
 have v0 : wr 48 = 48 := wr_id (by omega) (by omega)
 have v1 : wr 49 = 49 := wr_id (by omega) (by omega)
 have i0 : Go.IntKind.i32.wrap 48 = 48 ∧ Go.IntKind.i32.wrap 49 = 49 := by decide
 rw [call_k lf n_impl_writeValue _ (F := F_impl_writeValue) rfl rfl]
 cases b <;> simp [F_impl_writeValue,bI,v0,v1,i0,dgt]
theorem c_impl_writeChoice {k : Nat} (hk : k < 5) {A B : List UInt8} (ha : A.length ≤ 100000) (hb : B.length ≤ 100000) : call lf n_impl_writeChoice [.i k,.s A,.s B] = some (.s (ltr k :: 40 :: (A ++ 44 :: (B ++ [41]))),[]) := by
 have C := c_impl_letterOf (a := k) ⟨by omega,by omega⟩
 have e : ((97 : Int) + k).toNat.toUInt8 = ltr k := by
  unfold ltr
  rw [show ((97 : Int) + k).toNat = 97 + k by omega]
 rw [e] at C
 have b0 : 2 ≤ bound := by unfold bound; omega
 have b1 : 2 + A.length ≤ bound := by unfold bound; omega
 have b2 : 2 + (A.length + 1) ≤ bound := by unfold bound; omega
 have b3 : A.length + 1 + 1 ≤ bound := by unfold bound; omega
 have b4 : A.length + 1 + 1 + 1 ≤ bound := by unfold bound; omega
 have b5 : A.length + (B.length + 1) + 1 + 1 ≤ bound := by unfold bound; omega
 have b6 : A.length + (B.length + 1 + 1) + 1 + 1 ≤ bound := by unfold bound; omega
 have b8 : A.length + 1 + 1 + 1 + B.length ≤ bound := by unfold bound; omega
 have b7 : A.length + (B.length + 1) + 1 + 1 + 1 ≤ bound := by unfold bound; omega
 rw [call_k lf n_impl_writeChoice _ (F := F_impl_writeChoice) rfl rfl]
 generalize ltr k = l at *
 simp [F_impl_writeChoice,C,b0,b1,b2,b3,b4,b5,b6,b7,b8]
set_option maxHeartbeats 4000000 in
theorem c_foldPlan_string {m : Nat} (hm : m ≤ 5) {t : List T} (ht : tmOk m t = true) {P : List C3} (hP : P.length ≤ 40) : ∀ (L : LT) (a : Int) (ks : List Int),ks.length = m → ks.all kOk = true → enc P a L → okT m t ks L.er → L.size ≤ 40 →
  call lf n_impl_foldPlan_string [.sl 0 (P.map e3),.i a,pD m t ks,.fn n_impl_writeValue [],.fn n_impl_writeChoice []] = some (.s (ptx m t ks L.er),[])
 | .stop,a,ks,hl,hk,he,ho,_ => by
  have he : a = -1 := he
  subst he
  have C3 := c_value (t := t) ht hl hk
  obtain ⟨b,e,_⟩ := fcd_val hl hk ho
  rw [e] at C3
  have C1 := c_impl_writeValue b
  rw [call_k lf n_impl_foldPlan_string _ (F := F_impl_foldPlan_string) rfl rfl]
  simp only [LT.er,ptx,e]
  unfold pD pv at *
  generalize aN ks = x at *
  generalize lfW ks = y at *
  simp [F_impl_foldPlan_string,C3,C1]
 | .ask p k n y,a,ks,hl,hk,⟨e,no,ye,g1,g2,g3,g4,g5⟩,⟨o1,o2,o3,o4⟩,hz => by
  subst e
  simp only [LT.size] at hz
  have G0 := c_foldPlan_string hm ht hP n no (ks.set k (bI false)) (by simpa using hl) (kOk_set hk k false) g4 (by rw [bI_0]; exact o3) (by omega)
  have G1 := c_foldPlan_string hm ht hP y ye (ks.set k (bI true)) (by simpa using hl) (kOk_set hk k true) g5 (by rw [bI_1]; exact o4) (by omega)
  have kk : k < ks.length := (List.getElem?_eq_some_iff.1 o2).1
  have pp : p < P.length := (List.getElem?_eq_some_iff.1 g1).1
  have B0 := c_answered (m := m) (t := t) false (by omega) hk o2
  have B1 := c_answered (m := m) (t := t) true (by omega) hk o2
  rw [bI_0] at G0 B0
  rw [bI_1] at G1 B1
  have pc : (p : Int) < P.length := by omega
  have AT := at_e3 g1
  have AN := atN_e3 g1
  simp only at AT AN
  have pn : ((p : Int) == -1) = false := beq_eq_false_iff_ne.2 (by omega)
  have l0 := ptx_len m t n.er (ks.set k 0)
  have l1 := ptx_len m t y.er (ks.set k 1)
  rw [er_size] at l0 l1
  have W := c_impl_writeChoice (k := k) (by omega) (A := ptx m t (ks.set k 0) n.er) (B := ptx m t (ks.set k 1) y.er) (by omega) (by omega)
  have lE := lend_e3 P
  have lm : (P.map e3).length = P.length := by simp
  rw [call_k lf n_impl_foldPlan_string _ (F := F_impl_foldPlan_string) rfl rfl]
  simp only [LT.er,ptx]
  generalize ltr k :: 40 :: (ptx m t (ks.set k 0) n.er ++ 44 :: (ptx m t (ks.set k 1) y.er ++ [41])) = R at *
  generalize ptx m t (ks.set k 0) n.er = S0 at *
  generalize ptx m t (ks.set k 1) y.er = S1 at *
  unfold pD pv at *
  generalize aN (ks.set k 0) = x0 at *
  generalize lfW (ks.set k 0) = y0 at *
  generalize aN (ks.set k 1) = x1 at *
  generalize lfW (ks.set k 1) = y1 at *
  generalize aN ks = x at *
  generalize lfW ks = y at *
  generalize P.map e3 = E at *
  simp [F_impl_foldPlan_string,pn,AT,AN,pp,pc,lE,lm,B0,B1,G0,G1,W]
theorem c_impl_PlanText {m : Nat} {t : List T} {P : List C3} {L : LT} (hb : (t.length : Int) < 1099511627776) (ht : tmOk m t = true) (h : isPl m t P L) : call lf n_impl_PlanText [.i m,.sl 0 (t.map e2),.sl 0 (P.map e3)] = some (.s (ptx m t (non m) L.er),[]) := by
 obtain ⟨g3,g4,_⟩ := tmOk_iff.1 ht
 have few := h.few
 have C1 := c_impl_PlanOk (m := m) hb (P := P) (by omega)
 rw [pk_iff.2 ⟨ht,L,h⟩] at C1
 have C2 := c_firstOf P (by omega)
 have C3 := c_startOf (t := t) (m := m) (by omega) ht
 have C4 := c_foldPlan_string (m := m) (by omega) ht (P := P) (by omega) L (rot P) (non m) (non_len _) (non_all _) h.e h.ok (by rw [h.sz]; omega)
 have hLE := lend_e3 P
 have l2 := lend_e2 t
 rw [call_k lf n_impl_PlanText _ (F := F_impl_PlanText) rfl rfl]
 generalize ptx m t (non m) L.er = S at *
 unfold pD pv at *
 generalize P.map e3 = E at *
 simp [F_impl_PlanText,C1,C2,C3,C4,hLE]
theorem c_impl_PlanText_no {m : Int} {t : List T} {P : List C3} (hb : (t.length : Int) < 1099511627776) (hN : (P.length : Int) < 1099511627776) (h : pkOk m t P = false) : call lf n_impl_PlanText [.i m,.sl 0 (t.map e2),.sl 0 (P.map e3)] = some (.s [],[]) := by
 have C1 := c_impl_PlanOk (m := m) hb hN
 rw [h] at C1
 rw [call_k lf n_impl_PlanText _ (F := F_impl_PlanText) rfl rfl]
 simp [F_impl_PlanText,C1]
theorem c_HasPrefix (s : List UInt8) (c : UInt8) : call lf n_internal_stringslite_HasPrefix [.s s,.s [c]] = some (.b (decide (s.head? = some c)),[]) := by
 rw [call_k lf n_internal_stringslite_HasPrefix _ (F := F_internal_stringslite_HasPrefix) rfl rfl]
 cases s with
 | nil => simp [F_internal_stringslite_HasPrefix]
 | cons b r =>
  have l1 : 1 ≤ (r.length : Int) + 1 := by omega
  simp only [List.head?_cons,Option.some.injEq]
  by_cases e : b = c
  ·subst e
   simp [F_internal_stringslite_HasPrefix,l1]
  ·simp [F_internal_stringslite_HasPrefix,l1,e]
theorem c_CutPrefix (s : List UInt8) (c : UInt8) : call lf n_strings_CutPrefix [.s s,.s [c]] = some (if s.head? = some c then .tup [.s s.tail,.b true] else .tup [.s s,.b false],[]) := by
 have H := c_HasPrefix s c
 have C : call lf n_internal_stringslite_CutPrefix [.s s,.s [c]] = some (if s.head? = some c then .tup [.s s.tail,.b true] else .tup [.s s,.b false],[]) := by
  rw [call_k lf n_internal_stringslite_CutPrefix _ (F := F_internal_stringslite_CutPrefix) rfl rfl]
  by_cases h : s.head? = some c
  ·rw [decide_eq_true h] at H
   rw [if_pos h]
   cases s with
   | nil => cases h
   | cons b r =>
    have l1 : 1 ≤ (r.length : Int) + 1 := by omega
    simp [F_internal_stringslite_CutPrefix,H,l1]
  ·rw [decide_eq_false h] at H
   rw [if_neg h]
   simp [F_internal_stringslite_CutPrefix,H]
 rw [call_k lf n_strings_CutPrefix _ (F := F_strings_CutPrefix) rfl rfl]
 by_cases h : s.head? = some c
 ·rw [if_pos h] at C ⊢
  simp [F_strings_CutPrefix,C]
 ·rw [if_neg h] at C ⊢
  simp [F_strings_CutPrefix,C]
def enR : Option (List C3 × List UInt8) → DV
 | none => .tup [.fr 3 [],.s [],.b false]
 | some (P,r) => .tup [.fr 3 (P.map e3),.s r,.b true]
theorem c_readBehind (c : UInt8) (s : List UInt8) (place : Nat) (o : Option (List C3 × List UInt8)) (H : s.head? = some c → call lf n_impl_readChoices [.s s.tail,.i place] = some (enR o,[])) :
  call lf n_impl_readBehind [.s [c],.s s,.i place] = some (enR (if s.head? = some c then o else none),[]) := by
 have C := c_CutPrefix s c
 rw [call_k lf n_impl_readBehind _ (F := F_impl_readBehind) rfl rfl]
 by_cases h : s.head? = some c
 ·rw [if_pos h] at C ⊢
  have H := H h
  cases o with
  | none =>
   simp only [enR] at H ⊢
   simp [F_impl_readBehind,C,H]
  | some q =>
   obtain ⟨P,r⟩ := q
   simp only [enR] at H ⊢
   have lP : (P.map e3).length = P.length := by simp
   have aP := fun x => adopt_e3 x P
   have tk := tk_e3 P
   generalize P.map e3 = E at *
   simp [F_impl_readBehind,C,H,lP,aP,tk]
 ·rw [if_neg h] at C ⊢
  simp only [enR]
  simp [F_impl_readBehind,C]
def rdS (b : UInt8) (place : Nat) (o1 : Option (List C3 × List UInt8)) (o2 : List C3 → List UInt8 → Option (List C3 × List UInt8)) : Option (List C3 × List UInt8) := match o1 with
 | none => none
 | some (N,r2) => match o2 N r2 with
  | none => none
  | some (Y,r4) => if r4.head? = some 41 then some (layI ((b.toNat : Int) - 97) place N Y,r4.tail) else none
set_option maxHeartbeats 4000000 in
theorem c_readChoices_step {b : UInt8} {r : List UInt8} {place : Nat} (hb : ¬ (b = 48 ∨ b = 49)) (hp : place + r.length ≤ 900) (o1 : Option (List C3 × List UInt8)) (o2 : List C3 → List UInt8 → Option (List C3 × List UInt8))
  (C1 : call lf n_impl_readBehind [.s [40],.s r,.i ((place + 1 : Nat) : Int)] = some (enR o1,[]))
  (C0 : call lf n_impl_readBehind [.s [44],.s [],.i ((place + 1 : Nat) : Int)] = some (enR none,[]))
  (C2 : ∀ N r2,o1 = some (N,r2) → N.length + r2.length ≤ r.length ∧ call lf n_impl_readBehind [.s [44],.s r2,.i ((place + 1 + N.length : Nat) : Int)] = some (enR (o2 N r2),[]))
  (C3 : ∀ N r2 Y r4,o1 = some (N,r2) → o2 N r2 = some (Y,r4) → Y.length + r4.length ≤ r2.length) :
  call lf n_impl_readChoices [.s (b :: r),.i place] = some (enR (rdS b place o1 o2),[]) := by
 have w1 : wr ((place : Int) + 1) = ((place + 1 : Nat) : Int) := by rw [wr_id (by omega) (by omega)]; omega
 have b0 : (b.toNat == 48) = false := beq_eq_false_iff_ne.2 (fun q => hb (.inl (UInt8.toNat_inj.1 (by simpa using q))))
 have b1 : (b.toNat == 49) = false := beq_eq_false_iff_ne.2 (fun q => hb (.inr (UInt8.toNat_inj.1 (by simpa using q))))
 have l1 : 1 ≤ ((r.length + 1 : Nat) : Int) := by omega
 have K0 := c_CutPrefix [] 41
 simp only [List.head?_nil,reduceCtorEq,if_false] at K0
 rw [call_k lf n_impl_readChoices _ (F := F_impl_readChoices) rfl rfl]
 cases o1 with
 | none =>
  simp only [enR,rdS] at C1 C0 ⊢
  have w2 : wr ((place + 1 : Nat) : Int) = ((place + 1 : Nat) : Int) := wr_id (by omega) (by omega)
  simp [F_impl_readChoices,b0,b1,l1,w1,w2,C1,C0,K0,-Int.natCast_add]
 | some q =>
  obtain ⟨N,r2⟩ := q
  obtain ⟨z1,C2⟩ := C2 N r2 rfl
  have w2 : wr (((place + 1 : Nat) : Int) + (N.length : Int)) = ((place + 1 + N.length : Nat) : Int) := by rw [wr_id (by omega) (by omega)]; omega
  have lN : (N.map e3).length = N.length := by simp
  have aN' := fun x => adopt_e3 x N
  have eN := lend_e3 N
  have tN : List.take N.length (N.map e3) = N.map e3 := List.take_of_length_le (by simp)
  simp only [rdS]
  cases h2 : o2 N r2 with
  | none =>
   rw [h2] at C2
   simp only [enR] at C1 C2 ⊢
   generalize N.map e3 = M at *
   generalize N.length = n at *
   simp [F_impl_readChoices,b0,b1,l1,w1,w2,C1,C2,K0,lN,aN',eN,tN,-Int.natCast_add]
  | some q =>
   obtain ⟨Y,r4⟩ := q
   have z2 := C3 N r2 Y r4 rfl h2
   rw [h2] at C2
   simp only [enR] at C1 C2 ⊢
   have K4 := c_CutPrefix r4 41
   have lY : (Y.map e3).length = Y.length := by simp
   have aY' := fun x => adopt_e3 x Y
   have eY := lend_e3 Y
   have tY : List.take Y.length (Y.map e3) = Y.map e3 := List.take_of_length_le (by simp)
   by_cases h4 : r4.head? = some 41
   ·rw [if_pos h4] at K4 ⊢
    have P := c_impl_placeOf b
    have LO := c_impl_laidOut ((b.toNat : Int) - 97) (place := place) (N := N) (Y := Y) (by omega)
    have fin : (layI ((b.toNat : Int) - 97) place N Y).map e3 = [.st [.i ((b.toNat : Int) - 97),.i (if N = [] then -1 else ((place + 1 : Nat) : Int)),.i (if Y = [] then -1 else ((place + 1 + N.length : Nat) : Int))]] ++ N.map e3 ++ Y.map e3 := by
     unfold layI
     simp [e3]
    rw [← fin] at LO
    clear fin
    have nL := new_e3 (layI ((b.toNat : Int) - 97) place N Y)
    have aL := fun x => adopt_e3 x (layI ((b.toNat : Int) - 97) place N Y)
    have lL : ((layI ((b.toNat : Int) - 97) place N Y).map e3).length = (layI ((b.toNat : Int) - 97) place N Y).length := by simp
    have tL : List.take (layI ((b.toNat : Int) - 97) place N Y).length ((layI ((b.toNat : Int) - 97) place N Y).map e3) = (layI ((b.toNat : Int) - 97) place N Y).map e3 := List.take_of_length_le (by simp)
    simp only
    generalize (layI ((b.toNat : Int) - 97) place N Y).map e3 = R at *
    generalize (layI ((b.toNat : Int) - 97) place N Y).length = lr at *
    generalize N.map e3 = M at *
    generalize Y.map e3 = Q at *
    generalize N.length = n at *
    generalize Y.length = y at *
    simp [F_impl_readChoices,b0,b1,l1,w1,w2,C1,C2,K4,P,LO,lN,aN',eN,tN,lY,aY',eY,tY,nL,aL,lL,tL,-Int.natCast_add]
   ·rw [if_neg h4] at K4 ⊢
    simp only
    generalize N.map e3 = M at *
    generalize Y.map e3 = Q at *
    generalize N.length = n at *
    generalize Y.length = y at *
    simp [F_impl_readChoices,b0,b1,l1,w1,w2,C1,C2,K4,lN,aN',eN,tN,lY,aY',eY,tY,-Int.natCast_add]
theorem rdC_step {f place : Nat} {b : UInt8} {r : List UInt8} (hb : ¬ (b = 48 ∨ b = 49)) : rdC (f + 1) place (b :: r) = rdS b place (if r.head? = some 40 then rdC f (place + 1) r.tail else none) (fun N r2 => if r2.head? = some 44 then rdC f (place + 1 + N.length) r2.tail else none) := by
 simp only [rdC,rdS]
 rw [if_neg hb]
 by_cases h : r.head? = some 40
 ·rw [if_neg (fun q => q h),if_pos h]
  cases rdC f (place + 1) r.tail with
  | none => rfl
  | some q =>
   obtain ⟨N,r2⟩ := q
   simp only
   by_cases h2 : r2.head? = some 44
   ·rw [if_neg (fun q => q h2),if_pos h2]
    cases rdC f (place + 1 + N.length) r2.tail with
    | none => rfl
    | some q =>
     obtain ⟨Y,r4⟩ := q
     simp only
     by_cases h3 : r4.head? = some 41
     ·rw [if_neg (fun q => q h3),if_pos h3]
     ·rw [if_pos h3,if_neg h3]
   ·rw [if_pos h2,if_neg h2]
 ·rw [if_pos h,if_neg h]
theorem tail_of {l : List UInt8} {v : UInt8} (h : l.head? = some v) : l.tail.length + 1 = l.length := by
 cases l with
 | nil => cases h
 | cons a l => rfl
theorem c_readChoices : ∀ (f : Nat) (s : List UInt8) (place : Nat),s.length < f → place + s.length ≤ 900 → call lf n_impl_readChoices [.s s,.i place] = some (enR (rdC f place s),[])
 | 0,_,_,h,_ => absurd h (Nat.not_lt_zero _)
 | f + 1,[],place,_,_ => by
  rw [call_k lf n_impl_readChoices _ (F := F_impl_readChoices) rfl rfl]
  simp [F_impl_readChoices,rdC,enR]
 | f + 1,b :: r,place,hf,hp => by
  simp only [List.length_cons] at hf hp
  by_cases hb : b = 48 ∨ b = 49
  ·have l1 : 1 ≤ (r.length : Int) + 1 := by omega
   have e : rdC (f + 1) place (b :: r) = some ([],r) := by
    simp only [rdC]
    rw [if_pos hb]
   rw [e]
   rw [call_k lf n_impl_readChoices _ (F := F_impl_readChoices) rfl rfl]
   rcases hb with rfl | rfl <;> simp [F_impl_readChoices,l1,enR]
  ·rw [rdC_step hb]
   refine c_readChoices_step hb (by omega) _ _ (c_readBehind 40 r (place + 1) _ (fun h => ?_)) (by
    have := c_readBehind 44 [] (place + 1) none (fun h => by cases h)
    simpa using this) (fun N r2 h => ?_) (fun N r2 Y r4 h1 h2 => ?_)
   ·have := tail_of h
    exact c_readChoices f r.tail (place + 1) (by omega) (by omega)
   ·have z : N.length + r2.length ≤ r.length ∧ N.length + r2.length + 1 ≤ r.tail.length := by
     split at h
     ·rename_i q
      have := tail_of q
      have := rdC_few _ _ _ _ _ h
      omega
     ·cases h
    refine ⟨z.1,c_readBehind 44 r2 (place + 1 + N.length) _ (fun q => ?_)⟩
    have l := tail_of q
    have l2 : r.tail.length ≤ r.length := by simp
    exact c_readChoices f r2.tail (place + 1 + N.length) (by omega) (by omega)
   ·split at h2
    ·rename_i q
     have := tail_of q
     have := rdC_few _ _ _ _ _ h2
     omega
    ·cases h2
theorem rpl_C {m : Int} {t : List T} {s : List UInt8} {x : PT} (h : rpl m.toNat t s = some x) : tmOk m t = true ∧ m.toNat ≤ 5 ∧ ((m.toNat : Nat) : Int) = m ∧ okT m.toNat t (non m.toNat) x ∧ ptx m.toNat t (non m.toNat) x = s ∧ rdC (s.length + 1) 0 s = some (ser x 0,[]) := by
 have h' := h
 unfold rpl at h'
 split at h'
 ·cases h'
 split at h'
 ·split at h'
  ·next q =>
   have ht := pkOk_tm q.1
   obtain ⟨g1,_,_⟩ := tmOk_iff.1 ht
   have mm : ((m.toNat : Nat) : Int) = m := by omega
   have m5 : m.toNat ≤ 5 := by omega
   obtain ⟨a1,a2,a3⟩ := rpl_to m5 h
   rw [mm] at a1
   have l := okT_lt m5 x _ (non_len _) a2
   have n := ptx_len m.toNat t x (non m.toNat)
   rw [a3] at n
   have r := rdC_ptx (m := m.toNat) (t := t) x (non m.toNat) (s.length + 1) 0 [] l (by omega)
   rw [List.append_nil,a3] at r
   exact ⟨a1,m5,mm,a2,a3,r⟩
  ·cases h'
 ·cases h'
theorem rq_no {s : List UInt8} {m : Int} {t : List T} (hs : s.length ≤ 400) (o : Option (List C3 × List UInt8)) (C : call lf n_impl_readChoices [.s s,.i 0] = some (enR o,[])) (h : ∀ P,o ≠ some (P,[])) :
  call lf n_impl_ReadPlan [.i m,.sl 0 (t.map e2),.s s] = some (rpV none,[]) := by
 have hs' : ¬ (400 < (s.length : Int)) := by omega
 rw [call_k lf n_impl_ReadPlan _ (F := F_impl_ReadPlan) rfl rfl]
 cases o with
 | none =>
  simp only [enR] at C
  simp [F_impl_ReadPlan,hs',C,rpV]
 | some q =>
  obtain ⟨P,r⟩ := q
  cases r with
  | nil => exact absurd rfl (h P)
  | cons b r =>
   simp only [enR] at C
   have lP : (P.map e3).length = P.length := by simp
   have aP := fun x => adopt_e3 x P
   have tk := tk_e3 P
   generalize P.map e3 = E at *
   simp [F_impl_ReadPlan,hs',C,rpV,lP,aP,tk]
theorem rq_yes {s : List UInt8} {m : Int} {t : List T} {P : List C3} (hs : s.length ≤ 400) (C : call lf n_impl_readChoices [.s s,.i 0] = some (enR (some (P,[])),[])) {S : List UInt8} (CT : call lf n_impl_PlanText [.i m,.sl 0 (t.map e2),.sl 0 (P.map e3)] = some (.s S,[])) :
  call lf n_impl_ReadPlan [.i m,.sl 0 (t.map e2),.s s] = some (if S = s then .tup [.fr 3 (P.map e3),.b true] else rpV none,[]) := by
 have hs' : ¬ (400 < (s.length : Int)) := by omega
 simp only [enR] at C
 have lP : (P.map e3).length = P.length := by simp
 have aP := fun x => adopt_e3 x P
 have eP := lend_e3 P
 have tk := tk_e3 P
 rw [call_k lf n_impl_ReadPlan _ (F := F_impl_ReadPlan) rfl rfl]
 generalize P.map e3 = E at *
 by_cases e : S = s
 ·subst e
  simp [F_impl_ReadPlan,hs',C,CT,lP,aP,eP,tk]
 ·have e' : (S == s) = false := beq_false_of_ne e
  simp [F_impl_ReadPlan,hs',C,CT,lP,aP,eP,tk,e,e',rpV]
theorem c_impl_ReadPlan {m : Int} {t : List T} (hb : (t.length : Int) < 1099511627776) (s : List UInt8) :
  call lf n_impl_ReadPlan [.i m,.sl 0 (t.map e2),.s s] = some (rpV (rpl m.toNat t s),[]) := by
 by_cases hs : 400 < s.length
 ·have e : rpl m.toNat t s = none := by unfold rpl; rw [if_pos hs]
  have hs' : 400 < (s.length : Int) := by omega
  rw [e,call_k lf n_impl_ReadPlan _ (F := F_impl_ReadPlan) rfl rfl]
  simp [F_impl_ReadPlan,hs',rpV]
 ·have hs' : s.length ≤ 400 := by omega
  have C := c_readChoices (s.length + 1) s 0 (by omega) (by omega)
  by_cases hP : ∃ P,rdC (s.length + 1) 0 s = some (P,[])
  ·obtain ⟨P,e⟩ := hP
   rw [e] at C
   have few := rdC_few _ _ _ _ _ e
   by_cases hp : pkOk m t P = true
   ·have ht := pkOk_tm hp
    obtain ⟨mm,m5⟩ := tm_nat ht
    have ht' := ht
    have hp' := hp
    rw [← mm] at ht' hp'
    obtain ⟨_,L,hL⟩ := pk_iff.1 hp'
    have CT := c_impl_PlanText hb ht' hL
    rw [mm] at CT
    rw [rq_yes hs' C CT]
    by_cases g : ptx m.toNat t (non m.toNat) L.er = s
    ·rw [if_pos g]
     have r := rpl_of m5 ht' hL.ok
     rw [g] at r
     obtain ⟨_,_,_,_,_,q⟩ := rpl_C r
     rw [e] at q
     injection q with q
     simp only [Prod.mk.injEq,and_true] at q
     rw [r,q]
     rfl
    ·rw [if_neg g]
     cases hr : rpl m.toNat t s with
     | none => rfl
     | some x =>
      exfalso
      obtain ⟨a1,a2,a3,a4,a5,a6⟩ := rpl_C hr
      rw [e] at a6
      injection a6 with a6
      simp only [Prod.mk.injEq,and_true] at a6
      have CT2 := c_impl_PlanText hb ht' (ser_pl m5 a4)
      rw [mm,lab_er,a5,← a6,CT] at CT2
      simp only [Option.some.injEq,Prod.mk.injEq,DV.s.injEq,and_true] at CT2
      exact g CT2
   ·have CT := c_impl_PlanText_no (m := m) (t := t) (P := P) hb (by omega) (by simpa using hp)
    rw [rq_yes hs' C CT]
    have g : ¬ ([] : List UInt8) = s := by
     rintro rfl
     simp [rdC] at e
    rw [if_neg g]
    cases hr : rpl m.toNat t s with
    | none => rfl
    | some x =>
     exfalso
     obtain ⟨a1,a2,a3,a4,a5,a6⟩ := rpl_C hr
     rw [e] at a6
     injection a6 with a6
     simp only [Prod.mk.injEq,and_true] at a6
     have := (pk_ser a2).2 ⟨by rw [a3]; exact a1,a4⟩
     rw [← a6,a3] at this
     exact hp this
  ·rw [rq_no hs' _ C (fun P h => hP ⟨P,h⟩)]
   cases hr : rpl m.toNat t s with
   | none => rfl
   | some x =>
    obtain ⟨a1,a2,a3,a4,a5,a6⟩ := rpl_C hr
    exact absurd ⟨_,a6⟩ hP
def z3 : DV := .st [.i 0,.i 0,.i 0]
end
section
attribute [-simp] DV.cells
attribute [local simp] sliceD cells_st cells_sl cells_i cells_y cells_b cells_s cells_w
attribute [local simp] lend_e3 adopt_e3 new_e3 al_e3 lt_e3
set_option maxHeartbeats 8000000 in
theorem law_FnReadPlan (x : List Nat) (_ : x.length ≤ Go.maxLen) (hb : ∀ y ∈ x,y < 256) : call lf n_laws_FnReadPlan [bys x] = some (.b true,[]) := by
 show call lf n_laws_FnReadPlan [.sl 0 (x.map .y)] = _
 rw [call_k lf n_laws_FnReadPlan _ (F := F_laws_FnReadPlan) rfl rfl]
 by_cases hl : 1048576 < (x.length : Int)
 ·simp (config := { maxSteps := 2000000 }) [F_laws_FnReadPlan,hl]
 ·obtain ⟨m,t,S,m5,t1,l1,d⟩ := c_DrawReadPlan hb (by omega)
  have R1 := c_impl_ReadPlan (m := m) (t := t) (by omega) S
  have R2 := c_spec_ReadPlan (m := m) (t := t) (by omega) S
  rw [Int.toNat_natCast] at R1 R2
  cases e : rpl m t S with
  | none =>
   rw [e] at R1 R2
   simp only [rpV] at R1 R2
   have SP := c_samePlan_self [] (by simp)
   simp only [List.map_nil] at SP
   simp (config := { maxSteps := 2000000 }) [F_laws_FnReadPlan,hl,d,R1,R2,SP,c_alive]
  | some y =>
   rw [e] at R1 R2
   obtain ⟨ht,hy,hp⟩ := rpl_to m5 e
   have R3 := c_impl_ReadPlan (m := m) (t := t) (by omega) (S ++ [41])
   rw [Int.toNat_natCast,rpl_more m5 e 41] at R3
   have hS := ser_pl m5 hy
   have B1 := c_impl_PlanText (by omega) ht hS
   rw [lab_er,hp] at B1
   have few := hS.few
   have B2 := c_impl_PlanOk (m := m) (t := t) (P := ser y 0) (by omega) (by omega)
   rw [(pk_ser m5).2 ⟨ht,hy⟩] at B2
   have SP := c_samePlan_self (ser y 0) (by omega)
   have tk2 := tk_e3 (ser y 0)
   have lE2 := lend_e3 (ser y 0)
   have aE2 := fun o => adopt_e3 o (ser y 0)
   have ll2 : ((ser y 0).map e3).length = (ser y 0).length := by simp
   have sb : S.length + 1 ≤ bound := by unfold bound; omega
   simp only [rpV] at R1 R2 R3
   generalize (ser y 0).length = k at *
   generalize (ser y 0).map e3 = E2 at *
   simp (config := { maxSteps := 2000000 }) [F_laws_FnReadPlan,hl,d,R1,R2,R3,B1,B2,SP,tk2,lE2,aE2,ll2,sb]
end
end Zz
