/- What the functions answer, as equations: EB. No conditions. -/
import Derived.Test.YtplfgkjggohajabDoorEAzb
set_option linter.unusedSectionVars false
set_option linter.unusedVariables false
set_option linter.unusedSimpArgs false
namespace Zz
open Go.Lg Md
set_option linter.unusedSimpArgs false
set_option linter.unusedVariables false
attribute [local simp] tm_mv tm_newnil tm_pick tm_bin tm_eqb tm_eqs tm_un tm_len tm_lens tm_chk tm_fld tm_fldv tm_idxa tm_idx tm_load tm_store tm_slice tm_slices tm_make tm_alloc tm_box tm_build tm_app tm_conv tm_ext tm_call tm_calld tm_mkfn tm_mm tm_idxp tm_eqn tm_callg tm_callm tm_bslice0 tm_bslice1 tm_bslice2 tm_bslice cw_nil cw_cons cd_none cd_some ec_nil ec_cons es_nil es_one es_more nn_nil nn_cons ns_nil ns_cons si_nil si_cons sk_t stod_oad stod_own stod_adr stod_dead ml_nil ml_cons nt_nil nt_cons nc_nil' nc_cons sa_mkfn cv_adr cv_i cv_y cv_b cv_w sa_calld nm_def nh_nil nh_cons nxM_some nxM_none sc_st sd_i sd_y sd_b sd_s sd_w sd_q sc_i sc_y sc_b sc_s sc_w sc_q sa_bslice sa_app nc_own nc_nil sa_call sa_alloc sa_build sa_callm rm_nil rm_one rm_gen bq_mul bq_eql ia_mv ia_newnil ia_pick ia_bin ia_eqb ia_eqs ia_un ia_len ia_lens ia_chk ia_fld ia_fldv ia_idxa ia_idx ia_load ia_store ia_slice ia_slices ia_make ia_alloc ia_box ia_build ia_bslice ia_app ia_b2i ia_i2b ia_i2i ia_same ia_b2s ia_s2b ia_ext ia_mm ia_idxp ia_calld ia_mkfn ia_i2r ia_r2s ia_call pt_nil pt_cons mi_nil mi_cons md_bslice md_mv md_newnil md_pick md_bin md_eqb md_un md_len md_lens md_fld md_fldv md_idxa md_idx md_load md_store md_slice md_slices md_make md_alloc md_box md_build md_app md_conv md_ext md_call md_calld md_callg md_mkfn md_mm md_idxp md_eqn md_eqs md_chk tg_bslice tg_mv tg_newnil tg_pick tg_bin tg_eqb tg_un tg_len tg_lens tg_fld tg_fldv tg_idxa tg_idx tg_load tg_store tg_slice tg_slices tg_make tg_alloc tg_box tg_build tg_app tg_conv tg_ext tg_call tg_calld tg_callg tg_mkfn tg_mm tg_idxp tg_eqn tg_eqs tg_chk rp_eq ro_eq ifP_t ifP_f np_def ng1_nil ng2_nil ng_gate ng_gen tgA_t tgA_0 tgA_1 tgA_2 aC_nil aC_c aC_t rS_def nb_def tv_b2i tv_i2b tv_i2i tv_s2b tv_b2s tv_same tv_i2r tv_r2s tv_i2q tv_q2i tv_q2q nxZ_some nxZ_none rz_nil rz_gen nxP_some nxP_none rq_nil rq_gen rq_gate nxR_some nxR_none ru_nil ru_gen ru_gate pl_none pl_some gt_nil gt_t gt_c di_some di_none an_nil an_cons nxG_some nxG_none rg_nil rg_gen rg_gate oldO_some oa_nil oa_i oa_y oa_b oa_s oa_st oa_sl oa_own oa_oad oa_nl al_nil al_cons al_i al_y al_b al_s al_st al_sl nxF_some nxF_none rf_nil rf_gen rf_gate hk_newnil hk_make hk_alloc hk_box hk_build hk_bslice hk_call hk_store hk_app hk_appn em_cel mm_cel ok_cel ov_cel so_cel il_cel oi_cel oj_cel ol_cel nm_cel hk_appc ef_bslice5 ef_app_cel ks_shut shu_own shc_none shc_cel cl_nil cl_cons ai_nil ai_cons il_i il_y il_b il_s il_st il_sl il_own il_adr il_oad il_ref il_fr il_tup il_nil il_np il_und il_dead ol_adr ol_b ol_dead ol_e ol_fn ol_fr ol_i ol_nil ol_np ol_oad ol_own ol_q ol_r ol_ref ol_s ol_sl ol_st ol_tup ol_und ol_w ol_y oj_e oj_i oj_y oj_b oj_s oj_st oj_sl oj_own oj_adr oj_oad oj_ref oj_fr oj_tup oj_nil oj_np oj_und oj_dead oj_w oj_q oj_r oj_fn oi_e oi_i oi_y oi_b oi_s oi_st oi_sl oi_own oi_adr oi_oad oi_ref oi_fr oi_tup oi_nil oi_np oi_und oi_dead as_nil as_cons ao_nil ao_cons av_i av_y av_b av_s av_st av_sl av_own av_adr av_oad av_ref av_fr av_tup av_nil av_np av_und av_dead pro_cons ghK_some ks_promote ks_freeze frz_own ks_rename ren_own ks_cell cel_own dropO adoptP newP wholeP cutP allOldL ex_skip ex_ret ex_exit ks_region ks_seq ks_cut ks_cond ks_block seqK_n seqK_e seqK_r regK_some condK_t condK_f blkK_n blkK_r blkK_e endK_n endK_r rr_false rr_true rd_free mo_nil mo_cons drK_some drK_none nxW_some nxW_none rw_nil rw_gen rw_gate ak_newnil ak_make ak_alloc ak_box ak_build ak_bslice ak_call ak_store ak_app iw_mm iw_eqn iw_idxp ef_callg cgK_some gv_e gv_own gv_i gv_sl gv_st gv_b gv_nil gvK_some gvO_some iw_callg ia_callg ak_callg hk_callg is_mv is_newnil is_pick is_bin is_eqb is_eqs is_un is_len is_lens is_chk is_fld is_fldv is_idxa is_idx is_load is_slice is_slices is_make is_alloc is_box is_build is_bslice is_app is_conv is_ext is_call is_calld is_callg is_mkfn is_mm is_idxp is_eqn is_store rt_nil rt_gen rt_gate nxT_some nxT_none ef_eqn_nil ef_eqn_sl ef_eqn_own ia_eqn ef_mmx ef_mmn ef_idxp nxD_some nxD_none ov_i ov_y ov_b ov_s ov_st ov_sl ov_own ov_oad ov_adr ov_nil ov_np ov_und ov_dead ov_tup oldN_some oldN_nil oldN_none so_none so_tup DV.noM so_i so_y so_b so_s so_st so_sl so_adr so_nil so_np so_und so_dead anyM_nil anyM_t anyM_c so_own so_oad rd_nil rd_gen rd_mv rd_gate iw_mv iw_newnil iw_pick iw_bin iw_eqb iw_eqs iw_un iw_len iw_lens iw_chk iw_fld iw_fldv iw_idxa iw_idx iw_load iw_store iw_slice iw_slices iw_make iw_alloc iw_box iw_build iw_bslice iw_app iw_b2i iw_i2b iw_i2i iw_same iw_b2s iw_s2b iw_ext iw_call nm_i nm_y nm_b nm_s nm_st nm_sl nm_own nm_oad nm_adr nm_nil nm_np nm_und nm_dead nm_tup rl_nil rl_gate rl_mv rl_gen opv_t opv_c nx_some nx_none gate_tt gate_tf gate_ft gate_ff gate_u fr_ap em_nil em_i em_y em_b em_s em_st em_sl em_own em_adr em_oad em_ref em_nl em_np em_und em_dead em_tup0 em_tup_i em_tup_b em_tup_s em_tup_sl em_tup_st em_tup_np em_tup_own em_tup_oad mm_i mm_y mm_b mm_s mm_st mm_sl mm_own mm_oad mm_adr mm_nil mm_np mm_und mm_dead ef_mv ef_newnil ef_pickt ef_pickf ef_bin ef_eqb ef_eqs ef_un ef_lens ef_len_sl ef_len_own ef_len_nil ef_chk_adr ef_chk_oad ef_fld_adr ef_fld_oad ef_fldv idxR_some ef_idxa_sl ef_idxa_own ef_idx ef_load_adr_st ef_load_adr_i ef_load_adr_y ef_load_adr_b ef_load_adr_s ef_load_adr_sl atN_nil atN_zero atN_succ ef_load_oad ef_store ef_slice ef_slices ef_make ef_alloc ef_box ef_build ef_bslice ef_app_own ef_app_nil ef_b2i ef_i2b ef_i2i ef_same ef_ext ret1 ret2_some calL_some ef_call retC_i retC_y retC_b retC_s retC_st retC_sl retC_np retC_fr retC_ref retC_tup rk_nil rk_i rk_y rk_b rk_s rk_st rk_sl rk_own rk_oad rk_nl ok_nil ok_i ok_y ok_b ok_s ok_st ok_sl ok_own ok_oad ok_nl lo_nil lo_i lo_y lo_b lo_s lo_st lo_sl lo_own lo_oad lo_nl pr_nil pr_i pr_y pr_b pr_s pr_st pr_sl pr_own pr_nl pr_oad nr_i nr_y nr_b nr_s nr_st nr_sl nr_fr nr_np nr_tup ng_i ng_b ng_s ng_fr ng_nil resV effP_eff binD bi_add bi_sub bi_mul bi_quo bi_rem bi_eql bi_neq bi_lss bi_leq bi_gtr bi_geq bi_shl bi_shr bi_and bi_or bi_xor bi_andNot binY binS unD look put putD LS.get LS.drop killE sweep lookO putO dropO enter leave giveBackL giveBack outs lendArgs lendArg newOuts takeIn takeInL lendL DV.lend adoptL DV.adopt elems apartKs part DV.cells unpart settle settleL over mkId szId fillP fillE tk_e2 tk_i tk_y lt_e2 lt_i lt_y lend_rep al_e2 al_is al_ys al_rep al_app lend_app adopt_app new_app lend_e2 lend_i lend_y adopt_e2 adopt_i adopt_y new_e2 new_i allNewL DV.allNew bounds sliceD sliceS em_w em_q em_r em_fn em_tup_w em_tup_q em_tup_r mm_w mm_q mm_r mm_fn ef_load_adr_w ef_load_adr_q ef_load_adr_r retC_w retC_q retC_r rk_w rk_q rk_r rk_fn ok_w ok_q ok_r ok_fn lo_w lo_q lo_r lo_fn pr_w pr_q pr_r pr_fn nr_w nr_q nr_r ng_w ng_q ng_r oa_w oa_q oa_r oa_fn al_w al_q al_r al_fn ov_w ov_q ov_r ov_fn so_w so_q so_r so_fn il_w il_q il_r il_fn oi_w oi_q oi_r oi_fn av_w av_q av_r av_fn nm_w nm_q nm_r nm_fn ef_i2r ef_r2s ef_b2s bs_some ys_nil ys_cons ys_map ef_mkfn ef_mkbd ef_idxp_adr ef_idxp_q ef_calld_nil ef_calld_adr ef_calld_bd DV.capB capsOk DV.cell List.all_cons List.all_nil rk_own_t lo_own_t lk_f lk_t pr_own_t mutB ak_calld hk_calld iw_calld iw_mkfn iw_i2r iw_r2s bw_and bw_or bw_xor bw_andNot bw_eql bw_neq sw_shl sw_shr sq_shl gEnv_nil rk_adr ok_adr lo_adr pr_adr oa_adr capL capArg DV.cap ak_mkfn hk_mkfn hk_mkbd ef_callm gf_ap ga_nil ga_cons tgv_own gk_e gk_giv gk_i gk_y gk_b gk_s gk_w gk_q gk_r gk_fn gk_st gk_sl gk_own gk_oad gk_adr gk_nl gk_np rk_giv ok_giv lo_giv pr_giv oa_giv iw_callm hk_callm ak_callm is_callm ia_callm tg_callm md_callm ef_i2q ef_q2i ef_q2q iw_i2q iw_q2i iw_q2q ia_i2q ia_q2i ia_q2q bq_and bq_add bq_shr sq_shr tgv_nil gk_ref rk_ref ok_ref lo_ref pr_ref oa_ref retC_fn nr_fn ef_load_adr_fn ks_close cls_oad
attribute [local congr] nxM_congr ifP_congr nxP_congr nxZ_congr nxR_congr nxT_congr nxG_congr nxF_congr ghK_congr gate_congr nx_congr nxD_congr runL_congr runD_congr eff_congr calL_congr ret2_congr seqK_congr regK_congr condK_congr endK_congr drK_congr nxW_congr
attribute [local simp ↓] nxM_some rm_nil rm_one rm_gen nxT_some rt_nil rt_gen rt_gate nxZ_some rz_nil rz_gen nxP_some rq_nil rq_gen rq_gate nxR_some ru_nil ru_gen ru_gate nxG_some rg_nil rg_gen rg_gate nxF_some rf_nil rf_gen rf_gate ks_promote ks_freeze frz_own ks_rename ks_cell ghK_some gate_tt gate_tf gate_ft gate_ff gate_u nx_some nxD_some rl_nil rl_mv rl_gen rl_gate rd_nil rd_mv rd_gen rd_gate rd_free rr_false rr_true drK_some drK_none nxW_some rw_nil rw_gen rw_gate ks_region ks_seq ks_cut ks_cond ks_block seqK_n seqK_e seqK_r regK_some condK_t condK_f blkK_n blkK_r endK_n endK_r calL_some ret2_some opv_t opv_c
section
abbrev Pts := List (Option (List Int))
def cTo (m : Nat) (t : List T) (pts : Pts) (p a : Int) (ks : List Int) : Option Pts :=
 if a = -1 ∨ fcd m t ks = true then (if a = -1 ∧ fcd m t ks = true then some pts else none)
 else if p + 1 ≤ a ∧ a ≤ (pts.length : Int) - 1 ∧ pts[a.toNat]? = some none then some (pts.set a.toNat (some ks)) else none
def rn1 (m : Nat) (t : List T) (pts : Pts) (p : Nat) (c : C3) : Option Pts :=
 match pts[p]? with
 | some (some ks) => if (0 ≤ c.1 ∧ c.1 < m) ∧ ks[c.1.toNat]? = some (-1) then
   (cTo m t pts p c.2.1 (ks.set c.1.toNat 0)).bind fun q => cTo m t q p c.2.2 (ks.set c.1.toNat 1) else none
 | _ => none
def rnA (m : Nat) (t : List T) : List C3 → Nat → Pts → Option Pts
 | [],_,pts => some pts
 | c :: r,p,pts => (rn1 m t pts p c).bind fun q => rnA m t r (p + 1) q
def rnS (m : Nat) (t : List T) (P : List C3) : Option Pts := (cTo m t (List.replicate P.length none) (-1) (rot P) (non m)).bind fun q => rnA m t P 0 q
theorem cTo_of {m : Nat} {t : List T} {pts q : Pts} {p a : Int} {ks : List Int} (hp : -1 ≤ p) (h : cTo m t pts p a ks = some q) :
  (a = -1 ∧ fcd m t ks = true ∧ q = pts) ∨ (fcd m t ks = false ∧ p + 1 ≤ a ∧ a ≤ (pts.length : Int) - 1 ∧ pts[a.toNat]? = some none ∧ q = pts.set a.toNat (some ks)) := by
 unfold cTo at h
 split at h
 ·split at h
  ·rename_i h1
   injection h with h
   exact .inl ⟨h1.1,h1.2,h.symm⟩
  ·cases h
 ·rename_i h1
  split at h
  ·rename_i h2
   injection h with h
   rw [not_or] at h1
   exact .inr ⟨by simpa using h1.2,h2.1,h2.2.1,h2.2.2,h.symm⟩
  ·cases h
theorem cTo_len {m : Nat} {t : List T} {pts q : Pts} {p a : Int} {ks : List Int} (hp : -1 ≤ p) (h : cTo m t pts p a ks = some q) : q.length = pts.length := by
 rcases cTo_of hp h with ⟨_,_,rfl⟩ | ⟨_,_,_,_,rfl⟩
 ·rfl
 ·simp
/-- what is there stays -/
theorem cTo_keep {m : Nat} {t : List T} {pts q : Pts} {p a : Int} {ks : List Int} (hp : -1 ≤ p) (h : cTo m t pts p a ks = some q) {b : Nat} {ls : List Int} (hb : pts[b]? = some (some ls)) : q[b]? = some (some ls) := by
 rcases cTo_of hp h with ⟨_,_,rfl⟩ | ⟨_,_,_,h4,rfl⟩
 ·exact hb
 ·rw [List.getElem?_set_ne]
  ·exact hb
  ·intro e
   rw [e,hb] at h4
   cases h4
/-- one goes on to where it is noted -/
def go3 (m : Nat) (t : List T) (N : Nat) (pts : Pts) (p : Int) (a : Int) (ks : List Int) : Prop :=
 (a = -1 ∧ fcd m t ks = true) ∨ (p + 1 ≤ a ∧ a ≤ (N : Int) - 1 ∧ pts[a.toNat]? = some (some ks))
theorem go3_of {m : Nat} {t : List T} {pts q : Pts} {p a : Int} {ks : List Int} (hp : -1 ≤ p) (h : cTo m t pts p a ks = some q) : go3 m t pts.length q p a ks := by
 rcases cTo_of hp h with ⟨h1,h2,rfl⟩ | ⟨h1,h2,h3,h4,rfl⟩
 ·exact .inl ⟨h1,h2⟩
 ·refine .inr ⟨h2,h3,?_⟩
  rw [List.getElem?_set_self (by omega)]
structure Inv (m : Nat) (t : List T) (P : List C3) (p : Nat) (pts : Pts) : Prop where
 len : pts.length = P.length
 nd : (rfs (P.take p)).Nodup
 rng : ∀ a ∈ rfs (P.take p),1 ≤ a ∧ a < P.length
 iff_ : ∀ a : Nat,a < P.length → (pts[a]? ≠ some none ↔ (a = 0 ∨ (a : Int) ∈ rfs (P.take p)))
 ok : ∀ (a : Nat) (ks : List Int),pts[a]? = some (some ks) → ks.length = m ∧ ks.all kOk = true ∧ fcd m t ks = false
 loc : ∀ q : Nat,q < p → ∃ (ks : List Int) (k no ye : Int),P[q]? = some (k,no,ye) ∧ pts[q]? = some (some ks) ∧ (0 ≤ k ∧ k < m) ∧ ks[k.toNat]? = some (-1) ∧ go3 m t P.length pts q no (ks.set k.toNat 0) ∧ go3 m t P.length pts q ye (ks.set k.toNat 1)
theorem go3_keep {m : Nat} {t : List T} {N : Nat} {pts q : Pts} {p a : Int} {ks : List Int} (hk : ∀ (b : Nat) (ls : List Int),pts[b]? = some (some ls) → q[b]? = some (some ls)) (h : go3 m t N pts p a ks) : go3 m t N q p a ks := by
 rcases h with h | ⟨h1,h2,h3⟩
 ·exact .inl h
 ·exact .inr ⟨h1,h2,hk _ _ h3⟩
/-- what one step adds to what is gone on to -/
def ad1 (a : Int) : List Int := if a = -1 then [] else [a]
theorem step_iff {m : Nat} {t : List T} {N : Nat} {pts q : Pts} {p a : Int} {ks : List Int} {R : List Int} (hp : 0 ≤ p) (hN : pts.length = N) (h : cTo m t pts p a ks = some q) (nd : R.Nodup) (rng : ∀ a ∈ R,1 ≤ a ∧ a < N)
  (hi : ∀ a : Nat,a < N → (pts[a]? ≠ some none ↔ (a = 0 ∨ (a : Int) ∈ R))) :
  (R ++ ad1 a).Nodup ∧ (∀ x ∈ R ++ ad1 a,1 ≤ x ∧ x < N) ∧ ∀ b : Nat,b < N → (q[b]? ≠ some none ↔ (b = 0 ∨ (b : Int) ∈ R ++ ad1 a)) := by
 rcases cTo_of (by omega) h with ⟨rfl,_,rfl⟩ | ⟨_,h2,h3,h4,rfl⟩
 ·have e : ad1 (-1) = [] := rfl
  rw [e,List.append_nil]
  exact ⟨nd,rng,hi⟩
 ·have e : ad1 a = [a] := if_neg (by omega)
  rw [e]
  have ha : a.toNat < N := by omega
  have hn : a ∉ R := fun hm => by
   have := (hi a.toNat ha).2 (.inr (by rw [Int.toNat_of_nonneg (by omega)]; exact hm))
   exact this h4
  refine ⟨List.nodup_append.2 ⟨nd,by simp,fun x hx y hy e => ?_⟩,fun x hx => ?_,fun b hb => ?_⟩
  ·have : y = a := by simpa using hy
   exact hn (by rw [← this,← e]; exact hx)
  ·rcases List.mem_append.1 hx with hx | hx
   ·exact rng x hx
   ·have : x = a := by simpa using hx
    omega
  ·by_cases eb : a.toNat = b
   ·subst eb
    rw [List.getElem?_set_self (by omega)]
    constructor
    ·intro _
     right
     rw [Int.toNat_of_nonneg (by omega)]
     simp
    ·intro _ h
     cases h
   ·rw [List.getElem?_set_ne eb,hi b hb]
    have : (b : Int) ≠ a := by omega
    simp [this]
theorem step_ok {m : Nat} {t : List T} {pts q : Pts} {p a : Int} {ks : List Int} (hp : -1 ≤ p) (h : cTo m t pts p a ks = some q) (hl : ks.length = m) (hk : ks.all kOk = true)
  (ho : ∀ (a : Nat) (ks : List Int),pts[a]? = some (some ks) → ks.length = m ∧ ks.all kOk = true ∧ fcd m t ks = false) :
  ∀ (a : Nat) (ks : List Int),q[a]? = some (some ks) → ks.length = m ∧ ks.all kOk = true ∧ fcd m t ks = false := by
 intro b ls hb
 rcases cTo_of hp h with ⟨_,_,rfl⟩ | ⟨h1,h2,h3,h4,rfl⟩
 ·exact ho b ls hb
 ·by_cases eb : a.toNat = b
  ·subst eb
   rw [List.getElem?_set_self (by omega)] at hb
   simp only [Option.some.injEq] at hb
   subst hb
   exact ⟨hl,hk,h1⟩
  ·rw [List.getElem?_set_ne eb] at hb
   exact ho b ls hb
theorem rfs_snoc (P : List C3) (k no ye : Int) : rfs (P ++ [(k,no,ye)]) = rfs P ++ ad1 no ++ ad1 ye := by
 rw [rfs_app]
 simp only [rfs,List.append_nil]
 unfold ad1
 rw [List.append_assoc]
theorem take_snoc {P : List C3} {p : Nat} {c : C3} (h : P[p]? = some c) : P.take (p + 1) = P.take p ++ [c] := by
 rw [List.take_add_one,h]
 rfl
theorem inv_step {m : Nat} {t : List T} {P : List C3} {p : Nat} {pts q : Pts} {c : C3} (hc : P[p]? = some c) (h : Inv m t P p pts) (hr : rn1 m t pts p c = some q) : Inv m t P (p + 1) q := by
 obtain ⟨k,no,ye⟩ := c
 unfold rn1 at hr
 split at hr
 ·rename_i ks hks
  split at hr
  ·rename_i hk
   simp only [Option.bind_eq_some_iff] at hr
   obtain ⟨q1,h1,h2⟩ := hr
   obtain ⟨o1,o2,o3⟩ := h.ok p ks hks
   have hp : (0 : Int) ≤ p := by omega
   have l1 := cTo_len (by omega) h1
   have l2 := cTo_len (by omega) h2
   have k0 : (ks.set k.toNat 0).all kOk = true := kOk_set o2 k.toNat false
   have k1 : (ks.set k.toNat 1).all kOk = true := kOk_set o2 k.toNat true
   obtain ⟨n1,r1,i1⟩ := step_iff hp h.len h1 h.nd h.rng h.iff_
   obtain ⟨n2,r2,i2⟩ := step_iff hp (l1.trans h.len) h2 n1 r1 i1
   have ok1 := step_ok (by omega) h1 (by simpa using o1) k0 h.ok
   have ok2 := step_ok (by omega) h2 (by simpa using o1) k1 ok1
   have kp : ∀ (b : Nat) (ls : List Int),pts[b]? = some (some ls) → q[b]? = some (some ls) := fun b ls hb => cTo_keep (by omega) h2 (cTo_keep (by omega) h1 hb)
   refine ⟨(l2.trans l1).trans h.len,?_,?_,?_,ok2,fun j hj => ?_⟩
   ·rw [take_snoc hc,rfs_snoc]; exact n2
   ·rw [take_snoc hc,rfs_snoc]; exact r2
   ·rw [take_snoc hc,rfs_snoc]; exact i2
   ·by_cases e : j = p
    ·subst e
     have g1 := go3_of (by omega) h1
     have g2 := go3_of (by omega) h2
     rw [h.len] at g1
     rw [l1,h.len] at g2
     exact ⟨ks,k,no,ye,hc,kp _ _ hks,hk.1,hk.2,go3_keep (fun b ls hb => cTo_keep (by omega) h2 hb) g1,g2⟩
    ·obtain ⟨ks',k',no',ye',a1,a2,a3,a4,a5,a6⟩ := h.loc j (by omega)
     exact ⟨ks',k',no',ye',a1,kp _ _ a2,a3,a4,go3_keep kp a5,go3_keep kp a6⟩
  ·cases hr
 ·cases hr
theorem inv_all {m : Nat} {t : List T} {P : List C3} : ∀ (rest : List C3) (p : Nat) (pts q : Pts),P.drop p = rest → p ≤ P.length → Inv m t P p pts → rnA m t rest p pts = some q → Inv m t P P.length q
 | [],p,pts,q,hd,hp,h,hr => by
  have : P.length ≤ p := List.drop_eq_nil_iff.1 hd
  have e : p = P.length := by omega
  subst e
  simp only [rnA,Option.some.injEq] at hr
  subst hr
  exact h
 | c :: r,p,pts,q,hd,hp,h,hr => by
  simp only [rnA,Option.bind_eq_some_iff] at hr
  obtain ⟨q1,h1,h2⟩ := hr
  have hc : P[p]? = some c := by
   have : (P.drop p)[0]? = some c := by rw [hd]; rfl
   rw [List.getElem?_drop,Nat.add_zero] at this
   exact this
  have hlt : p < P.length := (List.getElem?_eq_some_iff.1 hc).1
  have hd' : P.drop (p + 1) = r := by
   rw [← List.drop_drop,hd]
   rfl
  exact inv_all r (p + 1) q1 q hd' (by omega) (inv_step hc h h1) h2
theorem inv_start {m : Nat} {t : List T} {P : List C3} {q : Pts} (h : cTo m t (List.replicate P.length none) (-1) (rot P) (non m) = some q) : Inv m t P 0 q ∧ go3 m t P.length q (-1) (rot P) (non m) := by
 have g := go3_of (by omega) h
 have l := cTo_len (by omega) h
 rw [List.length_replicate] at g l
 have ok := step_ok (by omega) h (non_len m) (non_all m) (fun a ks ha => by
  rw [List.getElem?_replicate] at ha
  split at ha <;> cases ha)
 refine ⟨⟨l,by simp [rfs],by simp [rfs],fun a ha => ?_,ok,fun j hj => by omega⟩,g⟩
 have hP : P ≠ [] := fun e => by subst e; simp at ha
 have r0 : rot P = 0 := if_neg hP
 rcases cTo_of (by omega) h with ⟨h1,_,_⟩ | ⟨_,_,_,_,rfl⟩
 ·omega
 ·rw [r0]
  simp only [List.take_zero,rfs,List.not_mem_nil,or_false,Int.toNat_zero]
  by_cases e : a = 0
  ·subst e
   rw [List.getElem?_set_self (by simpa using ha)]
   simp
  ·rw [List.getElem?_set_ne (by omega),List.getElem?_replicate,if_pos ha]
   simp [e]
theorem inv_tree {m : Nat} {t : List T} {P : List C3} {pts : Pts} (h : Inv m t P P.length pts) : ∀ (n a : Nat) (ks : List Int),P.length - a ≤ n → pts[a]? = some (some ks) → ∃ L,enc P (a : Int) L ∧ okT m t ks L.er
 | 0,a,ks,hn,ha => by
  have := (List.getElem?_eq_some_iff.1 ha).1
  rw [h.len] at this
  omega
 | n + 1,a,ks,hn,ha => by
  have hlt := (List.getElem?_eq_some_iff.1 ha).1
  rw [h.len] at hlt
  obtain ⟨ks',k,no,ye,a1,a2,a3,a4,a5,a6⟩ := h.loc a hlt
  rw [ha] at a2
  simp only [Option.some.injEq] at a2
  subst a2
  obtain ⟨_,_,o3⟩ := h.ok a ks ha
  have key : ∀ (b : Int) (ls : List Int),go3 m t P.length pts a b ls → ∃ L,enc P b L ∧ okT m t ls L.er ∧ nxt P.length a b := fun b ls g => by
   rcases g with ⟨rfl,g⟩ | ⟨g1,g2,g3⟩
   ·exact ⟨.stop,rfl,g,.inl rfl⟩
   ·obtain ⟨L,l1,l2⟩ := inv_tree h n b.toNat ls (by omega) g3
    rw [Int.toNat_of_nonneg (by omega)] at l1
    exact ⟨L,l1,l2,.inr ⟨g1,g2⟩⟩
  obtain ⟨L0,e0,k0,x0⟩ := key no _ a5
  obtain ⟨L1,e1,k1,x1⟩ := key ye _ a6
  exact ⟨.ask a k.toNat L0 L1,⟨rfl,no,ye,by rw [a1,Int.toNat_of_nonneg a3.1],x0,x1,e0,e1⟩,⟨o3,a4,k0,k1⟩⟩
theorem rcn_ge {P : List C3} {a q : Nat} {d : C3} (hq : P[q]? = some d) (hd : d.2.1 = (a : Int) ∨ d.2.2 = (a : Int)) : ∀ {L : LT},L.cnt q ≤ L.rcn P a
 | .stop => Nat.le_refl _
 | .ask p k n y => by
  have c0 := rcn_ge hq hd (L := n)
  have c1 := rcn_ge hq hd (L := y)
  simp only [LT.rcn,LT.cnt]
  by_cases e : p = q
  ·subst e
   rw [if_pos rfl,hq]
   simp only [Option.map_some,Option.some.injEq]
   rcases hd with hd | hd
   ·rw [if_pos hd]; omega
   ·rw [if_pos hd]; omega
  ·rw [if_neg e]; omega
theorem sN_one : ∀ {f : Nat → Nat} {n : Nat},(∀ a,a < n → f a = 1) → sN f n = n
 | f,0,_ => rfl
 | f,n + 1,h => by
  simp only [sN]
  rw [sN_one (f := f) (n := n) (fun a ha => h a (by omega)),h n (by omega)]
theorem inv_pl {m : Nat} {t : List T} {P : List C3} {pts : Pts} (h31 : P.length ≤ 31) (h : Inv m t P P.length pts) (hg : go3 m t P.length pts (-1) (rot P) (non m)) : ∃ L,isPl m t P L := by
 have nd := h.nd
 have rng := h.rng
 have hi := h.iff_
 rw [List.take_length] at nd rng hi
 have ht : ∃ L,enc P (rot P) L ∧ okT m t (non m) L.er := by
  rcases hg with ⟨g1,g2⟩ | ⟨g1,g2,g3⟩
  ·rw [g1]; exact ⟨.stop,rfl,g2⟩
  ·obtain ⟨L,l1,l2⟩ := inv_tree h P.length (rot P).toNat (non m) (by omega) g3
   rw [Int.toNat_of_nonneg (by omega)] at l1
   exact ⟨L,l1,l2⟩
 obtain ⟨L,e,ok⟩ := ht
 have all1 : ∀ a,a < P.length → 0 < L.cnt a := by
  intro a
  induction a using Nat.strongRecOn with
  | ind a ih =>
   intro ha
   have r := cnt_root (a := a) e
   by_cases a0 : a = 0
   ·subst a0
    have : rot P = 0 := if_neg (fun e => by subst e; simp at ha)
    rw [this] at r
    simp at r
    omega
   ·obtain ⟨ks,k,no,ye,_,a2,_⟩ := h.loc a ha
    have hm := (hi a ha).1 (by rw [a2]; simp)
    rcases hm with hm | hm
    ·exact absurd hm a0
    ·obtain ⟨_,q,d,d1,d2⟩ := rfs_mem.1 hm
     obtain ⟨ks',k',no',ye',b1,b2,b3,b4,b5,b6⟩ := h.loc q (List.getElem?_eq_some_iff.1 d1).1
     rw [d1] at b1
     simp only [Option.some.injEq] at b1
     subst b1
     have hqa : q < a := by
      rcases d2 with d2 | d2
      ·simp only at d2
       subst d2
       rcases b5 with ⟨b,_⟩ | ⟨b,_⟩ <;> omega
      ·simp only at d2
       subst d2
       rcases b6 with ⟨b,_⟩ | ⟨b,_⟩ <;> omega
     have c := ih q hqa (by omega)
     have g := rcn_ge d1 d2 (L := L)
     omega
 have le1 := cnt_le nd e
 refine ⟨L,e,ok,?_,⟨nd,fun a ha => by have := rng a ha; omega⟩,h31⟩
 rw [← size_sN e]
 exact sN_one fun a ha => by have := all1 a ha; have := le1 a; omega
theorem cTo_some {m : Nat} {t : List T} {pts : Pts} {p a : Int} {ks : List Int} (h : (a = -1 ∧ fcd m t ks = true) ∨ (a ≠ -1 ∧ fcd m t ks = false ∧ p + 1 ≤ a ∧ a ≤ (pts.length : Int) - 1 ∧ pts[a.toNat]? = some none)) : ∃ q,cTo m t pts p a ks = some q := by
 unfold cTo
 rcases h with ⟨h1,h2⟩ | ⟨h1,h2,h3⟩
 ·exact ⟨pts,by rw [if_pos (.inl h1),if_pos ⟨h1,h2⟩]⟩
 ·exact ⟨_,by rw [if_neg (by rw [h2]; rintro (h | h); exact h1 h; cases h),if_pos h3]⟩
/-- what is noted is come to by the tree -/
def CIv (m : Nat) (t : List T) (P : List C3) (pts : Pts) : Prop := ∀ (a : Nat) (ks : List Int),pts[a]? = some (some ks) → ∃ M,enc P (a : Int) M ∧ okT m t ks M.er
theorem civ_step {m : Nat} {t : List T} {P : List C3} {pts q : Pts} {p a : Int} {ks : List Int} (hp : -1 ≤ p) (h : cTo m t pts p a ks = some q) (hc : CIv m t P pts) {M : LT} (hM : enc P a M) (hk : okT m t ks M.er) : CIv m t P q := by
 intro b ls hb
 rcases cTo_of hp h with ⟨_,_,rfl⟩ | ⟨h1,h2,h3,h4,rfl⟩
 ·exact hc b ls hb
 ·by_cases eb : a.toNat = b
  ·subst eb
   rw [List.getElem?_set_self (by omega)] at hb
   simp only [Option.some.injEq] at hb
   subst hb
   rw [Int.toNat_of_nonneg (by omega)]
   exact ⟨M,hM,hk⟩
  ·rw [List.getElem?_set_ne eb] at hb
   exact hc b ls hb
theorem go_some {m : Nat} {t : List T} {P : List C3} {pts : Pts} {p : Nat} {a : Int} {ks : List Int} {M : LT} (hM : enc P a M) (hk : okT m t ks M.er) (hn : nxt P.length p a) (hl : pts.length = P.length) (hf : a ≠ -1 → pts[a.toNat]? = some none) : ∃ q,cTo m t pts p a ks = some q := by
 apply cTo_some
 cases M with
 | stop => exact .inl ⟨hM,hk⟩
 | ask p' k n y =>
  obtain ⟨e,_⟩ := hM
  obtain ⟨o1,_⟩ := hk
  have ha : a ≠ -1 := by omega
  rcases hn with hn | hn
  ·exact absurd hn ha
  ·exact .inr ⟨ha,o1,hn.1,by rw [hl]; exact hn.2,hf ha⟩
theorem none_of {pts : Pts} {a : Nat} (h : a < pts.length) (hn : ¬ pts[a]? ≠ some none) : pts[a]? = some none := Classical.not_not.1 hn
theorem pl_step {m : Nat} {t : List T} {P : List C3} {L : LT} (hL : isPl m t P L) {p : Nat} {c : C3} (hc : P[p]? = some c) {pts : Pts} (h : Inv m t P p pts) (hv : CIv m t P pts) : ∃ q,rn1 m t pts p c = some q ∧ CIv m t P q := by
 have hlt : p < P.length := (List.getElem?_eq_some_iff.1 hc).1
 have nd := hL.on.1
 -- it has been come to
 have hin : p = 0 ∨ (p : Int) ∈ rfs (P.take p) := by
  by_cases p0 : p = 0
  ·exact .inl p0
  ·right
   have c1 := all_in nd hL.e hL.sz p hlt
   have r := cnt_root (a := p) hL.e
   have rp : ¬ rot P = (p : Int) := by
    unfold rot
    split <;> omega
   rw [if_neg rp] at r
   obtain ⟨q,d,q1,q2,q3⟩ := rcn_pos hL.e (a := p) (by omega)
   refine rfs_mem.2 ⟨by omega,q,d,?_,q2⟩
   rw [List.getElem?_take,if_pos q3]
   exact q1
 have hne := (h.iff_ p hlt).2 hin
 cases hpp : pts[p]? with
 | none =>
  rw [List.getElem?_eq_none_iff,h.len] at hpp
  omega
 | some o =>
  cases o with
  | none => exact absurd hpp hne
  | some ks =>
   obtain ⟨M,m1,m2⟩ := hv p ks hpp
   obtain ⟨o1,o2,o3⟩ := h.ok p ks hpp
   cases M with
   | stop =>
    have m1 : (p : Int) = -1 := m1
    omega
   | ask p' k n y =>
    obtain ⟨e,no,ye,d1,d2,d3,d4,d5⟩ := m1
    obtain ⟨u1,u2,u3,u4⟩ := m2
    have ep : p = p' := by omega
    subst ep
    rw [hc] at d1
    simp only [Option.some.injEq] at d1
    subst d1
    have hk : k < m := by rw [← o1]; exact ks_ex u2
    have ndp : (rfs (P.take p) ++ ad1 no ++ ad1 ye).Nodup := by
     rw [← rfs_snoc _ (k : Int),← take_snoc hc]
     have : rfs P = rfs (P.take (p + 1)) ++ rfs (P.drop (p + 1)) := by rw [← rfs_app,List.take_append_drop]
     rw [this] at nd
     exact (List.nodup_append.1 nd).1
    obtain ⟨nd1,_,nd3⟩ := List.nodup_append.1 ndp
    obtain ⟨_,_,nd2⟩ := List.nodup_append.1 nd1
    have free0 : no ≠ -1 → pts[no.toNat]? = some none := fun hno => by
     have hr : (p : Int) + 1 ≤ no ∧ no ≤ (P.length : Int) - 1 := d2.resolve_left hno
     refine none_of (by rw [h.len]; omega) (fun hx => ?_)
     rcases (h.iff_ no.toNat (by omega)).1 hx with h0 | h0
     ·omega
     ·rw [Int.toNat_of_nonneg (by omega)] at h0
      exact nd2 no h0 no (by unfold ad1; rw [if_neg hno]; simp) rfl
    obtain ⟨q1,c1⟩ := go_some (p := p) d4 u3 d2 h.len free0
    have iv1 := step_iff (by omega) h.len c1 h.nd h.rng h.iff_
    have l1 := cTo_len (by omega) c1
    have free1 : ye ≠ -1 → q1[ye.toNat]? = some none := fun hye => by
     have hr : (p : Int) + 1 ≤ ye ∧ ye ≤ (P.length : Int) - 1 := d3.resolve_left hye
     refine none_of (by rw [l1,h.len]; omega) (fun hx => ?_)
     rcases (iv1.2.2 ye.toNat (by omega)).1 hx with h0 | h0
     ·omega
     ·rw [Int.toNat_of_nonneg (by omega)] at h0
      exact nd3 ye h0 ye (by unfold ad1; rw [if_neg hye]; simp) rfl
    obtain ⟨q2,c2⟩ := go_some (p := p) d5 u4 d3 (l1.trans h.len) free1
    refine ⟨q2,?_,civ_step (by omega) c2 (civ_step (by omega) c1 hv d4 u3) d5 u4⟩
    unfold rn1
    rw [hpp]
    simp only [Int.toNat_natCast]
    rw [if_pos ⟨⟨by omega,by omega⟩,u2⟩,c1]
    exact c2
theorem pl_all {m : Nat} {t : List T} {P : List C3} {L : LT} (hL : isPl m t P L) : ∀ (rest : List C3) (p : Nat) (pts : Pts),P.drop p = rest → p ≤ P.length → Inv m t P p pts → CIv m t P pts → ∃ q,rnA m t rest p pts = some q
 | [],p,pts,_,_,_,_ => ⟨pts,rfl⟩
 | c :: r,p,pts,hd,hp,h,hv => by
  have hc : P[p]? = some c := by
   have : (P.drop p)[0]? = some c := by rw [hd]; rfl
   rw [List.getElem?_drop,Nat.add_zero] at this
   exact this
  have hlt : p < P.length := (List.getElem?_eq_some_iff.1 hc).1
  have hd' : P.drop (p + 1) = r := by
   rw [← List.drop_drop,hd]
   rfl
  obtain ⟨q1,h1,h2⟩ := pl_step hL hc h hv
  obtain ⟨q,h3⟩ := pl_all hL r (p + 1) q1 hd' (by omega) (inv_step hc h h1) h2
  exact ⟨q,by simp only [rnA]; rw [h1]; exact h3⟩
theorem rnA_keep {m : Nat} {t : List T} : ∀ (rest : List C3) (p : Nat) (a b : Pts),rnA m t rest p a = some b → ∀ (x : Nat) (ls : List Int),a[x]? = some (some ls) → b[x]? = some (some ls) := by
 intro rest
 induction rest with
 | nil =>
  intro p a b h x ls hx
  simp only [rnA,Option.some.injEq] at h
  subst h
  exact hx
 | cons c r ih =>
  intro p a b h x ls hx
  simp only [rnA,Option.bind_eq_some_iff] at h
  obtain ⟨a1,e1,e2⟩ := h
  refine ih (p + 1) a1 b e2 x ls ?_
  unfold rn1 at e1
  split at e1
  ·split at e1
   ·simp only [Option.bind_eq_some_iff] at e1
    obtain ⟨a2,f1,f2⟩ := e1
    exact cTo_keep (by omega) f2 (cTo_keep (by omega) f1 hx)
   ·cases e1
  ·cases e1
theorem rn_keep {m : Nat} {t : List T} {N : Nat} {x a : Int} {ks : List Int} (rest : List C3) (p : Nat) (q0 q : Pts) (h : rnA m t rest p q0 = some q) (g : go3 m t N q0 x a ks) : go3 m t N q x a ks := go3_keep (rnA_keep rest p q0 q h) g
theorem rnS_iff {m : Nat} {t : List T} {P : List C3} (h31 : P.length ≤ 31) : (∃ q,rnS m t P = some q) ↔ ∃ L,isPl m t P L := by
 constructor
 ·rintro ⟨q,h⟩
  unfold rnS at h
  simp only [Option.bind_eq_some_iff] at h
  obtain ⟨q0,h1,h2⟩ := h
  obtain ⟨i,g⟩ := inv_start h1
  have i2 := inv_all P 0 q0 q rfl (Nat.zero_le _) i h2
  refine inv_pl h31 i2 ?_
  exact rn_keep P 0 q0 q h2 g
 ·rintro ⟨L,hL⟩
  unfold rnS
  have hs : ∃ q,cTo m t (List.replicate P.length none) (-1) (rot P) (non m) = some q := by
   apply cTo_some
   have he := hL.e
   have hk := hL.ok
   cases L with
   | stop => exact .inl ⟨he,hk⟩
   | ask p k n y =>
    obtain ⟨e,no,ye,d1,_⟩ := he
    have hlt : p < P.length := (List.getElem?_eq_some_iff.1 d1).1
    have r0 : rot P = 0 := if_neg (fun e => by subst e; simp at hlt)
    refine .inr ⟨by omega,hk.1,by omega,by rw [List.length_replicate]; omega,?_⟩
    rw [r0,List.getElem?_replicate,if_pos (by simp; omega)]
  obtain ⟨q0,h1⟩ := hs
  obtain ⟨i,g⟩ := inv_start h1
  have cv : CIv m t P q0 := civ_step (by omega) h1 (fun a ks ha => by
   rw [List.getElem?_replicate] at ha
   split at ha <;> cases ha) hL.e hL.ok
  obtain ⟨q,h2⟩ := pl_all hL P 0 q0 rfl (Nat.zero_le _) i cv
  exact ⟨q,by rw [h1]; exact h2⟩
end
section
attribute [-simp] DV.cells
attribute [local simp] sliceD cells_st cells_sl cells_i cells_y cells_b cells_s cells_w
attribute [local simp] lend_e3 adopt_e3 new_e3 al_e3 lt_e3
def pv (m a : Int) (w v : BitVec 32) : DV := .st [.i m,.i a,.w w,.w v]
/-- the point at which so much is known -/
def pD (m : Nat) (t : List T) (ks : List Int) : DV := pv m (aN ks) (lfW ks) (tsW t)
theorem c_value {m : Nat} {t : List T} {ks : List Int} (h1 : tmOk m t = true) (hl : ks.length = m) (hk : ks.all kOk = true) : call lf n_impl_point_value [pD m t ks] = some (.i (foT m t ks),[]) := by
 have C := c_impl_valueAmong (tsW t) (lfW ks)
 rw [vaW_fcd h1 hl hk] at C
 unfold pD pv
 rw [call_k lf n_impl_point_value _ (F := F_impl_point_value) rfl rfl]
 simp [F_impl_point_value,C]
theorem c_isForced {m : Nat} {t : List T} {ks : List Int} (h1 : tmOk m t = true) (hl : ks.length = m) (hk : ks.all kOk = true) : call lf n_impl_point_isForced [pD m t ks] = some (.b (fcd m t ks),[]) := by
 have C := c_value h1 hl hk
 unfold pD pv at *
 rw [call_k lf n_impl_point_isForced _ (F := F_impl_point_isForced) rfl rfl]
 unfold fcd
 simp [F_impl_point_isForced,C]
/-- may it be asked? -/
def caK (m : Nat) (ks : List Int) (a : Int) : Bool := decide (0 ≤ a ∧ a < m) && decide (ks[a.toNat]? = some (-1))
theorem c_canAsk {m : Nat} {t : List T} {ks : List Int} (hm : m ≤ 5) (hl : ks.length = m) (a : Int) : call lf n_impl_point_canAsk [pD m t ks,.i a] = some (.b (caK m ks a),[]) := by
 have W := c_impl_isWithin a 0 ((m : Int) - 1)
 have w1 : wr ((m : Int) - 1) = (m : Int) - 1 := wr_id (by omega) (by omega)
 unfold pD pv
 rw [call_k lf n_impl_point_canAsk _ (F := F_impl_point_canAsk) rfl rfl]
 unfold caK
 by_cases h : 0 ≤ a ∧ a < m
 ·obtain ⟨k,rfl⟩ := Int.eq_ofNat_of_zero_le h.1
  have e : decide (0 ≤ (k : Int) ∧ (k : Int) ≤ (m : Int) - 1) = true := decide_eq_true ⟨h.1,by omega⟩
  have H := c_impl_hasTest (aN ks) k (by omega)
  have hb := aN_bit (ks := ks) (i := k) (by omega)
  rw [hb] at H
  rw [e] at W
  rw [decide_eq_true h,Int.toNat_natCast]
  generalize aN ks = x at *
  generalize lfW ks = y at *
  simp [F_impl_point_canAsk,w1,W,H]
 ·have e : decide (0 ≤ a ∧ a ≤ (m : Int) - 1) = false := decide_eq_false (by omega)
  rw [e] at W
  rw [decide_eq_false h]
  simp [F_impl_point_canAsk,w1,W]
/-- nowhere nothing may be asked -/
theorem c_canAsk0 (a : Int) : call lf n_impl_point_canAsk [pv 0 0 (0#32) (0#32),.i a] = some (.b false,[]) := by
 have W := c_impl_isWithin a 0 (-1)
 have e : decide (0 ≤ a ∧ a ≤ -1) = false := decide_eq_false (by omega)
 rw [e] at W
 have w1 : wr (-1) = -1 := wr_id (by omega) (by omega)
 unfold pv
 rw [call_k lf n_impl_point_canAsk _ (F := F_impl_point_canAsk) rfl rfl]
 simp [F_impl_point_canAsk,w1,W]
theorem c_answered {m : Nat} {t : List T} {ks : List Int} {k : Nat} (b : Bool) (hl : ks.length ≤ 5) (hk : ks.all kOk = true) (h : ks[k]? = some (-1)) : call lf n_impl_point_answered [pD m t ks,.i k,.i (bI b)] = some (pD m t (ks.set k (bI b)),[]) := by
 have hlt := ks_ex h
 have C := c_impl_statesSaying (k := k) (by omega) (bI b)
 have e1 : syI k (bI b) = syW k b := by cases b <;> rfl
 rw [e1] at C
 have sh := shl1 (k := (k : Int)) (by omega) (by omega)
 have nk : ¬ (k : Int) < 0 := by omega
 have l := aN_lt ks
 have p : 2 ^ ks.length ≤ 2 ^ 5 := Nat.pow_le_pow_right (by omega) hl
 have p2 : 2 ^ k ≤ 2 ^ 5 := Nat.pow_le_pow_right (by omega) (by omega)
 have o := orI_nat (a := aN ks) (b := 2 ^ k) (by omega) (by omega)
 rw [← aN_set (b := bI b) (by cases b <;> simp [bI]) h] at o
 have e2 := lfW_set b hk hl h
 unfold pD pv
 rw [call_k lf n_impl_point_answered _ (F := F_impl_point_answered) rfl rfl]
 rw [e2]
 have o' : orI (aN ks) (2 ^ k) = aN (ks.set k (bI b)) := by
  have : ((2 ^ k : Nat) : Int) = 2 ^ k := by simp
  rw [← this]; exact o
 rw [Int.toNat_natCast] at sh
 generalize aN (ks.set k (bI b)) = x at *
 generalize aN ks = y at *
 generalize lfW ks = z at *
 generalize (2 : Int) ^ k = w at *
 simp [F_impl_point_answered,C,sh,nk,o']
theorem c_startOf {m : Nat} {t : List T} (hm : m ≤ 5) (h : tmOk m t = true) : call lf n_impl_startOf [.i m,.sl 0 (t.map e2)] = some (pD m t (non m),[]) := by
 have C := c_impl_trueStates h
 unfold pD pv
 rw [aN_non,lfW_non m hm]
 rw [call_k lf n_impl_startOf _ (F := F_impl_startOf) rfl rfl]
 simp [F_impl_startOf,C]
theorem c_firstOf (P : List C3) (h : (P.length : Int) < 1099511627776) : call lf n_impl_firstOf [.sl 0 (P.map e3)] = some (.i (rot P),[]) := by
 rw [call_k lf n_impl_firstOf _ (F := F_impl_firstOf) rfl rfl]
 unfold rot
 cases P with
 | nil => simp [F_impl_firstOf]
 | cons c r =>
  have e : (((r.length : Int) + 1) == 0) = false := beq_eq_false_iff_ne.2 (by omega)
  simp [F_impl_firstOf,e]
end
section
attribute [-simp] DV.cells
attribute [local simp] sliceD cells_st cells_sl cells_i cells_y cells_b cells_s cells_w
attribute [local simp] lend_e3 adopt_e3 new_e3 al_e3 lt_e3
def e4 (m : Nat) (t : List T) : Option (List Int) → DV
 | some ks => pD m t ks
 | none => pv 0 0 (0#32) (0#32)
theorem e4_st (m : Nat) (t : List T) (o : Option (List Int)) : ∃ (a b : Int) (w v : BitVec 32),e4 m t o = .st [.i a,.i b,.w w,.w v] := by
 cases o with
 | none => exact ⟨_,_,_,_,rfl⟩
 | some ks => exact ⟨_,_,_,_,rfl⟩
theorem e4_lend (m : Nat) (t : List T) (o : Option (List Int)) : (e4 m t o).lend = e4 m t o := by
 obtain ⟨a,b,w,v,e⟩ := e4_st m t o
 rw [e]; rfl
theorem e4_adopt (m : Nat) (t : List T) (o : Option (List Int)) (x : Bool) : (e4 m t o).adopt x = e4 m t o := by
 obtain ⟨a,b,w,v,e⟩ := e4_st m t o
 rw [e]; rfl
theorem e4_cells (m : Nat) (t : List T) (o : Option (List Int)) : (e4 m t o).cells.length = 4 := by
 obtain ⟨a,b,w,v,e⟩ := e4_st m t o
 rw [e]; rfl
theorem lend_e4 (m : Nat) (t : List T) (P : Pts) : lendL (P.map (e4 m t)) = P.map (e4 m t) := by
 rw [lendL_map,List.map_map]
 exact List.map_congr_left fun o _ => e4_lend m t o
theorem adopt_e4 (m : Nat) (t : List T) (x : Bool) (P : Pts) : adoptL x (P.map (e4 m t)) = P.map (e4 m t) := by
 rw [adoptL_map,List.map_map]
 exact List.map_congr_left fun o _ => e4_adopt m t o x
theorem new_e4 (m : Nat) (t : List T) (P : Pts) : allNewL (P.map (e4 m t)) = true := by
 rw [allNewL_all,List.all_map,List.all_eq_true]
 intro o _
 obtain ⟨a,b,w,v,e⟩ := e4_st m t o
 show (e4 m t o).allNew = true
 rw [e]; rfl
theorem wid_e4 (m : Nat) (t : List T) (P : Pts) : ∀ e ∈ P.map (e4 m t),e.cells.length = 4 := fun e he => by
 obtain ⟨o,_,rfl⟩ := List.mem_map.1 he
 exact e4_cells m t o
theorem atN_e4 {m : Nat} {t : List T} {P : Pts} {p : Nat} {o : Option (List Int)} (h : P[p]? = some o) : atN (P.map (e4 m t)) p = some (e4 m t o) := by
 show (P.map (e4 m t))[p]? = _
 rw [List.getElem?_map,h]; rfl
/-- what comesTo answers,and what it leaves of the row -/
def ctR (m : Nat) (t : List T) (pts : Pts) : Option Pts → DV × List DV
 | some q => (.b true,[.fr 4 (q.map (e4 m t))])
 | none => (.b false,[.fr 4 (pts.map (e4 m t))])
set_option maxHeartbeats 4000000 in
theorem c_comesTo {m : Nat} {t : List T} {pts : Pts} {p a : Int} {ks : List Int} (h1 : tmOk m t = true) (hl : ks.length = m) (hk : ks.all kOk = true) (hp : -1 ≤ p ∧ p ≤ 100) (hn : pts.length ≤ 40) :
  call lf n_impl_comesTo [.fr 4 (pts.map (e4 m t)),.i p,.i a,pD m t ks] = some (ctR m t pts (cTo m t pts p a ks)) := by
 obtain ⟨h3,_,_⟩ := tmOk_iff.1 h1
 have F := c_isForced h1 hl hk
 have W := c_impl_isWithin a (p + 1) ((pts.length : Int) - 1)
 have w1 : wr (p + 1) = p + 1 := wr_id (by omega) (by omega)
 have w2 : wr ((pts.length : Int) - 1) = (pts.length : Int) - 1 := wr_id (by omega) (by omega)
 have len : (pts.map (e4 m t)).length = pts.length := by simp
 have wid := wid_e4 m t pts
 have ad := fun x => adopt_e4 m t x pts
 rw [call_k lf n_impl_comesTo _ (F := F_impl_comesTo) rfl rfl]
 unfold cTo
 by_cases ha : a = -1
 ·subst ha
  unfold pD pv at *
  cases hf : fcd m t ks with
  | true =>
   rw [hf] at F
   rw [if_pos (.inl rfl),if_pos ⟨rfl,rfl⟩]
   simp only [ctR]
   generalize pts.map (e4 m t) = M at *
   simp [F_impl_comesTo,F,len]
  | false =>
   rw [hf] at F
   rw [if_pos (.inl rfl),if_neg (by simp)]
   simp only [ctR]
   generalize pts.map (e4 m t) = M at *
   simp [F_impl_comesTo,F,len]
 ·have na : (a == -1) = false := beq_eq_false_iff_ne.2 ha
  cases hf : fcd m t ks with
  | true =>
   rw [hf] at F
   rw [if_pos (.inr rfl),if_neg (fun h => ha h.1)]
   simp only [ctR]
   unfold pD pv at *
   generalize pts.map (e4 m t) = M at *
   simp [F_impl_comesTo,F,na,len]
  | false =>
   rw [hf] at F
   rw [if_neg (by simp [ha])]
   by_cases hw : p + 1 ≤ a ∧ a ≤ (pts.length : Int) - 1
   ·rw [decide_eq_true hw] at W
    obtain ⟨n,rfl⟩ := Int.eq_ofNat_of_zero_le (a := a) (by omega)
    rw [Int.toNat_natCast]
    have hlt : n < pts.length := by omega
    have hlt' : (n : Int) < pts.length := by omega
    obtain ⟨o,ho⟩ : ∃ o,pts[n]? = some o := ⟨pts[n],List.getElem?_eq_getElem hlt⟩
    have A := atN_e4 (m := m) (t := t) ho
    cases o with
    | none =>
     rw [if_pos ⟨hw.1,hw.2,ho⟩]
     simp only [ctR]
     have e : (pts.set n (some ks)).map (e4 m t) = (pts.map (e4 m t)).set n (pD m t ks) := by rw [List.map_set]; rfl
     rw [e]
     simp only [e4] at A
     unfold pD pv at *
     have z1 : ((0 : Int) == 0) = true := rfl
     have z2 : ((0#32 : BitVec 32) == 0#32) = true := rfl
     generalize pts.map (e4 m t) = M at *
     generalize pts.length = N at *
     simp [F_impl_comesTo,F,na,w1,w2,W,len,hlt,hlt',A,eqI]
    | some ls =>
     rw [if_neg (by rw [ho]; rintro ⟨_,_,h⟩; cases h)]
     simp only [ctR]
     simp only [e4] at A
     unfold pD pv at *
     have m0 : ((m : Int) == 0) = false := beq_eq_false_iff_ne.2 (by omega)
     generalize pts.map (e4 m t) = M at *
     generalize pts.length = N at *
     simp [F_impl_comesTo,F,na,w1,w2,W,len,hlt,hlt',A,eqI,m0]
   ·rw [decide_eq_false hw] at W
    rw [if_neg (fun h => hw ⟨h.1,h.2.1⟩)]
    simp only [ctR]
    unfold pD pv at *
    generalize pts.map (e4 m t) = M at *
    simp [F_impl_comesTo,F,na,w1,w2,W,len]
def stPt (m : Nat) (t : List T) (P : List C3) (p : Nat) (pts : Pts) : LS :=
 ⟨[(8,.own 11808 P.length 0 P.length),(32,.sl 0 (P.map e3)),(33,.i P.length),(34,.i p)],[(11808,pts.map (e4 m t))]⟩
def noPt : LS := ⟨[(6,.own 3104 0 0 0),(7,.b false)],[(3104,[])]⟩
set_option maxHeartbeats 8000000 in
theorem pt_step {m : Nat} {t : List T} {P : List C3} {p : Nat} {pts : Pts} {c : C3} (h1 : tmOk m t = true) (hc : P[p]? = some c) (hP : P.length ≤ 31) (hl : pts.length = P.length)
  (ho : ∀ (a : Nat) (ks : List Int),pts[a]? = some (some ks) → ks.length = m ∧ ks.all kOk = true) :
  ex lf F_impl_pointsOf_L0 (stPt m t P p pts) = match rn1 m t pts p c with
   | some q => some (.normal,stPt m t P (p + 1) q)
   | none => some (.ret,noPt) := by
 obtain ⟨h3,_,_⟩ := tmOk_iff.1 h1
 obtain ⟨k,no,ye⟩ := c
 have hlt : p < P.length := (List.getElem?_eq_some_iff.1 hc).1
 have hlt' : (p : Int) < P.length := by omega
 have AP := at_e3 hc
 have AN := atN_e3 hc
 simp only at AP AN
 obtain ⟨o,hpo⟩ : ∃ o,pts[p]? = some o := ⟨pts[p]'(by omega),List.getElem?_eq_getElem (by omega)⟩
 have A := atN_e4 (m := m) (t := t) hpo
 have len : (pts.map (e4 m t)).length = P.length := by simp [hl]
 have wid := wid_e4 m t pts
 have ld := lend_e4 m t pts
 have ad := fun x => adopt_e4 m t x pts
 have w1 : wr ((p : Int) + 1) = ((p + 1 : Nat) : Int) := by rw [wr_id (by omega) (by omega)]; omega
 unfold rn1
 rw [hpo]
 cases o with
 | none =>
  simp only
  have C := c_canAsk0 k
  simp only [e4] at A
  unfold stPt noPt
  unfold pv at *
  generalize pts.map (e4 m t) = M at *
  generalize P.length = N at *
  simp [F_impl_pointsOf_L0,hlt,hlt',AP,AN,len,A,C,w1,-Int.natCast_add]
 | some ks =>
  simp only
  obtain ⟨o1,o2⟩ := ho p ks hpo
  have C := c_canAsk (t := t) (ks := ks) (by omega) o1 k
  simp only [e4] at A
  by_cases hk : (0 ≤ k ∧ k < m) ∧ ks[k.toNat]? = some (-1)
  ·have ca : caK m ks k = true := by unfold caK; rw [decide_eq_true hk.1,decide_eq_true hk.2]; rfl
   rw [ca] at C
   rw [if_pos hk]
   obtain ⟨j,rfl⟩ := Int.eq_ofNat_of_zero_le hk.1.1
   rw [Int.toNat_natCast] at hk ⊢
   have B0 := c_answered (m := m) (t := t) false (by omega) o2 hk.2
   have B1 := c_answered (m := m) (t := t) true (by omega) o2 hk.2
   rw [bI_0] at B0
   rw [bI_1] at B1
   have k0 : (ks.set j 0).all kOk = true := kOk_set o2 j false
   have k1 : (ks.set j 1).all kOk = true := kOk_set o2 j true
   have G0 := c_comesTo (pts := pts) (p := p) (a := no) h1 (ks := ks.set j 0) (by simpa using o1) k0 ⟨by omega,by omega⟩ (by omega)
   cases hc0 : cTo m t pts p no (ks.set j 0) with
   | none =>
    rw [hc0] at G0
    simp only [ctR] at G0
    rw [Option.bind_none]
    simp only
    unfold stPt noPt
    unfold pD pv at *
    generalize pts.map (e4 m t) = M at *
    generalize P.length = N at *
    simp [F_impl_pointsOf_L0,hlt,hlt',AP,AN,len,A,C,B0,G0,ld,ad,w1,-Int.natCast_add]
   | some q1 =>
    rw [hc0] at G0
    simp only [ctR] at G0
    rw [Option.bind_some]
    have l1 := cTo_len (by omega) hc0
    have len1 : (q1.map (e4 m t)).length = P.length := by simp [l1,hl]
    have ld1 := lend_e4 m t q1
    have ad1 := fun x => adopt_e4 m t x q1
    have G1 := c_comesTo (pts := q1) (p := p) (a := ye) h1 (ks := ks.set j 1) (by simpa using o1) k1 ⟨by omega,by omega⟩ (by omega)
    cases hc1 : cTo m t q1 p ye (ks.set j 1) with
    | none =>
     rw [hc1] at G1
     simp only [ctR] at G1
     simp only
     unfold stPt noPt
     unfold pD pv at *
     generalize pts.map (e4 m t) = M at *
     generalize q1.map (e4 m t) = M1 at *
     generalize P.length = N at *
     simp [F_impl_pointsOf_L0,hlt,hlt',AP,AN,len,A,C,B0,B1,G0,G1,len1,ld,ad,ld1,ad1,w1,-Int.natCast_add]
    | some q2 =>
     rw [hc1] at G1
     simp only [ctR] at G1
     simp only
     have ad2 := fun x => adopt_e4 m t x q2
     unfold stPt
     unfold pD pv at *
     generalize pts.map (e4 m t) = M at *
     generalize q1.map (e4 m t) = M1 at *
     generalize q2.map (e4 m t) = M2 at *
     generalize P.length = N at *
     simp [F_impl_pointsOf_L0,hlt,hlt',AP,AN,len,A,C,B0,B1,G0,G1,len1,ld,ad,ld1,ad1,ad2,w1,-Int.natCast_add]
  ·have ca : caK m ks k = false := by
    unfold caK
    by_cases q : 0 ≤ k ∧ k < m
    ·rw [decide_eq_true q,decide_eq_false (fun h => hk ⟨q,h⟩)]; rfl
    ·rw [decide_eq_false q]; rfl
   rw [ca] at C
   rw [if_neg hk]
   simp only
   unfold stPt noPt
   unfold pD pv at *
   generalize pts.map (e4 m t) = M at *
   generalize P.length = N at *
   simp [F_impl_pointsOf_L0,hlt,hlt',AP,AN,len,A,C,w1,-Int.natCast_add]
end
section
attribute [-simp] DV.cells
attribute [local simp] sliceD cells_st cells_sl cells_i cells_y cells_b cells_s cells_w
attribute [local simp] lend_e3 adopt_e3 new_e3 al_e3 lt_e3
theorem pt_loop {m : Nat} {t : List T} {P : List C3} (h1 : tmOk m t = true) (hP : P.length ≤ 31) : ∀ (rest : List C3) (p : Nat) (pts : Pts),P.drop p = rest → p ≤ P.length → Inv m t P p pts →
  ex lf F_impl_pointsOf_W0 (stPt m t P p pts) = match rnA m t rest p pts with
   | some q => some (.exit 0,stPt m t P P.length q)
   | none => some (.ret,noPt)
 | [],p,pts,hd,hp,h => by
  have : P.length ≤ p := List.drop_eq_nil_iff.1 hd
  have e : p = P.length := by omega
  subst e
  rw [w_impl_pointsOf_0]
  unfold stPt
  have nlt : ¬ ((P.length : Int) < P.length) := by omega
  simp [F_impl_pointsOf_L0,nlt,rnA]
 | c :: r,p,pts,hd,hp,h => by
  have hc : P[p]? = some c := by
   have : (P.drop p)[0]? = some c := by rw [hd]; rfl
   rw [List.getElem?_drop,Nat.add_zero] at this
   exact this
  have hlt : p < P.length := (List.getElem?_eq_some_iff.1 hc).1
  have hd' : P.drop (p + 1) = r := by
   rw [← List.drop_drop,hd]
   rfl
  have S := pt_step h1 hc hP h.len (fun a ks ha => by obtain ⟨q1,q2,_⟩ := h.ok a ks ha; exact ⟨q1,q2⟩)
  rw [w_impl_pointsOf_0,S]
  simp only [rnA]
  cases hr : rn1 m t pts p c with
  | none => rfl
  | some q =>
   rw [Option.bind_some]
   exact pt_loop h1 hP r (p + 1) q hd' (by omega) (inv_step hc h hr)
/-- the rows of points,and whether there is one -/
def ptR (m : Int) (t : List T) (P : List C3) : Option Pts := if tmOk m t && decide (P.length ≤ 31) then rnS m.toNat t P else none
theorem ptR_iff {m : Int} {t : List T} {P : List C3} : (∃ q,ptR m t P = some q) ↔ pkOk m t P = true := by
 unfold ptR
 cases h1 : tmOk m t with
 | false =>
  simp only [Bool.false_and,Bool.false_eq_true,if_false]
  unfold pkOk
  rw [h1]
  simp
 | true =>
  obtain ⟨h3,_,_⟩ := tmOk_iff.1 h1
  obtain ⟨n,rfl⟩ := Int.eq_ofNat_of_zero_le (a := m) (by omega)
  rw [pk_iff,Int.toNat_natCast]
  by_cases h : P.length ≤ 31
  ·rw [decide_eq_true h,Bool.and_self,if_pos rfl,rnS_iff h]
   exact ⟨fun q => ⟨h1,q⟩,fun q => q.2⟩
  ·rw [decide_eq_false h]
   simp only [Bool.and_false,Bool.false_eq_true,if_false]
   constructor
   ·rintro ⟨q,h⟩; cases h
   ·rintro ⟨_,L,hL⟩; exact absurd hL.few h
def ptD (m : Int) (t : List T) : Option Pts → List DV
 | some q => q.map (e4 m.toNat t)
 | none => []
set_option maxHeartbeats 4000000 in
theorem c_pointsOf {m : Int} {t : List T} {P : List C3} (ht : (t.length : Int) < 1099511627776) (hN : (P.length : Int) < 1099511627776) :
  call lf n_impl_pointsOf [.i m,.sl 0 (t.map e2),.sl 0 (P.map e3)] = some (.tup [.fr 4 (ptD m t (ptR m t P)),.b (ptR m t P).isSome],[]) := by
 have C1 := c_impl_TermOk m t ht
 rw [call_k lf n_impl_pointsOf _ (F := F_impl_pointsOf) rfl rfl]
 have lP : (P.map e3).length = P.length := by simp
 unfold ptR
 cases h1 : tmOk m t with
 | false => rw [h1] at C1; simp [F_impl_pointsOf,C1,ptD]
 | true =>
  rw [h1] at C1
  obtain ⟨h3,_,_⟩ := tmOk_iff.1 h1
  obtain ⟨n,rfl⟩ := Int.eq_ofNat_of_zero_le (a := m) (by omega)
  rw [Int.toNat_natCast]
  by_cases h : P.length ≤ 31
  ·have ng : ¬ (31 : Int) < P.length := by omega
   rw [decide_eq_true h,Bool.and_self,if_pos rfl]
   have C2 := c_firstOf P hN
   have C3 := c_startOf (t := t) (by omega) h1
   have r1 : -1 ≤ rot P := by unfold rot; split <;> omega
   have C4 := c_comesTo (pts := List.replicate P.length none) (p := -1) (a := rot P) h1 (non_len n) (non_all n) ⟨by omega,by omega⟩ (by rw [List.length_replicate]; omega)
   have lE := lend_e3 P
   have rp : (List.replicate P.length (none : Option (List Int))).map (e4 n t) = List.replicate P.length (.st [.i 0,.i 0,.w (0#32),.w (0#32)]) := by rw [List.map_replicate]; rfl
   have ldr := lend_e4 n t (List.replicate P.length none)
   have adr := fun x => adopt_e4 n t x (List.replicate P.length none)
   rw [rp] at C4 ldr adr
   have lb : (P.length : Int) ≤ (bound : Int) := by unfold bound; omega
   unfold rnS
   cases hq : cTo n t (List.replicate P.length none) (-1) (rot P) (non n) with
   | none =>
    rw [hq] at C4
    simp only [ctR] at C4
    rw [rp] at C4
    rw [Option.bind_none]
    unfold pD pv at *
    generalize P.map e3 = Q at *
    generalize rot P = r0 at *
    generalize P.length = N at *
    have lr : (List.replicate N (DV.st [.i 0,.i 0,.w (0#32),.w (0#32)])).length = N := by simp
    simp [F_impl_pointsOf,C1,C2,C3,C4,ng,lb,lP,lE,ldr,adr,lr,ptD]
   | some q0 =>
    rw [hq] at C4
    simp only [ctR] at C4
    rw [Option.bind_some]
    obtain ⟨iv,_⟩ := inv_start hq
    have L := pt_loop h1 h P 0 q0 rfl (Nat.zero_le _) iv
    have ad0 := fun x => adopt_e4 n t x q0
    have lq0 : (q0.map (e4 n t)).length = P.length := by rw [List.length_map,iv.len]
    cases hr : rnA n t P 0 q0 with
    | none =>
     rw [hr] at L
     simp only at L
     unfold stPt noPt at L
     unfold pD pv at *
     generalize q0.map (e4 n t) = M at *
     generalize P.map e3 = Q at *
     generalize rot P = r0 at *
     generalize P.length = N at *
     have lr : (List.replicate N (DV.st [.i 0,.i 0,.w (0#32),.w (0#32)])).length = N := by simp
     simp only [Int.natCast_zero] at L
     simp [F_impl_pointsOf,C1,C2,C3,C4,ng,lb,lP,lE,ldr,ad0,lr,L,ptD]
    | some q =>
     rw [hr] at L
     simp only at L
     have iv2 := inv_all P 0 q0 q rfl (Nat.zero_le _) iv hr
     have lq : (q.map (e4 n t)).length = P.length := by rw [List.length_map,iv2.len]
     unfold stPt at L
     unfold pD pv at *
     simp only [ptD,Int.toNat_natCast]
     generalize q.map (e4 n t) = M2 at *
     generalize q0.map (e4 n t) = M at *
     generalize P.map e3 = Q at *
     generalize rot P = r0 at *
     generalize P.length = N at *
     have lr : (List.replicate N (DV.st [.i 0,.i 0,.w (0#32),.w (0#32)])).length = N := by simp
     simp only [Int.natCast_zero] at L
     simp [F_impl_pointsOf,C1,C2,C3,C4,ng,lb,lP,lE,ldr,ad0,lr,L,lq]
  ·have ng : (31 : Int) < P.length := by omega
   rw [decide_eq_false h]
   generalize P.map e3 = Q at *
   generalize P.length = N at *
   simp [F_impl_pointsOf,C1,ng,lP,ptD]
theorem c_impl_PlanOk {m : Int} {t : List T} {P : List C3} (ht : (t.length : Int) < 1099511627776) (hN : (P.length : Int) < 1099511627776) :
  call lf n_impl_PlanOk [.i m,.sl 0 (t.map e2),.sl 0 (P.map e3)] = some (.b (pkOk m t P),[]) := by
 have C := c_pointsOf (m := m) (t := t) (P := P) ht hN
 have e : (ptR m t P).isSome = pkOk m t P := by
  have q := ptR_iff (m := m) (t := t) (P := P)
  rw [Bool.eq_iff_iff,Option.isSome_iff_exists]
  exact q
 rw [e] at C
 have nw : allNewL (ptD m t (ptR m t P)) = true := by
  cases ptR m t P with
  | none => rfl
  | some q => exact new_e4 _ _ _
 rw [call_k lf n_impl_PlanOk _ (F := F_impl_PlanOk) rfl rfl]
 generalize ptD m t (ptR m t P) = M at *
 simp [F_impl_PlanOk,C,nw]
structure Fin (m : Nat) (t : List T) (P : List C3) (L : LT) (pts : Pts) : Prop where
 inv : Inv m t P P.length pts
 start : go3 m t P.length pts (-1) (rot P) (non m)
end
section
/-- the weight of what is known -/
def kp : List T → List Int → Int
 | t :: r,k :: ks => (if k = -1 then 1 else if k = 1 then t.2 else 6 - t.2) * kp r ks
 | _,_ => 1
end
section
def pA (us : List T) (k : Nat) : Int := (us.getD k (0,0)).2
end
section
structure CS where
 c : Nat → Int
 p : Nat → Int
 q : Nat → Int
 lA : Nat → Nat → Bool
 lB : Nat → Nat → Bool
 ch : List Nat → Nat → Nat
def rk (l : Nat → Nat → Bool) (S : List Nat) (i : Nat) : Nat := S.countP fun x => l x i
def CS.inA (C : CS) (S : List Nat) (k i : Nat) : Prop := rk C.lA S i < k
def CS.inB (C : CS) (S : List Nat) (k i : Nat) : Prop := rk C.lB S i + k ≤ S.length
/-- a strict order of all -/
structure SO (D : Nat → Prop) (l : Nat → Nat → Bool) : Prop where
 asy : ∀ a b,D a → D b → l a b = true → l b a = false
 tr : ∀ a b c,D a → D b → D c → l a b = true → l b c = true → l a c = true
 tot : ∀ a b,D a → D b → a ≠ b → l a b = true ∨ l b a = true
structure CSok (C : CS) (D : Nat → Prop) : Prop where
 c0 : ∀ i,D i → 0 ≤ C.c i
 pq : ∀ i,D i → 0 ≤ C.p i ∧ 0 ≤ C.q i ∧ C.p i + C.q i = 6
 oA : SO D C.lA
 oB : SO D C.lB
 rA : ∀ i j,D i → D j → C.lA i j = true → C.c i * C.p j ≤ C.c j * C.p i
 rB : ∀ i j,D i → D j → C.lB i j = true → C.c i * C.q j ≤ C.c j * C.q i
 ch : ∀ S k,S.Nodup → (∀ x ∈ S,D x) → 1 ≤ k → k ≤ S.length → C.ch S k ∈ S ∧ C.inA S k (C.ch S k) ∧ C.inB S k (C.ch S k)
theorem rk_erase (l : Nat → Nat → Bool) {S : List Nat} {j : Nat} (hj : j ∈ S) (i : Nat) : rk l S i = rk l (S.erase j) i + if l j i = true then 1 else 0 := by
 unfold rk
 rw [(List.perm_cons_erase hj).countP_eq,List.countP_cons]
theorem rk_mono {D : Nat → Prop} {l : Nat → Nat → Bool} (h : SO D l) {S : List Nat} (hS : ∀ x ∈ S,D x) {i j : Nat} (hi : i ∈ S) (dj : D j) (hl : l i j = true) : rk l S i < rk l S j := by
 have di := hS i hi
 have a := rk_erase l hi i
 have b := rk_erase l hi j
 have ii : l i i = false := by
  cases e : l i i with
  | false => rfl
  | true => have := h.asy i i di di e; rw [e] at this; exact this
 rw [ii] at a
 rw [hl] at b
 have m : rk l (S.erase i) i ≤ rk l (S.erase i) j := List.countP_mono_left fun x hx q => h.tr x i j (hS x (List.mem_of_mem_erase hx)) di dj q hl
 simp at a b
 omega
/-- what the rule costs -/
def vR (C : CS) : Nat → List Nat → Nat → Int
 | 0,_,_ => 0
 | f + 1,S,k => if k = 0 ∨ S.length < k then 0 else 6 ^ S.length * C.c (C.ch S k) + C.p (C.ch S k) * vR C f (S.erase (C.ch S k)) (k - 1) + C.q (C.ch S k) * vR C f (S.erase (C.ch S k)) k
def CS.V (C : CS) (S : List Nat) (k : Nat) : Int := vR C S.length S k
def CS.W (C : CS) (S : List Nat) (k i : Nat) : Int := 6 ^ S.length * C.c i + C.p i * C.V (S.erase i) (k - 1) + C.q i * C.V (S.erase i) k
theorem V_step {C : CS} {D : Nat → Prop} (ok : CSok C D) {S : List Nat} (nd : S.Nodup) (hS : ∀ x ∈ S,D x) {k : Nat} (h1 : 1 ≤ k) (h2 : k ≤ S.length) : C.V S k = C.W S k (C.ch S k) := by
 have hm := (ok.ch S k nd hS h1 h2).1
 have le := List.length_erase_of_mem hm
 unfold CS.W CS.V
 rw [le]
 obtain ⟨n,hn⟩ : ∃ n,S.length = n + 1 := ⟨S.length - 1,by omega⟩
 rw [hn]
 simp only [vR]
 rw [if_neg (by omega),hn]
 rfl
end
section
variable {C : CS} {D : Nat → Prop}
theorem inA_two (ok : CSok C D) {S : List Nat} (nd : S.Nodup) (hS : ∀ x ∈ S,D x) {k i j : Nat} (hi : i ∈ S) (hj : j ∈ S) (hne : i ≠ j) (ai : C.inA S k i) (aj : C.inA S k j) : C.inA (S.erase j) (k - 1) i := by
 unfold CS.inA at *
 have e := rk_erase C.lA hj i
 rcases ok.oA.tot i j (hS i hi) (hS j hj) hne with q | q
 ·have m := rk_mono ok.oA hS hi (hS j hj) q
  rw [ok.oA.asy i j (hS i hi) (hS j hj) q] at e
  simp at e
  omega
 ·have m := rk_mono ok.oA hS hj (hS i hi) q
  rw [q] at e
  simp at e
  omega
theorem inB_two (ok : CSok C D) {S : List Nat} (nd : S.Nodup) (hS : ∀ x ∈ S,D x) {k i j : Nat} (hi : i ∈ S) (hj : j ∈ S) (hne : i ≠ j) (ai : C.inB S k i) (aj : C.inB S k j) : C.inB (S.erase j) k i := by
 unfold CS.inB at *
 have e := rk_erase C.lB hj i
 have le := List.length_erase_of_mem hj
 have pos : 0 < S.length := List.length_pos_of_mem hj
 rcases ok.oB.tot i j (hS i hi) (hS j hj) hne with q | q
 ·have m := rk_mono ok.oB hS hi (hS j hj) q
  rw [ok.oB.asy i j (hS i hi) (hS j hj) q] at e
  simp at e
  omega
 ·have m := rk_mono ok.oB hS hj (hS i hi) q
  rw [q] at e
  simp at e
  omega
theorem inA_less {S : List Nat} {k i j : Nat} (hj : j ∈ S) (ai : C.inA S k i) : C.inA (S.erase j) k i := by
 unfold CS.inA at *
 have e := rk_erase C.lA hj i
 omega
theorem inB_less {S : List Nat} {k i j : Nat} (hj : j ∈ S) (hk : 1 ≤ k) (ai : C.inB S k i) : C.inB (S.erase j) (k - 1) i := by
 unfold CS.inB at *
 have e := rk_erase C.lB hj i
 have le := List.length_erase_of_mem hj
 have pos : 0 < S.length := List.length_pos_of_mem hj
 omega
/-- what is said of all sets of so many tests -/
structure CM (C : CS) (D : Nat → Prop) (n : Nat) : Prop where
 E : ∀ S : List Nat,S.length = n → S.Nodup → (∀ x ∈ S,D x) → ∀ k i,1 ≤ k → k ≤ n → i ∈ S → C.inA S k i → C.inB S k i → C.V S k = C.W S k i
 L : ∀ T : List Nat,T.length = n → T.Nodup → (∀ x ∈ T,D x) → ∀ k y z,1 ≤ k → k + 1 ≤ n → y ∈ T → z ∈ T → y ≠ z → C.inA (T.erase z) k y → C.c y * C.q z ≤ C.c z * C.q y →
  (C.V (T.erase y) k - 6 * C.V ((T.erase z).erase y) (k - 1)) * C.q y ≤ (C.V (T.erase z) k - 6 * C.V ((T.erase z).erase y) (k - 1)) * C.q z + 6 ^ (n - 1) * (C.c z * C.q y - C.c y * C.q z)
 R : ∀ S : List Nat,S.length = n → S.Nodup → (∀ x ∈ S,D x) → ∀ k j,1 ≤ k → k ≤ n → j ∈ S → C.V S k ≤ C.W S k j
theorem cE (ok : CSok C D) {n : Nat} (ih : CM C D n) : ∀ S : List Nat,S.length = n + 1 → S.Nodup → (∀ x ∈ S,D x) → ∀ k i,1 ≤ k → k ≤ n + 1 → i ∈ S → C.inA S k i → C.inB S k i → C.V S k = C.W S k i := by
 intro S hl nd hS k i h1 h2 hi ai bi
 obtain ⟨m,am,bm⟩ := ok.ch S k nd hS h1 (by omega)
 rw [V_step ok nd hS h1 (by omega)]
 generalize C.ch S k = j at *
 by_cases e : i = j
 ·rw [e]
 have si := List.length_erase_of_mem hi
 have sj := List.length_erase_of_mem m
 have nde : ∀ x,(S.erase x).Nodup := fun x => nd.erase x
 have hSe : ∀ y,∀ x ∈ S.erase y,D x := fun y x hx => hS x (List.mem_of_mem_erase hx)
 have ij : i ∈ S.erase j := (List.mem_erase_of_ne e).2 hi
 have ji : j ∈ S.erase i := (List.mem_erase_of_ne (Ne.symm e)).2 m
 have a1 := inA_two ok nd hS hi m e ai am
 have a2 := inA_two ok nd hS m hi (Ne.symm e) am ai
 have b1 := inB_two ok nd hS hi m e bi bm
 have b2 := inB_two ok nd hS m hi (Ne.symm e) bm bi
 have k1 : 2 ≤ k := by unfold CS.inA at a1; omega
 have k2 : k ≤ n := by unfold CS.inB at b1; omega
 have w1 := ih.E (S.erase j) (by omega) (nde j) (hSe j) (k - 1) i (by omega) (by omega) ij a1 (inB_less m (by omega) bi)
 have w2 := ih.E (S.erase j) (by omega) (nde j) (hSe j) k i (by omega) (by omega) ij (inA_less m ai) b1
 have w3 := ih.E (S.erase i) (by omega) (nde i) (hSe i) (k - 1) j (by omega) (by omega) ji a2 (inB_less hi (by omega) bm)
 have w4 := ih.E (S.erase i) (by omega) (nde i) (hSe i) k j (by omega) (by omega) ji (inA_less hi am) b2
 have ec : (S.erase i).erase j = (S.erase j).erase i := List.erase_comm ..
 unfold CS.W at *
 rw [w1,w2,w3,w4,ec,si,sj,hl]
 have p6 : (6 : Int) ^ (n + 1) = 6 * 6 ^ (n + 1 - 1) := by rw [Nat.add_sub_cancel,Int.pow_succ,Int.mul_comm]
 rw [p6]
 have pi := (ok.pq i (hS i hi)).2.2
 have pj := (ok.pq j (hS j m)).2.2
 have qi : C.q i = 6 - C.p i := by omega
 have qj : C.q j = 6 - C.p j := by omega
 rw [qi,qj]
 generalize (6 : Int) ^ (n + 1 - 1) = X
 generalize C.V ((S.erase j).erase i) (k - 1 - 1) = v1
 generalize C.V ((S.erase j).erase i) (k - 1) = v2
 generalize C.V ((S.erase j).erase i) k = v3
 grind
end
section
/-- tests,the two orders by ratios,and the least test of both -/
def tltA (us : List T) (a b : Nat) : Bool := decide (cA us a * pA us b < cA us b * pA us a ∨ cA us b * pA us a = cA us a * pA us b ∧ a < b)
def tltB (us : List T) (a b : Nat) : Bool := decide (cA us a * (6 - pA us b) < cA us b * (6 - pA us a) ∨ cA us b * (6 - pA us a) = cA us a * (6 - pA us b) ∧ a < b)
def bothL (us : List T) (S : List Nat) (k : Nat) : List Nat := S.filter fun i => decide (rk (tltA us) S i < k) && decide (rk (tltB us) S i + k ≤ S.length)
def cs (us : List T) : CS := ⟨cA us,pA us,fun i => 6 - pA us i,tltA us,tltB us,fun S k => (bothL us S k).headD 0⟩
end
section
/-- what is not known,and how many yes -/
def unk (m : Nat) (ks : List Int) : List Nat := (List.range m).filter fun k => ks[k]? == some (-1)
end
section
/-- one more of the first ones -/
def stpF (so n a k : Nat) : Nat := if pc a < n ∧ so.testBit k = true then a ||| 2 ^ k else a
def fF (so n : Nat) (l : List Nat) : Nat := l.foldl (stpF so n) 0
/-- what is left,in ascending order -/
def Sl (m so : Nat) : List Nat := (List.range m).filter fun k => so.testBit k
/-- the next one -/
def nx (us : List T) (so k : Nat) : Nat := (cs us).ch (Sl us.length so) k
end
section
attribute [-simp] DV.cells sliceD
attribute [local simp] cells_st cells_sl cells_i cells_y cells_b cells_s cells_w
/-- how many bits are ones,one by one -/
def hb : Nat → Nat → Nat
 | 0,_ => 0
 | f + 1,n => n % 2 + hb f (n / 2)
def ctOk (us : List T) (k : Int) : Bool := tsOk us && decide (1 ≤ k ∧ k ≤ us.length)
end
section
attribute [-simp] DV.cells
attribute [local simp] sliceD cells_st cells_sl cells_i cells_y cells_b cells_s cells_w
attribute [local simp] lend_e3 adopt_e3 new_e3 al_e3 lt_e3
theorem c_l20Planned {bs : List Nat} (hb : ∀ y ∈ bs,y < 256) (hl : bs.length ≤ 2000) {n : Int} (hn : 1 ≤ n) (hn2 : n ≤ 100000) :
  ∃ (m : Nat) (t : List T) (P : List C3) (q : Int),m ≤ 5 ∧ t.length ≤ 12 ∧ P.length ≤ 32 ∧ (0 ≤ q ∧ q ≤ 120) ∧
   call lf n_spec_l20Planned [.ref (.st [.sl 0 (bs.map .y),.i 0]),.i n] = some (.tup [.i m,.sl 1 (t.map e2),.fr 3 (P.map e3)],[.st [.sl 2 (bs.map .y),.i q]]) := by
 obtain ⟨us,t,P,p,q,u1,t1,l1,q1,h,h2⟩ := drawn_plan hb hl hn hn2
 refine ⟨us.length,t,P,q,u1,t1,l1,q1,?_⟩
 have tk := tk_e3 P
 rw [call_k lf n_spec_l20Planned _ (F := F_spec_l20Planned) rfl rfl]
 simp [F_spec_l20Planned,h,h2,tk]
theorem c_DrawPlanText {bs : List Nat} (hb : ∀ y ∈ bs,y < 256) (hl : bs.length ≤ 1048576) :
  ∃ (m : Nat) (t : List T) (P : List C3),m ≤ 5 ∧ t.length ≤ 12 ∧ P.length ≤ 32 ∧ call lf n_spec_DrawPlanText [.sl 0 (bs.map .y)] = some (.tup [.i m,.sl 1 (t.map e2),.fr 3 (P.map e3)],[]) := by
 obtain ⟨c1,c2⟩ := take_b hb
 have o := c_open hl
 generalize bs.take 2000 = cs at *
 obtain ⟨m,t,P,q,u1,t1,l1,q1,h⟩ := c_l20Planned c1 c2 (n := 9) (by omega) (by omega)
 refine ⟨m,t,P,u1,t1,l1,?_⟩
 have tk := tk_e3 P
 rw [call_k lf n_spec_DrawPlanText _ (F := F_spec_DrawPlanText) rfl rfl]
 simp [F_spec_DrawPlanText,o,h,tk]
end
section
attribute [-simp] DV.cells sliceD
attribute [local simp] cells_st cells_sl cells_i cells_y cells_b cells_s cells_w
attribute [local simp] lend_e3 adopt_e3 new_e3 al_e3 lt_e3
theorem c_impl_writeValue (b : Bool) : call lf n_impl_writeValue [.i (bI b)] = some (.s [dgt (bI b)],[]) := by
 have v0 : wr 48 = 48 := wr_id (by omega) (by omega)
 have v1 : wr 49 = 49 := wr_id (by omega) (by omega)
 have i0 : Go.IntKind.i32.wrap 48 = 48 ∧ Go.IntKind.i32.wrap 49 = 49 := by decide
 rw [call_k lf n_impl_writeValue _ (F := F_impl_writeValue) rfl rfl]
 cases b <;> simp [F_impl_writeValue,bI,v0,v1,i0,dgt]
theorem c_impl_writeChoice {k : Nat} (hk : k < 5) {A B : List UInt8} (ha : A.length ≤ 100000) (hb : B.length ≤ 100000) : call lf n_impl_writeChoice [.i k,.s A,.s B] = some (.s (ltr k :: 40 :: (A ++ 44 :: (B ++ [41]))),[]) := by
 have C := c_impl_letterOf (a := k) ⟨by omega,by omega⟩
 have e : ((97 : Int) + k).toNat.toUInt8 = ltr k := by
  unfold ltr
  rw [show ((97 : Int) + k).toNat = 97 + k by omega]
 rw [e] at C
 have b0 : 2 ≤ bound := by unfold bound; omega
 have b1 : 2 + A.length ≤ bound := by unfold bound; omega
 have b2 : 2 + (A.length + 1) ≤ bound := by unfold bound; omega
 have b3 : A.length + 1 + 1 ≤ bound := by unfold bound; omega
 have b4 : A.length + 1 + 1 + 1 ≤ bound := by unfold bound; omega
 have b5 : A.length + (B.length + 1) + 1 + 1 ≤ bound := by unfold bound; omega
 have b6 : A.length + (B.length + 1 + 1) + 1 + 1 ≤ bound := by unfold bound; omega
 have b8 : A.length + 1 + 1 + 1 + B.length ≤ bound := by unfold bound; omega
 have b7 : A.length + (B.length + 1) + 1 + 1 + 1 ≤ bound := by unfold bound; omega
 rw [call_k lf n_impl_writeChoice _ (F := F_impl_writeChoice) rfl rfl]
 generalize ltr k = l at *
 simp [F_impl_writeChoice,C,b0,b1,b2,b3,b4,b5,b6,b7,b8]
set_option maxHeartbeats 4000000 in
theorem c_foldPlan_string {m : Nat} (hm : m ≤ 5) {t : List T} (ht : tmOk m t = true) {P : List C3} (hP : P.length ≤ 40) : ∀ (L : LT) (a : Int) (ks : List Int),ks.length = m → ks.all kOk = true → enc P a L → okT m t ks L.er → L.size ≤ 40 →
  call lf n_impl_foldPlan_string [.sl 0 (P.map e3),.i a,pD m t ks,.fn n_impl_writeValue [],.fn n_impl_writeChoice []] = some (.s (ptx m t ks L.er),[])
 | .stop,a,ks,hl,hk,he,ho,_ => by
  have he : a = -1 := he
  subst he
  have C3 := c_value (t := t) ht hl hk
  obtain ⟨b,e,_⟩ := fcd_val hl hk ho
  rw [e] at C3
  have C1 := c_impl_writeValue b
  rw [call_k lf n_impl_foldPlan_string _ (F := F_impl_foldPlan_string) rfl rfl]
  simp only [LT.er,ptx,e]
  unfold pD pv at *
  generalize aN ks = x at *
  generalize lfW ks = y at *
  simp [F_impl_foldPlan_string,C3,C1]
 | .ask p k n y,a,ks,hl,hk,⟨e,no,ye,g1,g2,g3,g4,g5⟩,⟨o1,o2,o3,o4⟩,hz => by
  subst e
  simp only [LT.size] at hz
  have G0 := c_foldPlan_string hm ht hP n no (ks.set k (bI false)) (by simpa using hl) (kOk_set hk k false) g4 (by rw [bI_0]; exact o3) (by omega)
  have G1 := c_foldPlan_string hm ht hP y ye (ks.set k (bI true)) (by simpa using hl) (kOk_set hk k true) g5 (by rw [bI_1]; exact o4) (by omega)
  have kk : k < ks.length := (List.getElem?_eq_some_iff.1 o2).1
  have pp : p < P.length := (List.getElem?_eq_some_iff.1 g1).1
  have B0 := c_answered (m := m) (t := t) false (by omega) hk o2
  have B1 := c_answered (m := m) (t := t) true (by omega) hk o2
  rw [bI_0] at G0 B0
  rw [bI_1] at G1 B1
  have pc : (p : Int) < P.length := by omega
  have AT := at_e3 g1
  have AN := atN_e3 g1
  simp only at AT AN
  have pn : ((p : Int) == -1) = false := beq_eq_false_iff_ne.2 (by omega)
  have l0 := ptx_len m t n.er (ks.set k 0)
  have l1 := ptx_len m t y.er (ks.set k 1)
  rw [er_size] at l0 l1
  have W := c_impl_writeChoice (k := k) (by omega) (A := ptx m t (ks.set k 0) n.er) (B := ptx m t (ks.set k 1) y.er) (by omega) (by omega)
  have lE := lend_e3 P
  have lm : (P.map e3).length = P.length := by simp
  rw [call_k lf n_impl_foldPlan_string _ (F := F_impl_foldPlan_string) rfl rfl]
  simp only [LT.er,ptx]
  generalize ltr k :: 40 :: (ptx m t (ks.set k 0) n.er ++ 44 :: (ptx m t (ks.set k 1) y.er ++ [41])) = R at *
  generalize ptx m t (ks.set k 0) n.er = S0 at *
  generalize ptx m t (ks.set k 1) y.er = S1 at *
  unfold pD pv at *
  generalize aN (ks.set k 0) = x0 at *
  generalize lfW (ks.set k 0) = y0 at *
  generalize aN (ks.set k 1) = x1 at *
  generalize lfW (ks.set k 1) = y1 at *
  generalize aN ks = x at *
  generalize lfW ks = y at *
  generalize P.map e3 = E at *
  simp [F_impl_foldPlan_string,pn,AT,AN,pp,pc,lE,lm,B0,B1,G0,G1,W]
theorem c_impl_PlanText {m : Nat} {t : List T} {P : List C3} {L : LT} (hb : (t.length : Int) < 1099511627776) (ht : tmOk m t = true) (h : isPl m t P L) : call lf n_impl_PlanText [.i m,.sl 0 (t.map e2),.sl 0 (P.map e3)] = some (.s (ptx m t (non m) L.er),[]) := by
 obtain ⟨g3,g4,_⟩ := tmOk_iff.1 ht
 have few := h.few
 have C1 := c_impl_PlanOk (m := m) hb (P := P) (by omega)
 rw [pk_iff.2 ⟨ht,L,h⟩] at C1
 have C2 := c_firstOf P (by omega)
 have C3 := c_startOf (t := t) (m := m) (by omega) ht
 have C4 := c_foldPlan_string (m := m) (by omega) ht (P := P) (by omega) L (rot P) (non m) (non_len _) (non_all _) h.e h.ok (by rw [h.sz]; omega)
 have hLE := lend_e3 P
 have l2 := lend_e2 t
 rw [call_k lf n_impl_PlanText _ (F := F_impl_PlanText) rfl rfl]
 generalize ptx m t (non m) L.er = S at *
 unfold pD pv at *
 generalize P.map e3 = E at *
 simp [F_impl_PlanText,C1,C2,C3,C4,hLE]
theorem c_impl_PlanText_no {m : Int} {t : List T} {P : List C3} (hb : (t.length : Int) < 1099511627776) (hN : (P.length : Int) < 1099511627776) (h : pkOk m t P = false) : call lf n_impl_PlanText [.i m,.sl 0 (t.map e2),.sl 0 (P.map e3)] = some (.s [],[]) := by
 have C1 := c_impl_PlanOk (m := m) hb hN
 rw [h] at C1
 rw [call_k lf n_impl_PlanText _ (F := F_impl_PlanText) rfl rfl]
 simp [F_impl_PlanText,C1]
def z3 : DV := .st [.i 0,.i 0,.i 0]
end
section
attribute [-simp] DV.cells
attribute [local simp] sliceD cells_st cells_sl cells_i cells_y cells_b cells_s cells_w
attribute [local simp] lend_e3 adopt_e3 new_e3 al_e3 lt_e3
theorem bs_none (ob : OB) : b2sO ob none = none := rfl
def ysL (l : List UInt8) : List DV := l.map (fun b => .y b.toNat)
theorem lend_ysL (l : List UInt8) : lendL (ysL l) = ysL l := by unfold ysL; rw [lendL_map,List.map_map]; rfl
theorem adopt_ysL (o : Bool) (l : List UInt8) : adoptL o (ysL l) = ysL l := by unfold ysL; rw [adoptL_map,List.map_map]; rfl
def stNt (m : Nat) (P : List C3) (tn : List T) (S : List UInt8) (i : Nat) : LS :=
 ⟨[(3,.i m),(5,.own 7707 P.length 0 P.length),(6,.s S),(7,.own 11792 tn.length 0 tn.length),(8,.own 19464 i 0 i),(9,.i i)],[(7707,P.map e3),(11792,tn.map e2),(19464,ysL ((S.take i).map flp))]⟩
set_option maxHeartbeats 8000000 in
theorem nt_loop (m : Nat) (P : List C3) (tn : List T) {S : List UInt8} (hS : S.length ≤ 400) : ex lf F_laws_FnNotText_W0 (stNt m P tn S 0) = some (.exit 0,stNt m P tn S S.length) := by
 refine loop_count (lf := lf) (L := F_laws_FnNotText_L0) S.length (fun i => stNt m P tn S i) (fun i hi => ?_) ?_ (by intro h; cases h)
 ·have hi' : (i : Int) < S.length := by omega
  have ai : S[i]? = some S[i] := List.getElem?_eq_getElem hi
  have w1 : wr ((i : Int) + 1) = ((i + 1 : Nat) : Int) := by rw [wr_id (by omega) (by omega)]; omega
  have lb : i + 1 ≤ bound := by unfold bound; omega
  have e : ysL ((S.take (i + 1)).map flp) = ysL ((S.take i).map flp) ++ [.y (flp S[i]).toNat] := by
   unfold ysL
   rw [List.take_succ_eq_append_getElem hi,List.map_append,List.map_append]; rfl
  have ll : (ysL ((S.take i).map flp)).length = i := by unfold ysL; simp; omega
  have lE := lend_ysL ((S.take i).map flp)
  have aE := fun o => adopt_ysL o ((S.take i).map flp)
  have cE : ∀ x ∈ ysL ((S.take i).map flp),x.cells.length = 1 := fun x hx => by
   unfold ysL at hx
   obtain ⟨y,_,rfl⟩ := List.mem_map.1 hx
   rfl
  have tk : List.take i (ysL ((S.take i).map flp)) = ysL ((S.take i).map flp) := List.take_of_length_le (by omega)
  unfold stNt
  rw [e]
  generalize ysL ((S.take i).map flp) = U at *
  generalize P.map e3 = E at *
  generalize tn.map e2 = D at *
  by_cases h0 : S[i] = 48
  ·have f0 : flp 48 = 49 := by decide
   simp [F_laws_FnNotText_L0,hi,hi',ai,w1,lb,ll,lE,aE,if_pos cE,tk,h0,f0,-Int.natCast_add]
  ·have g0 : (S[i].toNat == 48) = false := beq_false_of_ne (fun q => h0 ((u8n (n := 48) (by omega)).2 q))
   by_cases h1 : S[i] = 49
   ·have f0 : flp 49 = 48 := by decide
    simp [F_laws_FnNotText_L0,hi,hi',ai,w1,lb,ll,lE,aE,if_pos cE,tk,h1,f0,-Int.natCast_add]
   ·have g1 : (S[i].toNat == 49) = false := beq_false_of_ne (fun q => h1 ((u8n (n := 49) (by omega)).2 q))
    have f0 : flp S[i] = S[i] := by unfold flp; rw [if_neg h0,if_neg h1]
    rw [f0]
    simp [F_laws_FnNotText_L0,hi,hi',ai,w1,lb,ll,lE,aE,if_pos cE,tk,g0,g1,-Int.natCast_add]
 ·unfold stNt
  simp [F_laws_FnNotText_L0]
set_option maxHeartbeats 8000000 in
theorem law_FnNotText (x : List Nat) (_ : x.length ≤ Go.maxLen) (hb : ∀ y ∈ x,y < 256) : call lf n_laws_FnNotText [bys x] = some (.b true,[]) := by
 show call lf n_laws_FnNotText [.sl 0 (x.map .y)] = _
 rw [call_k lf n_laws_FnNotText _ (F := F_laws_FnNotText) rfl rfl]
 by_cases hl : 1048576 < (x.length : Int)
 ·simp (config := { maxSteps := 2000000 }) [F_laws_FnNotText,hl]
 ·obtain ⟨m,t,P,m5,t1,l1,d⟩ := c_DrawPlanText hb (by omega)
  have tk := tk_e3 P
  have lE := lend_e3 P
  have aE := fun o => adopt_e3 o P
  have ll : (P.map e3).length = P.length := by simp
  have em : (t ++ [((1 : Int),(0 : Int))]).map e2 = t.map e2 ++ [DV.st [.i 1,.i 0]] := by rw [List.map_append]; rfl
  have lb : t.length ≤ bound := by unfold bound; omega
  have lb1 : t.length + 1 ≤ bound := by unfold bound; omega
  have cT : ∀ x ∈ t.map e2,x.cells.length = 2 := fun x hx => by
   obtain ⟨y,_,rfl⟩ := List.mem_map.1 hx
   rfl
  have lT := lend_e2 t
  have aT := fun o => adopt_e2 o t
  have tkT : List.take t.length (t.map e2) = t.map e2 := List.take_of_length_le (by simp)
  have lmT : (t.map e2).length = t.length := by simp
  have tkN : List.take (t.length + 1) (t.map e2 ++ [DV.st [.i 1,.i 0]]) = t.map e2 ++ [DV.st [.i 1,.i 0]] := List.take_of_length_le (by simp)
  have lN : lendL (t.map e2 ++ [DV.st [.i 1,.i 0]]) = t.map e2 ++ [DV.st [.i 1,.i 0]] := by rw [← em]; exact lend_e2 _
  have aN : ∀ o,adoptL o (t.map e2 ++ [DV.st [.i 1,.i 0]]) = t.map e2 ++ [DV.st [.i 1,.i 0]] := fun o => by rw [← em]; exact adopt_e2 o _
  cases h : pkOk m t P with
  | false =>
   have A1 := c_impl_PlanText_no (m := m) (t := t) (P := P) (by omega) (by omega) h
   generalize t.map e2 = D at *
   generalize P.map e3 = E at *
   simp (config := { maxSteps := 2000000 }) [F_laws_FnNotText,hl,d,tk,lE,aE,ll,A1,lb,lb1,if_pos cT,lT,aT,tkT,lmT,tkN,lN,aN,c_alive]
  | true =>
   obtain ⟨ht,L,hL⟩ := pk_iff.1 h
   have A1 := c_impl_PlanText (by omega) ht hL
   have few := hL.few
   have lt := okT_lt m5 L.er _ (non_len _) hL.ok
   have n0 : (ptx m t (non m) L.er == []) = false := beq_false_of_ne (ptx_ne _ _ _ _)
   have n1 := ptx_ne m t (non m) L.er
   have ln := ptx_len m t L.er (non m)
   rw [er_size,hL.sz] at ln
   have D5 := c_spec_TermOk m (t ++ [(1,0)]) (by simp; omega)
   rw [em] at D5
   cases hn : tmOk m (t ++ [(1,0)]) with
   | false =>
    rw [hn] at D5
    generalize ptx m t (non m) L.er = S at *
    generalize t.map e2 = D at *
    generalize P.map e3 = E at *
    simp (config := { maxSteps := 2000000 }) [F_laws_FnNotText,hl,d,tk,lE,aE,ll,A1,D5,n0,n1,lb,lb1,if_pos cT,lT,aT,tkT,lmT,tkN,lN,aN,c_alive]
   | true =>
    rw [hn] at D5
    have hv : ∀ s,s < 2 ^ m → tv (t ++ [(1,0)]) s = !tv t s := fun s hs => tv_not ht (by
     have : 2 ^ m ≤ 2 ^ 5 := Nat.pow_le_pow_right (by omega) m5
     omega)
    have pn : pkOk m (t ++ [(1,0)]) P = true := by rw [pk_not m5 ht hn P]; exact h
    have hN : isPl m (t ++ [(1,0)]) P L := ⟨hL.e,(okT_not hv L.er (non m) (non_len _) (non_all _)).2 hL.ok,hL.sz,hL.on,hL.few⟩
    have A4 := c_impl_PlanText (by simp; omega) hn hN
    rw [ptx_not hv L.er (non m) (non_len _) (non_all _) lt hL.ok,em] at A4
    have LP := nt_loop m P (t ++ [(1,0)]) (S := ptx m t (non m) L.er) (by omega)
    unfold stNt at LP
    rw [em,List.take_length] at LP
    simp only [List.take_zero,List.map_nil,Int.natCast_zero,ysL,List.length_append,List.length_singleton] at LP
    have yy := ys_map ((ptx m t (non m) L.er).map flp)
    have ly := lend_ysL ((ptx m t (non m) L.er).map flp)
    have ay := fun o => adopt_ysL o ((ptx m t (non m) L.er).map flp)
    have lly : (ysL ((ptx m t (non m) L.er).map flp)).length = (ptx m t (non m) L.er).length := by simp [ysL]
    have tky : List.take (ptx m t (non m) L.er).length (ysL ((ptx m t (non m) L.er).map flp)) = ysL ((ptx m t (non m) L.er).map flp) := List.take_of_length_le (by omega)
    change ysOf (ysL ((ptx m t (non m) L.er).map flp)) = _ at yy
    change ex lf F_laws_FnNotText_W0 _ = some (_,⟨_,[_,_,(_,ysL ((ptx m t (non m) L.er).map flp))]⟩) at LP
    clear hv hN pn
    generalize ptx m t (non m) L.er = S at *
    generalize hF : S.map flp = S' at *
    generalize ysL S' = Y at *
    generalize t.map e2 = D at *
    generalize P.map e3 = E at *
    simp (config := { maxSteps := 2000000 }) [F_laws_FnNotText,hl,d,tk,lE,aE,ll,A1,A4,D5,n0,n1,lb,lb1,if_pos cT,lT,aT,tkT,lmT,tkN,lN,aN,LP,yy,ly,ay,lly,tky,bs_none,c_alive]
end
end Zz
