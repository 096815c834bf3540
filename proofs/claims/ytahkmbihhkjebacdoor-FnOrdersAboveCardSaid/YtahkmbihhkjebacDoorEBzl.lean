/- What the functions answer, as equations: EB. No conditions. -/
import Derived.Test.YtahkmbihhkjebacDoorEAzl
set_option linter.unusedSectionVars false
set_option linter.unusedVariables false
set_option linter.unusedSimpArgs false
namespace Zz
open Go.Lg Md
set_option linter.unusedSimpArgs false
set_option linter.unusedVariables false
attribute [local simp] tm_mv tm_newnil tm_pick tm_bin tm_eqb tm_eqs tm_un tm_len tm_lens tm_chk tm_fld tm_fldv tm_idxa tm_idx tm_load tm_store tm_slice tm_slices tm_make tm_alloc tm_box tm_build tm_app tm_conv tm_ext tm_call tm_calld tm_mkfn tm_mm tm_idxp tm_eqn tm_callg tm_callm tm_bslice0 tm_bslice1 tm_bslice2 tm_bslice nm_def nh_nil nh_cons nxM_some nxM_none sc_i sc_y sc_b sc_s sc_w sc_q sa_bslice sa_app nc_own nc_nil sa_call sa_alloc sa_build sa_callm rm_nil rm_gen bq_mul bq_eql ia_mv ia_newnil ia_pick ia_bin ia_eqb ia_eqs ia_un ia_len ia_lens ia_chk ia_fld ia_fldv ia_idxa ia_idx ia_load ia_store ia_slice ia_slices ia_make ia_alloc ia_box ia_build ia_bslice ia_app ia_b2i ia_i2b ia_i2i ia_same ia_b2s ia_s2b ia_ext ia_mm ia_idxp ia_calld ia_mkfn ia_i2r ia_r2s ia_call pt_nil pt_cons mi_nil mi_cons md_bslice md_mv md_newnil md_pick md_bin md_eqb md_un md_len md_lens md_fld md_fldv md_idxa md_idx md_load md_store md_slice md_slices md_make md_alloc md_box md_build md_app md_conv md_ext md_call md_calld md_callg md_mkfn md_mm md_idxp md_eqn md_eqs md_chk tg_bslice tg_mv tg_newnil tg_pick tg_bin tg_eqb tg_un tg_len tg_lens tg_fld tg_fldv tg_idxa tg_idx tg_load tg_store tg_slice tg_slices tg_make tg_alloc tg_box tg_build tg_app tg_conv tg_ext tg_call tg_calld tg_callg tg_mkfn tg_mm tg_idxp tg_eqn tg_eqs tg_chk rp_eq ro_eq ifP_t ifP_f np_def ng1_nil ng2_nil ng_gate ng_gen tgA_t tgA_0 tgA_1 tgA_2 aC_nil aC_c aC_t nxP_some nxP_none rq_nil rq_gen rq_gate nxR_some nxR_none ru_nil ru_gen ru_gate pl_none pl_some gt_nil gt_t gt_c di_some di_none an_nil an_cons nxG_some nxG_none rg_nil rg_gen rg_gate oldO_some oa_nil oa_i oa_y oa_b oa_s oa_st oa_sl oa_own oa_oad oa_nl al_nil al_cons al_i al_y al_b al_s al_st al_sl nxF_some nxF_none rf_nil rf_gen rf_gate hk_newnil hk_make hk_alloc hk_box hk_build hk_bslice hk_call hk_store hk_app hk_appn em_cel mm_cel ok_cel ov_cel so_cel il_cel oi_cel oj_cel ol_cel nm_cel hk_appc ef_bslice5 ef_app_cel ks_shut shu_own shc_none shc_cel cl_nil cl_cons ai_nil ai_cons il_i il_y il_b il_s il_st il_sl il_own il_adr il_oad il_ref il_fr il_tup il_nil il_np il_und il_dead ol_adr ol_b ol_dead ol_e ol_fn ol_fr ol_i ol_nil ol_np ol_oad ol_own ol_q ol_r ol_ref ol_s ol_sl ol_st ol_tup ol_und ol_w ol_y oj_e oj_i oj_y oj_b oj_s oj_st oj_sl oj_own oj_adr oj_oad oj_ref oj_fr oj_tup oj_nil oj_np oj_und oj_dead oj_w oj_q oj_r oj_fn oi_e oi_i oi_y oi_b oi_s oi_st oi_sl oi_own oi_adr oi_oad oi_ref oi_fr oi_tup oi_nil oi_np oi_und oi_dead as_nil as_cons ao_nil ao_cons av_i av_y av_b av_s av_st av_sl av_own av_adr av_oad av_ref av_fr av_tup av_nil av_np av_und av_dead pro_cons ghK_some ks_promote ks_freeze frz_own ks_rename ren_own dropO adoptP newP wholeP cutP allOldL ex_skip ex_ret ex_exit ks_region ks_seq ks_cond ks_block seqK_n seqK_e seqK_r regK_some condK_t condK_f blkK_n blkK_r blkK_e endK_n endK_r rr_false rr_true rd_free mo_nil mo_cons drK_some drK_none nxW_some nxW_none rw_nil rw_gen rw_gate ak_newnil ak_make ak_alloc ak_box ak_build ak_bslice ak_call ak_store ak_app iw_mm iw_eqn iw_idxp ef_callg cgK_some gv_e gv_own gv_i gv_sl gv_st gv_b gv_nil gvK_some gvO_some iw_callg ia_callg ak_callg hk_callg is_mv is_newnil is_pick is_bin is_eqb is_eqs is_un is_len is_lens is_chk is_fld is_fldv is_idxa is_idx is_load is_slice is_slices is_make is_alloc is_box is_build is_bslice is_app is_conv is_ext is_call is_calld is_callg is_mkfn is_mm is_idxp is_eqn is_store rt_nil rt_gen rt_gate nxT_some nxT_none ef_eqn_nil ef_eqn_sl ef_eqn_own ia_eqn ef_mmx ef_mmn ef_idxp nxD_some nxD_none ov_i ov_y ov_b ov_s ov_st ov_sl ov_own ov_oad ov_adr ov_nil ov_np ov_und ov_dead ov_tup oldN_some oldN_nil oldN_none so_none so_i so_y so_b so_s so_st so_sl so_adr so_nil so_np so_und so_dead anyM_nil anyM_t anyM_c so_own so_oad rd_nil rd_gen rd_mv rd_gate iw_mv iw_newnil iw_pick iw_bin iw_eqb iw_eqs iw_un iw_len iw_lens iw_chk iw_fld iw_fldv iw_idxa iw_idx iw_load iw_store iw_slice iw_slices iw_make iw_alloc iw_box iw_build iw_bslice iw_app iw_b2i iw_i2b iw_i2i iw_same iw_b2s iw_s2b iw_ext iw_call nm_i nm_y nm_b nm_s nm_st nm_sl nm_own nm_oad nm_adr nm_nil nm_np nm_und nm_dead nm_tup rl_nil rl_gate rl_mv rl_gen opv_t opv_c nx_some nx_none gate_tt gate_tf gate_ft gate_ff gate_u fr_ap em_nil em_i em_y em_b em_s em_st em_sl em_own em_adr em_oad em_ref em_nl em_np em_und em_dead em_tup0 em_tup_i em_tup_b em_tup_s em_tup_sl em_tup_st em_tup_np em_tup_own em_tup_oad mm_i mm_y mm_b mm_s mm_st mm_sl mm_own mm_oad mm_adr mm_nil mm_np mm_und mm_dead ef_mv ef_newnil ef_pickt ef_pickf ef_bin ef_eqb ef_eqs ef_un ef_lens ef_len_sl ef_len_own ef_len_nil ef_chk_adr ef_chk_oad ef_fld_adr ef_fld_oad ef_fldv idxR_some ef_idxa_sl ef_idxa_own ef_idx ef_load_adr_st ef_load_adr_i ef_load_adr_y ef_load_adr_b ef_load_adr_s ef_load_adr_sl atN_nil atN_zero atN_succ ef_load_oad ef_store ef_slice ef_slices ef_make ef_alloc ef_box ef_build ef_bslice ef_app_own ef_app_nil ef_b2i ef_i2b ef_i2i ef_same ef_ext ret1 ret2_some calL_some ef_call retC_i retC_y retC_b retC_s retC_st retC_sl retC_np retC_fr retC_ref retC_tup rk_nil rk_i rk_y rk_b rk_s rk_st rk_sl rk_own rk_oad rk_nl ok_nil ok_i ok_y ok_b ok_s ok_st ok_sl ok_own ok_oad ok_nl lo_nil lo_i lo_y lo_b lo_s lo_st lo_sl lo_own lo_oad lo_nl pr_nil pr_i pr_y pr_b pr_s pr_st pr_sl pr_own pr_nl pr_oad nr_i nr_y nr_b nr_s nr_st nr_sl nr_fr nr_np nr_tup ng_i ng_b ng_s ng_fr ng_nil resV effP_eff binD bi_add bi_sub bi_mul bi_quo bi_rem bi_eql bi_neq bi_lss bi_leq bi_gtr bi_geq bi_shl bi_shr bi_and bi_or bi_xor bi_andNot binY binS unD look put putD LS.get LS.drop killE sweep lookO putO dropO enter leave giveBackL giveBack outs lendArgs lendArg newOuts takeIn takeInL lendL DV.lend adoptL DV.adopt elems apartKs part DV.cells unpart settle settleL over mkId szId fillP fillE tk_e2 tk_i tk_y lt_e2 lt_i lt_y lend_rep al_e2 al_is al_ys al_rep al_app lend_app adopt_app new_app lend_e2 lend_i lend_y adopt_e2 adopt_i adopt_y new_e2 new_i allNewL DV.allNew bounds sliceD sliceS em_w em_q em_r em_fn em_tup_w em_tup_q em_tup_r mm_w mm_q mm_r mm_fn ef_load_adr_w ef_load_adr_q ef_load_adr_r retC_w retC_q retC_r rk_w rk_q rk_r rk_fn ok_w ok_q ok_r ok_fn lo_w lo_q lo_r lo_fn pr_w pr_q pr_r pr_fn nr_w nr_q nr_r ng_w ng_q ng_r oa_w oa_q oa_r oa_fn al_w al_q al_r al_fn ov_w ov_q ov_r ov_fn so_w so_q so_r so_fn il_w il_q il_r il_fn oi_w oi_q oi_r oi_fn av_w av_q av_r av_fn nm_w nm_q nm_r nm_fn ef_i2r ef_r2s ef_mkfn ef_mkbd ef_idxp_adr ef_idxp_q ef_calld_nil ef_calld_adr ef_calld_bd DV.capB capsOk DV.cell List.all_cons List.all_nil rk_own_t lo_own_t lk_f lk_t pr_own_t mutB ak_calld hk_calld iw_calld iw_mkfn iw_i2r iw_r2s bw_and bw_or bw_xor bw_andNot bw_eql bw_neq sw_shl sw_shr sq_shl gEnv_nil rk_adr ok_adr lo_adr pr_adr oa_adr capL capArg DV.cap ak_mkfn hk_mkfn hk_mkbd ef_callm gf_ap ga_nil ga_cons tgv_own gk_e gk_giv gk_i gk_y gk_b gk_s gk_w gk_q gk_r gk_fn gk_st gk_sl gk_own gk_oad gk_adr gk_nl gk_np rk_giv ok_giv lo_giv pr_giv oa_giv iw_callm hk_callm ak_callm is_callm ia_callm tg_callm md_callm ef_i2q ef_q2i ef_q2q iw_i2q iw_q2i iw_q2q ia_i2q ia_q2i ia_q2q bq_and bq_add bq_shr sq_shr tgv_nil gk_ref rk_ref ok_ref lo_ref pr_ref oa_ref retC_fn nr_fn ef_load_adr_fn ks_close cls_oad
attribute [local congr] nxM_congr ifP_congr nxP_congr nxR_congr nxT_congr nxG_congr nxF_congr ghK_congr gate_congr nx_congr nxD_congr runL_congr runD_congr eff_congr calL_congr ret2_congr seqK_congr regK_congr condK_congr endK_congr drK_congr nxW_congr
attribute [local simp ↓] nxM_some rm_nil rm_gen nxT_some rt_nil rt_gen rt_gate nxP_some rq_nil rq_gen rq_gate nxR_some ru_nil ru_gen ru_gate nxG_some rg_nil rg_gen rg_gate nxF_some rf_nil rf_gen rf_gate ks_promote ks_freeze frz_own ks_rename ghK_some gate_tt gate_tf gate_ft gate_ff gate_u nx_some nxD_some rl_nil rl_mv rl_gen rl_gate rd_nil rd_mv rd_gen rd_gate rd_free rr_false rr_true drK_some drK_none nxW_some rw_nil rw_gen rw_gate ks_region ks_seq ks_cond ks_block seqK_n seqK_e seqK_r regK_some condK_t condK_f blkK_n blkK_r endK_n endK_r calL_some ret2_some opv_t opv_c
section
inductive PT where
  | stop
  | ask (k : Nat) (no yes : PT)
/-- how many are not known -/
def uk : List Int → Nat
  | [] => 0
  | k :: r => (if k = -1 then 1 else 0) + uk r
theorem uk_set {b : Int} (hb : b ≠ -1) : ∀ {ks : List Int} {k : Nat}, ks[k]? = some (-1) → uk (ks.set k b) + 1 = uk ks
  | [], k, h => by simp at h
  | x :: r, 0, h => by
    simp only [List.getElem?_cons_zero, Option.some.injEq] at h
    subst h
    simp only [List.set_cons_zero, uk, if_neg hb, if_true]
    omega
  | x :: r, k + 1, h => by
    simp only [List.getElem?_cons_succ] at h
    have := uk_set hb h
    simp only [List.set_cons_succ, uk]
    omega
theorem uk_le : ∀ ks : List Int, uk ks ≤ ks.length
  | [] => Nat.le_refl _
  | k :: r => by have := uk_le r; simp only [uk, List.length_cons]; split <;> omega
theorem uk_zero : ∀ {ks : List Int}, uk ks = 0 → ∀ k : Nat, ks[k]? ≠ some (-1)
  | [], _, k, h => by simp at h
  | x :: r, h, 0, hk => by
    simp only [List.getElem?_cons_zero, Option.some.injEq] at hk
    simp [uk, hk] at h
  | x :: r, h, k + 1, hk => by
    simp only [List.getElem?_cons_succ] at hk
    simp only [uk] at h
    exact uk_zero (by omega) k hk
theorem uk_none : ∀ {ks : List Int}, (∀ k : Nat, ks[k]? ≠ some (-1)) → uk ks = 0
  | [], _ => rfl
  | x :: r, h => by
    have h0 := h 0
    simp only [List.getElem?_cons_zero, ne_eq, Option.some.injEq] at h0
    simp only [uk]
    rw [if_neg h0, uk_none fun k hk => h (k + 1) (by simpa using hk)]
theorem uk_pos {ks : List Int} {k : Nat} (h : ks[k]? = some (-1)) : 0 < uk ks := by
  cases hu : uk ks with
  | zero => exact absurd h (uk_zero hu k)
  | succ n => omega
theorem uk_non (m : Nat) : uk (non m) = m := by
  induction m with
  | zero => rfl
  | succ n ih =>
    show uk (List.replicate (n + 1) (-1)) = n + 1
    rw [List.replicate_succ, uk, if_pos rfl, show List.replicate n (-1 : Int) = non n from rfl, ih]
    omega
/-- one more is known: what the weights are then -/
theorem wk_put : ∀ {us : List T} {ks : List Int} {k : Nat}, ks.length = us.length → ks[k]? = some (-1) →
    ∃ w, wk us ks = 6 * w ∧ wk us (ks.set k 0) = w * (6 - (us.getD k (0, 0)).2) ∧ wk us (ks.set k 1) = w * (us.getD k (0, 0)).2
  | _, [], k, _, h => by simp at h
  | [], x :: r, k, hl, h => by simp at hl
  | t :: us, x :: r, 0, hl, h => by
    simp only [List.getElem?_cons_zero, Option.some.injEq] at h
    subst h
    refine ⟨wk us r, rfl, ?_, ?_⟩
    · show (6 - t.2) * wk us r = _
      rw [Int.mul_comm]; rfl
    · show t.2 * wk us r = _
      rw [Int.mul_comm]; rfl
  | t :: us, x :: r, k + 1, hl, h => by
    simp only [List.getElem?_cons_succ] at h
    obtain ⟨w, h1, h2, h3⟩ := wk_put (us := us) (by simpa using hl) h
    have e : ∀ ks : List Int, wk (t :: us) (x :: ks) = (if x = -1 then 6 else if x = 1 then t.2 else 6 - t.2) * wk us ks := fun _ => rfl
    generalize hc : (if x = -1 then 6 else if x = 1 then t.2 else 6 - t.2) = c at e
    refine ⟨c * w, ?_, ?_, ?_⟩
    · rw [e, h1, Int.mul_left_comm]
    · rw [List.set_cons_succ, e, h2, Int.mul_assoc]; rfl
    · rw [List.set_cons_succ, e, h3, Int.mul_assoc]; rfl
theorem wk_two {us : List T} {ks : List Int} {k : Nat} (hl : ks.length = us.length) (h : ks[k]? = some (-1)) : wk us (ks.set k 0) + wk us (ks.set k 1) = wk us ks := by
  obtain ⟨w, h1, h2, h3⟩ := wk_put hl h
  rw [h1, h2, h3, ← Int.mul_add, Int.mul_comm]
  congr 1
  omega
theorem agB_put {b : Bool} {s : Nat} : ∀ {ks : List Int} {k : Nat}, ks[k]? = some (-1) → agB (ks.set k (bI b)) s = (agB ks s && (s.testBit k == b)) := by
  intro ks k h
  rw [Bool.eq_iff_iff, Bool.and_eq_true, agB_iff, agB_iff, beq_iff_eq]
  have hk : k < ks.length := (List.getElem?_eq_some_iff.1 h).1
  constructor
  · intro H
    refine ⟨fun j v hj => ?_, ?_⟩
    · by_cases e : j = k
      · subst e; rw [h] at hj; injection hj with hj; exact .inl hj.symm
      · exact H j v (by rw [List.getElem?_set_ne (Ne.symm e)]; exact hj)
    · rcases H k (bI b) (by rw [List.getElem?_set_self hk]) with q | q
      · cases b <;> simp [bI] at q
      · exact (bI_inj.1 q).symm
  · rintro ⟨H, hb⟩ j v hj
    by_cases e : j = k
    · subst e
      rw [List.getElem?_set_self hk] at hj
      injection hj with hj
      right
      rw [← hj, hb]
    · rw [List.getElem?_set_ne (Ne.symm e)] at hj
      exact H j v hj
theorem bI_0 : bI false = 0 := rfl
theorem bI_1 : bI true = 1 := rfl
theorem kOk_set {ks : List Int} (h : ks.all kOk = true) (k : Nat) (b : Bool) : (ks.set k (bI b)).all kOk = true := by
  rw [List.all_eq_true] at h ⊢
  intro x hx
  rcases List.mem_or_eq_of_mem_set hx with h1 | h1
  · exact h x h1
  · rw [h1]; cases b <;> decide
theorem non_all (m : Nat) : (non m).all kOk = true := by
  rw [List.all_eq_true]
  intro x hx
  rw [List.eq_of_mem_replicate hx]
  decide
theorem agB_non (m s : Nat) : agB (non m) s = true := by
  rw [agB_iff]
  intro k v h
  left
  exact List.eq_of_mem_replicate (List.mem_of_getElem? h)
def fcd (m : Nat) (t : List T) (ks : List Int) : Bool := foT m t ks != -1
theorem fcd_iff {m : Nat} {t : List T} {ks : List Int} (hl : ks.length = m) (hk : ks.all kOk = true) : fcd m t ks = true ↔ ∃ b, ∀ s, s < 2 ^ m → agB ks s = true → tv t s = b := by
  subst hl
  have hne := agB_some hk
  have F := fun b => fo_b (f := tv t) (g := agB ks) hne b
  have O := fo_or (tv t) (agB ks) (2 ^ ks.length)
  unfold fcd foT
  rw [Int.toNat_natCast, bne_iff_ne]
  constructor
  · intro h
    rcases O with o | o | o
    · exact ⟨true, (F true).1 o⟩
    · exact ⟨false, (F false).1 o⟩
    · exact absurd o h
  · rintro ⟨b, hb⟩ h
    have := (F b).2 hb
    rw [h] at this
    cases b <;> simp [bI] at this
theorem fcd_all {m : Nat} {t : List T} {ks : List Int} (hl : ks.length = m) (hk : ks.all kOk = true) (h : uk ks = 0) : fcd m t ks = true := by
  obtain ⟨s0, q0, q1⟩ := agB_some hk
  rw [hl] at q0
  refine (fcd_iff hl hk).2 ⟨tv t s0, fun s hs ha => ?_⟩
  rw [eq_of_low hs q0 fun k hk' => ?_]
  obtain ⟨v, hv⟩ : ∃ v, ks[k]? = some v := ⟨ks[k], List.getElem?_eq_getElem (by omega)⟩
  have n1 : v ≠ -1 := fun e => uk_zero h k (by rw [hv, e])
  have a1 := (agB_iff.1 ha k v hv).resolve_left n1
  have a2 := (agB_iff.1 q1 k v hv).resolve_left n1
  exact bI_inj.1 (a1.symm.trans a2)
def okT (m : Nat) (t : List T) : List Int → PT → Prop
  | ks, .stop => fcd m t ks = true
  | ks, .ask k n y => fcd m t ks = false ∧ ks[k]? = some (-1) ∧ okT m t (ks.set k 0) n ∧ okT m t (ks.set k 1) y
/-- what a tree costs on average from what is known on -/
def tA (us : List T) : List Int → PT → Int
  | _, .stop => 0
  | ks, .ask k n y => wk us ks * cA us k + tA us (ks.set k 0) n + tA us (ks.set k 1) y
/-- the least of some sums, and the first place of it -/
def lpB (S : Nat → Int) (ks : List Int) : Nat → Int × Int
  | 0 => (-1, -1)
  | i + 1 => if ks[i]? = some (-1) then (if (lpB S ks i).1 < 0 ∨ S i < (lpB S ks i).1 then (S i, i) else lpB S ks i) else lpB S ks i
theorem lpB_spec {S : Nat → Int} {ks : List Int} (h0 : ∀ k, ks[k]? = some (-1) → 0 ≤ S k) : ∀ i : Nat,
    (lpB S ks i = (-1, -1) ∧ ∀ k, k < i → ks[k]? ≠ some (-1)) ∨ ∃ k : Nat, k < i ∧ ks[k]? = some (-1) ∧ lpB S ks i = (S k, (k : Int)) ∧ ∀ j, j < i → ks[j]? = some (-1) → S k ≤ S j ∧ (j < k → S k < S j)
  | 0 => .inl ⟨rfl, fun k h => by omega⟩
  | i + 1 => by
    simp only [lpB]
    by_cases hi : ks[i]? = some (-1)
    · rw [if_pos hi]
      have hS := h0 i hi
      rcases lpB_spec h0 i with ⟨e, hn⟩ | ⟨k, k1, k2, e, hk⟩
      · right
        rw [e, if_pos (.inl (by show (-1 : Int) < 0; omega))]
        refine ⟨i, by omega, hi, rfl, fun j hj hjk => ?_⟩
        have : j = i := by
          by_cases q : j < i
          · exact absurd hjk (hn j q)
          · omega
        subst this
        exact ⟨Int.le_refl _, fun h => by omega⟩
      · right
        rw [e]
        have hSk := h0 k k2
        by_cases hlt : S i < S k
        · rw [if_pos (.inr hlt)]
          refine ⟨i, by omega, hi, rfl, fun j hj hjk => ?_⟩
          by_cases q : j = i
          · subst q; exact ⟨Int.le_refl _, fun h => by omega⟩
          · obtain ⟨p1, p2⟩ := hk j (by omega) hjk
            exact ⟨by omega, fun _ => by omega⟩
        · rw [if_neg (by intro h; rcases h with h | h; exact absurd h (by show ¬ S k < 0; omega); exact hlt h)]
          refine ⟨k, by omega, k2, rfl, fun j hj hjk => ?_⟩
          by_cases q : j = i
          · subst q; exact ⟨by omega, fun h => by omega⟩
          · exact hk j (by omega) hjk
    · rw [if_neg hi]
      rcases lpB_spec h0 i with ⟨e, hn⟩ | ⟨k, k1, k2, e, hk⟩
      · left
        refine ⟨e, fun k hk => ?_⟩
        by_cases q : k = i
        · subst q; exact hi
        · exact hn k (by omega)
      · right
        refine ⟨k, by omega, k2, e, fun j hj hjk => ?_⟩
        by_cases q : j = i
        · subst q; exact absurd hjk hi
        · exact hk j (by omega) hjk
/-- the least average from what is known on, and the first test of a plan that reaches it -/
def bPl (us t : List T) : Nat → List Int → Int × Int
  | 0, _ => (0, -1)
  | f + 1, ks => if fcd us.length t ks = true then (0, -1) else lpB (fun k => wk us ks * cA us k + (bPl us t f (ks.set k 0)).1 + (bPl us t f (ks.set k 1)).1) ks us.length
def bS (us t : List T) (f : Nat) (ks : List Int) (k : Nat) : Int := wk us ks * cA us k + (bPl us t f (ks.set k 0)).1 + (bPl us t f (ks.set k 1)).1
/-- the tree that it reaches -/
def bT (us t : List T) : Nat → List Int → PT
  | 0, _ => .stop
  | f + 1, ks => if (bPl us t (f + 1) ks).2 = -1 then .stop else .ask (bPl us t (f + 1) ks).2.toNat (bT us t f (ks.set (bPl us t (f + 1) ks).2.toNat 0)) (bT us t f (ks.set (bPl us t (f + 1) ks).2.toNat 1))
/-- the first test of the best tree, and what it comes to -/
structure BPs (us t : List T) (f : Nat) (ks : List Int) : Prop where
  nn : 0 ≤ (bPl us t f ks).1
  stop : fcd us.length t ks = true → bPl us t f ks = (0, -1)
  go : fcd us.length t ks = false → ∃ k : Nat, ks[k]? = some (-1) ∧ (bPl us t f ks).2 = (k : Int) ∧ (bPl us t f ks).1 = bS us t (f - 1) ks k ∧ ∀ j : Nat, ks[j]? = some (-1) → (bPl us t f ks).1 ≤ bS us t (f - 1) ks j ∧ (j < k → (bPl us t f ks).1 < bS us t (f - 1) ks j)
theorem cA_nn' {us : List T} (h : us.all tOk = true) (k : Nat) : 0 ≤ cA us k := by
  have := cA_nn h k
  omega
theorem bPl_ok {us t : List T} (h : us.all tOk = true) : ∀ (f : Nat) (ks : List Int), ks.length = us.length → ks.all kOk = true → uk ks ≤ f → BPs us t f ks
  | 0, ks, hl, hk, hu => by
    have hf := fcd_all (t := t) hl hk (by omega)
    exact ⟨Int.le_refl _, fun _ => rfl, fun h => by rw [hf] at h; cases h⟩
  | f + 1, ks, hl, hk, hu => by
    have ih : ∀ k (b : Bool), ks[k]? = some (-1) → BPs us t f (ks.set k (bI b)) := fun k b h1 => by
      have := uk_set (b := bI b) (by cases b <;> simp [bI]) h1
      exact bPl_ok h f _ (by simpa using hl) (kOk_set hk k b) (by omega)
    have hS : ∀ k, ks[k]? = some (-1) → 0 ≤ bS us t f ks k := fun k h1 => by
      have a0 := (ih k false h1).nn
      have a1 := (ih k true h1).nn
      rw [bI_0] at a0
      rw [bI_1] at a1
      have w := (wk_bound (ks := ks) h).1
      have := Int.mul_nonneg (show 0 ≤ wk us ks by omega) (cA_nn' h k)
      unfold bS
      omega
    have e : bPl us t (f + 1) ks = if fcd us.length t ks = true then (0, -1) else lpB (bS us t f ks) ks us.length := rfl
    cases hf : fcd us.length t ks with
    | true =>
      rw [hf, if_pos rfl] at e
      refine ⟨by rw [e]; exact Int.le_refl _, fun _ => e, fun h => by rw [hf] at h; cases h⟩
    | false =>
      rw [hf, if_neg (by decide)] at e
      rcases lpB_spec hS us.length with ⟨_, hn⟩ | ⟨k, k1, k2, e2, hk2⟩
      · exfalso
        have hu0 := uk_none (ks := ks) fun k hk' => hn k (by rw [← hl]; exact (List.getElem?_eq_some_iff.1 hk').1) hk'
        have := fcd_all (t := t) hl hk hu0
        rw [hf] at this; cases this
      · rw [e2] at e
        refine ⟨by rw [e]; exact hS k k2, fun h => (by rw [hf] at h; cases h), fun _ => ⟨k, k2, by rw [e], by rw [e]; rfl, fun j hj => ?_⟩⟩
        rw [e]
        exact hk2 j (by rw [← hl]; exact (List.getElem?_eq_some_iff.1 hj).1) hj
/-- the best tree is one, and costs so much -/
theorem bT_ok {us t : List T} (h : us.all tOk = true) : ∀ (f : Nat) (ks : List Int), ks.length = us.length → ks.all kOk = true → uk ks ≤ f → okT us.length t ks (bT us t f ks) ∧ tA us ks (bT us t f ks) = (bPl us t f ks).1
  | 0, ks, hl, hk, hu => ⟨fcd_all hl hk (by omega), rfl⟩
  | f + 1, ks, hl, hk, hu => by
    obtain ⟨_, p2, p3⟩ := bPl_ok (t := t) h (f + 1) ks hl hk hu
    cases hf : fcd us.length t ks with
    | true =>
      have e := p2 hf
      have e1 : bT us t (f + 1) ks = .stop := by simp only [bT]; rw [e]; rfl
      rw [e1, e]
      exact ⟨hf, rfl⟩
    | false =>
      obtain ⟨k, k1, k2, k3, _⟩ := p3 hf
      have e1 : bT us t (f + 1) ks = .ask k (bT us t f (ks.set k 0)) (bT us t f (ks.set k 1)) := by
        simp only [bT]
        rw [k2, if_neg (by omega), Int.toNat_natCast]
      have q := fun (b : Bool) => bT_ok (t := t) h f (ks.set k (bI b)) (by simpa using hl) (kOk_set hk k b) (by have := uk_set (b := bI b) (by cases b <;> simp [bI]) k1; omega)
      have q0 := q false
      have q1 := q true
      rw [bI_0] at q0
      rw [bI_1] at q1
      rw [e1, k3]
      refine ⟨⟨hf, k1, q0.1, q1.1⟩, ?_⟩
      simp only [tA, bS, Nat.add_sub_cancel]
      rw [q0.2, q1.2]
/-- no tree costs less -/
theorem bPl_le {us t : List T} (h : us.all tOk = true) : ∀ (x : PT) (f : Nat) (ks : List Int), ks.length = us.length → ks.all kOk = true → uk ks ≤ f → okT us.length t ks x → (bPl us t f ks).1 ≤ tA us ks x
  | .stop, f, ks, hl, hk, hu, hx => by
    rw [(bPl_ok h f ks hl hk hu).stop hx]
    exact Int.le_refl _
  | .ask k n y, f, ks, hl, hk, hu, ⟨h1, h2, h3, h4⟩ => by
    obtain ⟨j, _, _, e, hj⟩ := (bPl_ok h f ks hl hk hu).go h1
    have up := uk_pos h2
    have q := fun (b : Bool) => uk_set (b := bI b) (by cases b <;> simp [bI]) h2
    have q0 := q false
    have q1 := q true
    rw [bI_0] at q0
    rw [bI_1] at q1
    have a0 := bPl_le h n (f - 1) (ks.set k 0) (by simpa using hl) (kOk_set hk k false) (by omega) h3
    have a1 := bPl_le h y (f - 1) (ks.set k 1) (by simpa using hl) (kOk_set hk k true) (by omega) h4
    have := (hj k h2).1
    simp only [tA]
    unfold bS at this
    omega
end
section
/-- from what is known on, from nothing known on -/
theorem ks_ex {ks : List Int} {k : Nat} (h : ks[k]? = some (-1)) : k < ks.length := (List.getElem?_eq_some_iff.1 h).1
/-- the least average of all -/
def bA (us t : List T) : Int := (bPl us t us.length (non us.length)).1
def bX (us t : List T) : PT := bT us t us.length (non us.length)
theorem bX_ok {us t : List T} (h : us.all tOk = true) : okT us.length t (non us.length) (bX us t) ∧ tA us (non us.length) (bX us t) = bA us t :=
  bT_ok h _ _ (non_len _) (non_all _) (by rw [uk_non]; exact Nat.le_refl _)
theorem bA_le {us t : List T} (h : us.all tOk = true) {x : PT} (hx : okT us.length t (non us.length) x) : bA us t ≤ tA us (non us.length) x :=
  bPl_le h x _ _ (non_len _) (non_all _) (by rw [uk_non]; exact Nat.le_refl _) hx
end
section
theorem tA_nn {us t : List T} (h : us.all tOk = true) : ∀ (x : PT) (ks : List Int), 0 ≤ tA us ks x
  | .stop, _ => Int.le_refl _
  | .ask k n y, ks => by
    have a0 := tA_nn (t := t) h n (ks.set k 0)
    have a1 := tA_nn (t := t) h y (ks.set k 1)
    have w := (wk_bound (ks := ks) h).1
    have := Int.mul_nonneg (show 0 ≤ wk us ks by omega) (cA_nn' h k)
    simp only [tA]
    omega
/-- the tree of an order -/
def lnT (m : Nat) (t : List T) : List Int → List Int → PT
  | [], _ => .stop
  | a :: r, ks => if fcd m t ks = true then .stop else .ask a.toNat (lnT m t r (ks.set a.toNat 0)) (lnT m t r (ks.set a.toNat 1))
theorem ks_okN {m : Nat} {ks : List Int} (h1 : 1 ≤ m ∧ m ≤ 5) (hl : ks.length = m) (hk : ks.all kOk = true) : ksOk (m : Int) ks = true := ksOk_iff.2 ⟨by omega, by omega, hk⟩
theorem lnT_ok {us t : List T} (hm : 1 ≤ us.length ∧ us.length ≤ 5) : ∀ (os ks : List Int) (so : Nat), ks.length = us.length → ks.all kOk = true → hkn us.length ks so → orS us.length so os = true → uk ks = os.length → okT us.length t ks (lnT us.length t os ks) ∧ tA us ks (lnT us.length t os ks) = wlk us t ks so os
  | [], ks, so, hl, hk, hn, ho, hu => by
    refine ⟨fcd_all hl hk hu, ?_⟩
    unfold wlk
    simp only [lnT, tA, gC, Int.mul_zero]
    exact (sumTo_zero fun k _ => by split <;> rfl).symm
  | a :: r, ks, so, hl, hk, hn, ho, hu => by
    have kk := ks_okN hm hl hk
    obtain ⟨o1, o2, o3⟩ := orS_cons.1 ho
    simp only [lnT]
    cases hf : fcd us.length t ks with
    | true =>
      rw [if_pos rfl]
      refine ⟨hf, ?_⟩
      rw [wlk_forced kk hn (by simpa [fcd] using hf)]
      rfl
    | false =>
      rw [if_neg (by decide)]
      have ha : ks[a.toNat]? = some (-1) := (hn a.toNat (by omega)).2 o2
      have q := fun (b : Bool) => lnT_ok (t := t) hm r (ks.set a.toNat (bI b)) (so ||| 2 ^ a.toNat) (by simpa using hl) (kOk_set hk _ b) (hkn_set hl (by omega) hn b) o3 (by have := uk_set (b := bI b) (by cases b <;> simp [bI]) ha; simp at hu; omega)
      have q0 := q false
      have q1 := q true
      rw [bI_0] at q0
      rw [bI_1] at q1
      refine ⟨⟨hf, ha, q0.1, q1.1⟩, ?_⟩
      have wo := wlk_open (us := us) (t := t) (r := r) kk hn (by unfold fcd at hf; simpa using hf) ha
      simp only [tA]
      rw [q0.2, q1.2, wo, Int.mul_comm]
      omega
/-- the tree of a whole order -/
theorem ordT {us t : List T} (h : tsOk us = true) {os : List Int} (ho : orOk us.length os = true) : okT us.length t (non us.length) (lnT us.length t os (non us.length)) ∧ tA us (non us.length) (lnT us.length t os (non us.length)) = avO us t os := by
  have h' := tsOk_iff.1 h
  obtain ⟨g1, g2, g3⟩ := orOk_iff.1 ho
  have := lnT_ok (t := t) (us := us) (by omega) os (non us.length) 0 (non_len _) (non_all _) (non_kn _) g3 (by rw [uk_non]; omega)
  rw [wlk_non] at this
  exact this
theorem bA_ord {us t : List T} (h : tsOk us = true) {os : List Int} (ho : orOk us.length os = true) : bA us t ≤ avO us t os := by
  obtain ⟨h1, h2⟩ := ordT (t := t) h ho
  rw [← h2]
  exact bA_le (tsOk_iff.1 h).2 h1
end
section
abbrev C3 := Int × Int × Int
/-- a tree with the places of its choices -/
inductive LT where
  | stop
  | ask (p k : Nat) (no yes : LT)
def LT.size : LT → Nat
  | .stop => 0
  | .ask _ _ n y => 1 + n.size + y.size
/-- where one may go on to from a place -/
def nxt (N : Nat) (p : Nat) (a : Int) : Prop := a = -1 ∨ ((p : Int) + 1 ≤ a ∧ a ≤ (N : Int) - 1)
instance (N p : Nat) (a : Int) : Decidable (nxt N p a) := by unfold nxt; infer_instance
/-- the row holds the tree, from a place on -/
def enc (P : List C3) : Int → LT → Prop
  | a, .stop => a = -1
  | a, .ask p k n y => a = (p : Int) ∧ ∃ no ye, P[p]? = some ((k : Int), no, ye) ∧ nxt P.length p no ∧ nxt P.length p ye ∧ enc P no n ∧ enc P ye y
/-- where a row goes on to -/
def rfs : List C3 → List Int
  | [] => []
  | (_, no, ye) :: r => (if no = -1 then [] else [no]) ++ (if ye = -1 then [] else [ye]) ++ rfs r
end
section
def PT.size : PT → Nat
  | .stop => 0
  | .ask _ n y => 1 + n.size + y.size
def rot (P : List C3) : Int := if P = [] then -1 else 0
end
section
attribute [-simp] DV.cells
attribute [local simp] sliceD cells_st cells_sl cells_i cells_y cells_b cells_s cells_w
theorem lend_e3 (P : List C3) : lendL (P.map e3) = P.map e3 := by rw [lendL_map, List.map_map]; rfl
theorem adopt_e3 (o : Bool) (P : List C3) : adoptL o (P.map e3) = P.map e3 := by rw [adoptL_map, List.map_map]; rfl
theorem new_e3 (P : List C3) : allNewL (P.map e3) = true := by rw [allNewL_all, List.all_map, List.all_eq_true]; intro x _; rfl
theorem al_e3 (P : List C3) : allOldL (P.map e3) = true := by rw [allOldL_all, List.all_map, List.all_eq_true]; intro x _; rfl
theorem lt_e3 (n : Nat) (P : List C3) : lendL (List.take n (P.map e3)) = List.take n (P.map e3) := by rw [← List.map_take, lend_e3]
attribute [local simp] lend_e3 adopt_e3 new_e3 al_e3 lt_e3
def C3.nx (c : C3) (b : Bool) : Int := if b then c.2.2 else c.2.1
end
section
attribute [-simp] DV.cells sliceD
attribute [local simp] cells_st cells_sl cells_i cells_y cells_b cells_s cells_w
theorem bPl_up {us t : List T} (h : us.all tOk = true) : ∀ (f : Nat) (ks : List Int), ks.length = us.length → ks.all kOk = true → uk ks ≤ f → (bPl us t f ks).1 ≤ 9 * f * wk us ks
  | 0, ks, hl, hk, hu => by simp [bPl]
  | f + 1, ks, hl, hk, hu => by
    have B := bPl_ok (t := t) h (f + 1) ks hl hk hu
    have w := (wk_bound (ts := us) (ks := ks) h).1
    cases hf : fcd us.length t ks with
    | true =>
      rw [B.stop hf]
      exact Int.mul_nonneg (Int.mul_nonneg (by omega) (by omega)) (by omega)
    | false =>
      obtain ⟨k, k1, _, k3, _⟩ := B.go hf
      rw [k3, Nat.add_sub_cancel]
      have us' := fun b : Bool => uk_set (b := bI b) (by cases b <;> simp [bI]) k1
      have i0 := bPl_up (t := t) h f (ks.set k (bI false)) (by simpa using hl) (kOk_set hk k false) (by have := us' false; omega)
      have i1 := bPl_up (t := t) h f (ks.set k (bI true)) (by simpa using hl) (kOk_set hk k true) (by have := us' true; omega)
      rw [bI_0] at i0
      rw [bI_1] at i1
      have tw := wk_two hl k1
      have cb := (cA_nn h k).2.2
      have m1 : wk us ks * cA us k ≤ wk us ks * 9 := Int.mul_le_mul_of_nonneg_left cb (by omega)
      unfold bS
      have e : 9 * ((f : Int) + 1) * wk us ks = 9 * f * wk us (ks.set k 0) + 9 * f * wk us (ks.set k 1) + wk us ks * 9 := by
        rw [← Int.mul_add, tw, Int.mul_add, Int.add_mul, Int.mul_one]
        omega
      have e' : ((f + 1 : Nat) : Int) = (f : Int) + 1 := by omega
      rw [e', e]
      omega
end
section
attribute [-simp] DV.cells sliceD
attribute [local simp] cells_st cells_sl cells_i cells_y cells_b cells_s cells_w
attribute [local simp] lend_e3 adopt_e3 new_e3 al_e3 lt_e3
def baOf (us t : List T) : Int := if tsOk us && tmOk us.length t then bA us t else -1
end
section
def aN : List Int → Nat
  | [] => 0
  | k :: r => (if k = -1 then 0 else 1) + 2 * aN r
def kn : List Int → Nat
  | [] => 0
  | k :: r => (if k = -1 then 0 else 1) + kn r
theorem kn_uk : ∀ ks : List Int, kn ks + uk ks = ks.length
  | [] => rfl
  | k :: r => by
    have ih := kn_uk r
    simp only [kn, uk, List.length_cons]
    split <;> omega
theorem aN_lt : ∀ ks : List Int, aN ks < 2 ^ ks.length
  | [] => by decide
  | k :: r => by
    have ih := aN_lt r
    simp only [aN, List.length_cons, Nat.pow_succ]
    split <;> omega
theorem aN_non : ∀ m : Nat, aN (non m) = 0
  | 0 => rfl
  | m + 1 => by
    show (if (-1 : Int) = -1 then 0 else 1) + 2 * aN (non m) = 0
    rw [aN_non m]
    rfl
theorem aN_b0 (k : Int) (r : List Int) : (aN (k :: r)).testBit 0 = !decide (k = -1) := by
  simp only [aN, Nat.testBit_zero]
  by_cases h : k = -1
  · simp [h]
  · simp [h]
theorem aN_div (k : Int) (r : List Int) : aN (k :: r) / 2 = aN r := by
  simp only [aN]
  split <;> omega
theorem aN_bs (k : Int) (r : List Int) (i : Nat) : (aN (k :: r)).testBit (i + 1) = (aN r).testBit i := by
  rw [Nat.testBit_succ, aN_div]
theorem aN_bit : ∀ {ks : List Int} {i : Nat}, i < ks.length → ((aN ks).testBit i = !decide (ks[i]? = some (-1)))
  | [], i, h => by simp at h
  | k :: r, 0, _ => by rw [aN_b0]; simp
  | k :: r, i + 1, h => by
    rw [aN_bs, aN_bit (ks := r) (by simpa using h)]
    simp
theorem aN_set {ks : List Int} {k : Nat} {b : Int} (hb : b ≠ -1) (h : ks[k]? = some (-1)) : aN (ks.set k b) = aN ks ||| 2 ^ k := by
  apply Nat.eq_of_testBit_eq
  intro i
  have hk := ks_ex h
  rw [Nat.testBit_or, Nat.testBit_two_pow]
  by_cases hi : i < ks.length
  · rw [aN_bit (by simpa using hi), aN_bit hi]
    by_cases e : k = i
    · subst e
      rw [List.getElem?_set_self hk]
      simp [hb]
    · rw [List.getElem?_set_ne e]
      simp [e]
  · have l1 := aN_lt (ks.set k b)
    have l2 := aN_lt ks
    rw [List.length_set] at l1
    have p : 2 ^ ks.length ≤ 2 ^ i := Nat.pow_le_pow_right (by omega) (by omega)
    rw [Nat.testBit_lt_two_pow (by omega), Nat.testBit_lt_two_pow (by omega)]
    simp; omega
/-- how many ones there are, for small numbers -/
def pc (x : Nat) : Nat := x % 2 + x / 2 % 2 + x / 4 % 2 + x / 8 % 2 + x / 16 % 2
theorem pc_kn {ks : List Int} (h : ks.length ≤ 5) : pc (aN ks) = kn ks := by
  have key : ∀ k : Int, (if k = -1 then (0 : Nat) else 1) = 0 ∨ (if k = -1 then (0 : Nat) else 1) = 1 := fun k => by split <;> simp
  unfold pc
  match ks, h with
  | [], _ => rfl
  | [a], _ =>
    simp only [aN, kn]
    have hx := key a
    generalize (if a = -1 then (0 : Nat) else 1) = x at *
    rcases hx with rfl | rfl <;> rfl
  | [a, b], _ =>
    simp only [aN, kn]
    have hx := key a
    generalize (if a = -1 then (0 : Nat) else 1) = x at *
    have hy := key b
    generalize (if b = -1 then (0 : Nat) else 1) = y at *
    rcases hx with rfl | rfl <;> rcases hy with rfl | rfl <;> rfl
  | [a, b, c], _ =>
    simp only [aN, kn]
    have hx := key a
    generalize (if a = -1 then (0 : Nat) else 1) = x at *
    have hy := key b
    generalize (if b = -1 then (0 : Nat) else 1) = y at *
    have hz := key c
    generalize (if c = -1 then (0 : Nat) else 1) = z at *
    rcases hx with rfl | rfl <;> rcases hy with rfl | rfl <;> rcases hz with rfl | rfl <;> rfl
  | [a, b, c, d], _ =>
    simp only [aN, kn]
    have hx := key a
    generalize (if a = -1 then (0 : Nat) else 1) = x at *
    have hy := key b
    generalize (if b = -1 then (0 : Nat) else 1) = y at *
    have hz := key c
    generalize (if c = -1 then (0 : Nat) else 1) = z at *
    have hu := key d
    generalize (if d = -1 then (0 : Nat) else 1) = u at *
    rcases hx with rfl | rfl <;> rcases hy with rfl | rfl <;> rcases hz with rfl | rfl <;> rcases hu with rfl | rfl <;> rfl
  | [a, b, c, d, e], _ =>
    simp only [aN, kn]
    have hx := key a
    generalize (if a = -1 then (0 : Nat) else 1) = x at *
    have hy := key b
    generalize (if b = -1 then (0 : Nat) else 1) = y at *
    have hz := key c
    generalize (if c = -1 then (0 : Nat) else 1) = z at *
    have hu := key d
    generalize (if d = -1 then (0 : Nat) else 1) = u at *
    have hv := key e
    generalize (if e = -1 then (0 : Nat) else 1) = v at *
    rcases hx with rfl | rfl <;> rcases hy with rfl | rfl <;> rcases hz with rfl | rfl <;> rcases hu with rfl | rfl <;> rcases hv with rfl | rfl <;> rfl
  | _ :: _ :: _ :: _ :: _ :: _ :: _, h => simp at h
/-- what agrees, as a number -/
def lfW (ks : List Int) : BitVec 32 := agW ks 0 (4294967295#32)
theorem lfW_bit {ks : List Int} (hk : ks.all kOk = true) (hl : ks.length ≤ 5) {s : Nat} (hs : s < 32) : (lfW ks).getLsbD s = agB ks s := by
  unfold lfW
  rw [agW_bit hk (by omega) hs, ones_bit hs]
  simp
theorem lfW_non (m : Nat) (hm : m ≤ 5) : lfW (non m) = 4294967295#32 := by
  apply BitVec.eq_of_getLsbD_eq
  intro s hs
  rw [lfW_bit (non_all m) (by rw [non_len]; exact hm) hs, agB_non, ones_bit hs]
def syW (k : Nat) (b : Bool) : BitVec 32 := if b then yesW k else ~~~ yesW k
theorem lfW_set {ks : List Int} {k : Nat} (b : Bool) (hk : ks.all kOk = true) (hl : ks.length ≤ 5) (h : ks[k]? = some (-1)) : lfW (ks.set k (bI b)) = lfW ks &&& syW k b := by
  have hk5 := ks_ex h
  apply BitVec.eq_of_getLsbD_eq
  intro s hs
  have y := yes_bit ⟨k, by omega⟩ ⟨s, hs⟩
  simp only at y
  rw [lfW_bit (kOk_set hk k b) (by simpa using hl) hs, agB_put h, BitVec.getLsbD_and, lfW_bit hk hl hs]
  unfold syW
  cases b with
  | true => rw [if_pos rfl, y]; cases agB ks s <;> cases s.testBit k <;> rfl
  | false =>
    rw [if_neg (by simp), BitVec.getLsbD_not, y]
    cases agB ks s <;> cases s.testBit k <;> simp [hs]
theorem vaW_fcd {m : Nat} {t : List T} {ks : List Int} (h1 : tmOk m t = true) (hl : ks.length = m) (hk : ks.all kOk = true) : vaW (tsW t) (lfW ks) = foT m t ks := by
  obtain ⟨h3, _, _⟩ := tmOk_iff.1 h1
  exact vaW_foT h1 (ksOk_iff.2 ⟨h3, by omega, hk⟩)
end
section
abbrev Pts := List (Option (List Int))
/-- one goes on to where it is noted -/
def go3 (m : Nat) (t : List T) (N : Nat) (pts : Pts) (p : Int) (a : Int) (ks : List Int) : Prop :=
  (a = -1 ∧ fcd m t ks = true) ∨ (p + 1 ≤ a ∧ a ≤ (N : Int) - 1 ∧ pts[a.toNat]? = some (some ks))
structure Inv (m : Nat) (t : List T) (P : List C3) (p : Nat) (pts : Pts) : Prop where
  len : pts.length = P.length
  nd : (rfs (P.take p)).Nodup
  rng : ∀ a ∈ rfs (P.take p), 1 ≤ a ∧ a < P.length
  iff_ : ∀ a : Nat, a < P.length → (pts[a]? ≠ some none ↔ (a = 0 ∨ (a : Int) ∈ rfs (P.take p)))
  ok : ∀ (a : Nat) (ks : List Int), pts[a]? = some (some ks) → ks.length = m ∧ ks.all kOk = true ∧ fcd m t ks = false
  loc : ∀ q : Nat, q < p → ∃ (ks : List Int) (k no ye : Int), P[q]? = some (k, no, ye) ∧ pts[q]? = some (some ks) ∧ (0 ≤ k ∧ k < m) ∧ ks[k.toNat]? = some (-1) ∧ go3 m t P.length pts q no (ks.set k.toNat 0) ∧ go3 m t P.length pts q ye (ks.set k.toNat 1)
end
section
attribute [-simp] DV.cells
attribute [local simp] sliceD cells_st cells_sl cells_i cells_y cells_b cells_s cells_w
attribute [local simp] lend_e3 adopt_e3 new_e3 al_e3 lt_e3
def pv (m a : Int) (w v : BitVec 32) : DV := .st [.i m, .i a, .w w, .w v]
/-- the point at which so much is known -/
def pD (m : Nat) (t : List T) (ks : List Int) : DV := pv m (aN ks) (lfW ks) (tsW t)
/-- 64 bits: how many are ones -/
theorem c_OnesCount64 {n : Nat} (h : n < 32) : call lf n_math_bits_OnesCount64 [.q n] = some (.i (pc n), []) := by
  rw [call_k lf n_math_bits_OnesCount64 _ (F := F_math_bits_OnesCount64) rfl rfl]
  have c : n = 0 ∨ n = 1 ∨ n = 2 ∨ n = 3 ∨ n = 4 ∨ n = 5 ∨ n = 6 ∨ n = 7 ∨ n = 8 ∨ n = 9 ∨ n = 10 ∨ n = 11 ∨ n = 12 ∨ n = 13 ∨ n = 14 ∨ n = 15 ∨ n = 16 ∨ n = 17 ∨ n = 18 ∨ n = 19 ∨ n = 20 ∨ n = 21 ∨ n = 22 ∨ n = 23 ∨ n = 24 ∨ n = 25 ∨ n = 26 ∨ n = 27 ∨ n = 28 ∨ n = 29 ∨ n = 30 ∨ n = 31 := by omega
  rcases c with rfl | rfl | rfl | rfl | rfl | rfl | rfl | rfl | rfl | rfl | rfl | rfl | rfl | rfl | rfl | rfl | rfl | rfl | rfl | rfl | rfl | rfl | rfl | rfl | rfl | rfl | rfl | rfl | rfl | rfl | rfl | rfl <;>
    simp [F_math_bits_OnesCount64, pc, andI, wr, Go.IntKind.wrap, Go.IntKind.signed, Go.IntKind.bits]
theorem c_OnesCount {n : Nat} (h : n < 32) : call lf n_math_bits_OnesCount [.q n] = some (.i (pc n), []) := by
  have C := c_OnesCount64 h
  rw [call_k lf n_math_bits_OnesCount _ (F := F_math_bits_OnesCount) rfl rfl]
  simp [F_math_bits_OnesCount, C]
theorem c_impl_sizeOf {n : Nat} (h : n < 32) : call lf n_impl_sizeOf [.i n] = some (.i (pc n), []) := by
  have C := c_OnesCount h
  have e : ((n : Int) % 18446744073709551616).toNat = n := by omega
  rw [call_k lf n_impl_sizeOf _ (F := F_impl_sizeOf) rfl rfl]
  simp [F_impl_sizeOf, C, e]
theorem c_howMany {m : Nat} {t : List T} {ks : List Int} (hl : ks.length ≤ 5) : call lf n_impl_point_howManyAsked [pD m t ks] = some (.i (kn ks), []) := by
  have l := aN_lt ks
  have p : 2 ^ ks.length ≤ 2 ^ 5 := Nat.pow_le_pow_right (by omega) hl
  have C := c_impl_sizeOf (n := aN ks) (by omega)
  rw [pc_kn hl] at C
  unfold pD pv
  rw [call_k lf n_impl_point_howManyAsked _ (F := F_impl_point_howManyAsked) rfl rfl]
  generalize aN ks = a at *
  simp [F_impl_point_howManyAsked, C]
theorem c_isForced {m : Nat} {t : List T} {ks : List Int} (h1 : tmOk m t = true) (hl : ks.length = m) (hk : ks.all kOk = true) : call lf n_impl_point_isForced [pD m t ks] = some (.b (fcd m t ks), []) := by
  have C := c_impl_valueAmong (tsW t) (lfW ks)
  rw [vaW_fcd h1 hl hk] at C
  unfold pD pv
  rw [call_k lf n_impl_point_isForced _ (F := F_impl_point_isForced) rfl rfl]
  unfold fcd
  simp [F_impl_point_isForced, C]
/-- may it be asked? -/
def caK (m : Nat) (ks : List Int) (a : Int) : Bool := decide (0 ≤ a ∧ a < m) && decide (ks[a.toNat]? = some (-1))
theorem c_canAsk {m : Nat} {t : List T} {ks : List Int} (hm : m ≤ 5) (hl : ks.length = m) (a : Int) : call lf n_impl_point_canAsk [pD m t ks, .i a] = some (.b (caK m ks a), []) := by
  have W := c_impl_isWithin a 0 ((m : Int) - 1)
  have w1 : wr ((m : Int) - 1) = (m : Int) - 1 := wr_id (by omega) (by omega)
  unfold pD pv
  rw [call_k lf n_impl_point_canAsk _ (F := F_impl_point_canAsk) rfl rfl]
  unfold caK
  by_cases h : 0 ≤ a ∧ a < m
  · obtain ⟨k, rfl⟩ := Int.eq_ofNat_of_zero_le h.1
    have e : decide (0 ≤ (k : Int) ∧ (k : Int) ≤ (m : Int) - 1) = true := decide_eq_true ⟨h.1, by omega⟩
    have H := c_impl_hasTest (aN ks) k (by omega)
    have hb := aN_bit (ks := ks) (i := k) (by omega)
    rw [hb] at H
    rw [e] at W
    rw [decide_eq_true h, Int.toNat_natCast]
    generalize aN ks = x at *
    generalize lfW ks = y at *
    simp [F_impl_point_canAsk, w1, W, H]
  · have e : decide (0 ≤ a ∧ a ≤ (m : Int) - 1) = false := decide_eq_false (by omega)
    rw [e] at W
    rw [decide_eq_false h]
    simp [F_impl_point_canAsk, w1, W]
theorem c_answered {m : Nat} {t : List T} {ks : List Int} {k : Nat} (b : Bool) (hl : ks.length ≤ 5) (hk : ks.all kOk = true) (h : ks[k]? = some (-1)) : call lf n_impl_point_answered [pD m t ks, .i k, .i (bI b)] = some (pD m t (ks.set k (bI b)), []) := by
  have hlt := ks_ex h
  have C := c_impl_statesSaying (k := k) (by omega) (bI b)
  have e1 : syI k (bI b) = syW k b := by cases b <;> rfl
  rw [e1] at C
  have sh := shl1 (k := (k : Int)) (by omega) (by omega)
  have nk : ¬ (k : Int) < 0 := by omega
  have l := aN_lt ks
  have p : 2 ^ ks.length ≤ 2 ^ 5 := Nat.pow_le_pow_right (by omega) hl
  have p2 : 2 ^ k ≤ 2 ^ 5 := Nat.pow_le_pow_right (by omega) (by omega)
  have o := orI_nat (a := aN ks) (b := 2 ^ k) (by omega) (by omega)
  rw [← aN_set (b := bI b) (by cases b <;> simp [bI]) h] at o
  have e2 := lfW_set b hk hl h
  unfold pD pv
  rw [call_k lf n_impl_point_answered _ (F := F_impl_point_answered) rfl rfl]
  rw [e2]
  have o' : orI (aN ks) (2 ^ k) = aN (ks.set k (bI b)) := by
    have : ((2 ^ k : Nat) : Int) = 2 ^ k := by simp
    rw [← this]; exact o
  rw [Int.toNat_natCast] at sh
  generalize aN (ks.set k (bI b)) = x at *
  generalize aN ks = y at *
  generalize lfW ks = z at *
  generalize (2 : Int) ^ k = w at *
  simp [F_impl_point_answered, C, sh, nk, o']
theorem c_startOf {m : Nat} {t : List T} (hm : m ≤ 5) (h : tmOk m t = true) : call lf n_impl_startOf [.i m, .sl 0 (t.map e2)] = some (pD m t (non m), []) := by
  have C := c_impl_trueStates h
  unfold pD pv
  rw [aN_non, lfW_non m hm]
  rw [call_k lf n_impl_startOf _ (F := F_impl_startOf) rfl rfl]
  simp [F_impl_startOf, C]
end
section
attribute [-simp] DV.cells
attribute [local simp] sliceD cells_st cells_sl cells_i cells_y cells_b cells_s cells_w
attribute [local simp] lend_e3 adopt_e3 new_e3 al_e3 lt_e3
def e4 (m : Nat) (t : List T) : Option (List Int) → DV
  | some ks => pD m t ks
  | none => pv 0 0 (0#32) (0#32)
end
section
attribute [-simp] DV.cells
attribute [local simp] sliceD cells_st cells_sl cells_i cells_y cells_b cells_s cells_w
attribute [local simp] lend_e3 adopt_e3 new_e3 al_e3 lt_e3
structure Fin (m : Nat) (t : List T) (P : List C3) (L : LT) (pts : Pts) : Prop where
  inv : Inv m t P P.length pts
  start : go3 m t P.length pts (-1) (rot P) (non m)
end
section
def lsB (S : Nat → Int) (ks : List Int) : Nat → Int × Int
  | 0 => (-1, 0)
  | i + 1 => if ks[i]? = some (-1) then (if (lsB S ks i).1 = -1 ∨ S i < (lsB S ks i).2 then ((i : Int), S i) else lsB S ks i) else lsB S ks i
def lsF (m : Nat) (t : List T) (pr : List Int → Nat → Int → Int → Int) : Nat → List Int → Int × Int
  | 0, _ => (-1, 0)
  | f + 1, ks => if fcd m t ks = true then (-1, 0) else lsB (fun k => pr ks k (lsF m t pr f (ks.set k 0)).2 (lsF m t pr f (ks.set k 1)).2) ks m
theorem lsB_lp {S S' : Nat → Int} {ks : List Int} {c : Int} (hc : 1 ≤ c) (h : ∀ k, ks[k]? = some (-1) → 0 ≤ S k ∧ S' k = c * S k) : ∀ i : Nat,
    (lsB S ks i = (-1, 0) ∧ lpB S' ks i = (-1, -1)) ∨ ∃ k : Nat, k < i ∧ ks[k]? = some (-1) ∧ lsB S ks i = ((k : Int), S k) ∧ lpB S' ks i = (S' k, (k : Int))
  | 0 => .inl ⟨rfl, rfl⟩
  | i + 1 => by
    simp only [lsB, lpB]
    by_cases hi : ks[i]? = some (-1)
    · rw [if_pos hi, if_pos hi]
      right
      rcases lsB_lp hc h i with ⟨e1, e2⟩ | ⟨k, k1, k2, e1, e2⟩
      · rw [e1, e2, if_pos (.inl rfl), if_pos (.inl (by show (-1 : Int) < 0; omega))]
        exact ⟨i, by omega, hi, rfl, rfl⟩
      · rw [e1, e2]
        obtain ⟨a0, a1⟩ := h i hi
        obtain ⟨b0, b1⟩ := h k k2
        have bn : 0 ≤ S' k := by rw [b1]; exact Int.mul_nonneg (by omega) b0
        have q : S' i < S' k ↔ S i < S k := by
          rw [a1, b1]
          constructor
          · intro hx
            exact Int.lt_of_mul_lt_mul_left hx (by omega)
          · intro hx
            exact Int.mul_lt_mul_of_pos_left hx (by omega)
        by_cases hx : S i < S k
        · rw [if_pos (.inr hx), if_pos (.inr (q.2 hx))]
          exact ⟨i, by omega, hi, rfl, rfl⟩
        · rw [if_neg (by rintro (h | h); exact absurd h (by show ¬ (k : Int) = -1; omega); exact hx h), if_neg (by rintro (h | h); exact absurd h (by show ¬ S' k < 0; omega); exact hx (q.1 h))]
          exact ⟨k, by omega, k2, rfl, rfl⟩
    · rw [if_neg hi, if_neg hi]
      rcases lsB_lp hc h i with e | ⟨k, k1, k2, e1, e2⟩
      · exact .inl e
      · exact .inr ⟨k, by omega, k2, e1, e2⟩
/-- the weight of what is known -/
def kp : List T → List Int → Int
  | t :: r, k :: ks => (if k = -1 then 1 else if k = 1 then t.2 else 6 - t.2) * kp r ks
  | _, _ => 1
theorem kp_wk : ∀ {us : List T} {ks : List Int}, ks.length = us.length → wk us ks = kp us ks * 6 ^ uk ks
  | [], [], _ => rfl
  | [], _ :: _, h => by simp at h
  | _ :: _, [], h => by simp at h
  | t :: us, k :: ks, h => by
    have ih := kp_wk (us := us) (ks := ks) (by simpa using h)
    show (if k = -1 then 6 else if k = 1 then t.2 else 6 - t.2) * wk us ks = (if k = -1 then 1 else if k = 1 then t.2 else 6 - t.2) * kp us ks * 6 ^ uk (k :: ks)
    rw [ih]
    by_cases e : k = -1
    · have : uk (k :: ks) = uk ks + 1 := by simp only [uk]; rw [if_pos e]; omega
      rw [if_pos e, if_pos e, this, Int.pow_succ, Int.one_mul, Int.mul_comm 6, Int.mul_assoc]
    · have : uk (k :: ks) = uk ks := by simp only [uk]; rw [if_neg e]; omega
      rw [if_neg e, if_neg e, this, Int.mul_assoc]
theorem kp_pos : ∀ {us : List T} {ks : List Int}, us.all tOk = true → 1 ≤ kp us ks
  | [], ks, _ => by simp [kp]
  | t :: us, [], _ => by simp [kp]
  | t :: us, k :: ks, h => by
    simp only [List.all_cons, Bool.and_eq_true] at h
    have ih := kp_pos (us := us) (ks := ks) h.2
    have ht := (tOk_iff.1 h.1).2
    have c : 1 ≤ (if k = -1 then 1 else if k = 1 then t.2 else 6 - t.2) := by
      split
      · omega
      · split <;> omega
    have := Int.mul_le_mul c ih (by omega) (by omega)
    simpa [kp] using this
theorem kp_put : ∀ {us : List T} {ks : List Int} {k : Nat}, ks.length = us.length → ks[k]? = some (-1) →
    kp us (ks.set k 0) = kp us ks * (6 - (us.getD k (0, 0)).2) ∧ kp us (ks.set k 1) = kp us ks * (us.getD k (0, 0)).2
  | _, [], k, _, h => by simp at h
  | [], x :: r, k, hl, h => by simp at hl
  | t :: us, x :: r, 0, hl, h => by
    simp only [List.getElem?_cons_zero, Option.some.injEq] at h
    subst h
    have e : kp (t :: us) (-1 :: r) = kp us r := by simp [kp]
    rw [e]
    refine ⟨?_, ?_⟩
    · show (6 - t.2) * kp us r = _
      rw [Int.mul_comm]; rfl
    · show t.2 * kp us r = _
      rw [Int.mul_comm]; rfl
  | t :: us, x :: r, k + 1, hl, h => by
    simp only [List.getElem?_cons_succ] at h
    obtain ⟨h2, h3⟩ := kp_put (us := us) (by simpa using hl) h
    have e : ∀ ks : List Int, kp (t :: us) (x :: ks) = (if x = -1 then 1 else if x = 1 then t.2 else 6 - t.2) * kp us ks := fun _ => rfl
    generalize hc : (if x = -1 then 1 else if x = 1 then t.2 else 6 - t.2) = c at e
    have g : (t :: us).getD (k + 1) (0, 0) = us.getD k (0, 0) := by simp [List.getD]
    rw [g]
    refine ⟨?_, ?_⟩
    · rw [List.set_cons_succ, e, e, h2, Int.mul_assoc]
    · rw [List.set_cons_succ, e, e, h3, Int.mul_assoc]
theorem kp_non : ∀ us : List T, kp us (non us.length) = 1
  | [] => rfl
  | t :: us => by
    show (if (-1 : Int) = -1 then 1 else _) * kp us (non us.length) = 1
    rw [if_pos rfl, kp_non us]
    rfl
/-- what asking costs on average, in parts -/
def avQ (us : List T) (ks : List Int) (k : Nat) (no yes : Int) : Int := cA us k * 6 ^ uk ks + (6 - (us.getD k (0, 0)).2) * no + (us.getD k (0, 0)).2 * yes
theorem lsF_bPl {us t : List T} (h : us.all tOk = true) : ∀ (f : Nat) (ks : List Int), ks.length = us.length → ks.all kOk = true → uk ks ≤ f →
    0 ≤ (lsF us.length t (avQ us) f ks).2 ∧ kp us ks * (lsF us.length t (avQ us) f ks).2 = (bPl us t f ks).1 ∧ (lsF us.length t (avQ us) f ks).1 = (bPl us t f ks).2
  | 0, ks, hl, hk, hu => by
    simp only [lsF, bPl]
    exact ⟨Int.le_refl _, by simp, by simp⟩
  | f + 1, ks, hl, hk, hu => by
    simp only [lsF, bPl]
    cases hc : fcd us.length t ks with
    | true => rw [if_pos rfl, if_pos rfl]; exact ⟨Int.le_refl _, by simp, rfl⟩
    | false =>
      rw [if_neg (by simp), if_neg (by simp)]
      have key : ∀ k, ks[k]? = some (-1) → 0 ≤ avQ us ks k (lsF us.length t (avQ us) f (ks.set k 0)).2 (lsF us.length t (avQ us) f (ks.set k 1)).2 ∧
          wk us ks * cA us k + (bPl us t f (ks.set k 0)).1 + (bPl us t f (ks.set k 1)).1 = kp us ks * avQ us ks k (lsF us.length t (avQ us) f (ks.set k 0)).2 (lsF us.length t (avQ us) f (ks.set k 1)).2 := fun k hkk => by
        have u := fun (b : Bool) => uk_set (b := bI b) (by cases b <;> simp [bI]) hkk
        have u0 := u false
        have u1 := u true
        rw [bI_0] at u0
        rw [bI_1] at u1
        obtain ⟨a1, a2, _⟩ := lsF_bPl h (t := t) f (ks.set k 0) (by simpa using hl) (kOk_set hk k false) (by omega)
        obtain ⟨b1, b2, _⟩ := lsF_bPl h (t := t) f (ks.set k 1) (by simpa using hl) (kOk_set hk k true) (by omega)
        obtain ⟨p0, p1⟩ := kp_put hl hkk
        rw [← a2, ← b2, p0, p1, kp_wk hl]
        have kl := ks_ex hkk
        have tq : 1 ≤ (us.getD k (0, 0)).2 ∧ (us.getD k (0, 0)).2 ≤ 5 := by
          have hlt : k < us.length := by omega
          have e : us.getD k (0, 0) = us[k] := by simp [List.getD, hlt]
          have := tOk_iff.1 (List.all_eq_true.1 h us[k] (List.getElem_mem hlt))
          rw [← e] at this
          exact this.2
        have c0 := cA_nn' h k
        have pp : (0 : Int) ≤ 6 ^ uk ks := Int.le_of_lt (Int.pow_pos (by omega))
        generalize (lsF us.length t (avQ us) f (ks.set k 0)).2 = x at *
        generalize (lsF us.length t (avQ us) f (ks.set k 1)).2 = y at *
        unfold avQ
        generalize (us.getD k (0, 0)).2 = q at *
        generalize cA us k = c at *
        generalize (6 : Int) ^ uk ks = w at *
        generalize kp us ks = K at *
        refine ⟨?_, ?_⟩
        · have m1 := Int.mul_nonneg c0 pp
          have m2 := Int.mul_nonneg (show (0 : Int) ≤ 6 - q by omega) a1
          have m3 := Int.mul_nonneg (show (0 : Int) ≤ q by omega) b1
          omega
        · rw [Int.mul_add, Int.mul_add, Int.mul_assoc K (6 - q) x, Int.mul_assoc K q y, Int.mul_assoc K w c, Int.mul_comm w c]
      rcases lsB_lp (kp_pos (ks := ks) h) key us.length with ⟨e1, e2⟩ | ⟨k, k1, k2, e1, e2⟩
      · exfalso
        have up : 0 < uk ks := by
          apply Nat.pos_of_ne_zero
          intro e
          rw [fcd_all hl hk e] at hc
          cases hc
        have B := bPl_ok (t := t) h (f + 1) ks hl hk hu
        obtain ⟨k, k1, k2, _⟩ := B.go hc
        simp only [bPl] at k2
        rw [if_neg (by rw [hc]; simp), e2] at k2
        simp only at k2
        omega
      · rw [e1, e2]
        exact ⟨(key k k2).1, (key k k2).2.symm, rfl⟩
theorem lsF_up {us t : List T} (h : us.all tOk = true) (hm : us.length ≤ 5) {f : Nat} {ks : List Int} (hl : ks.length = us.length) (hk : ks.all kOk = true) (hu : uk ks ≤ f) (hf : f ≤ 5) : (lsF us.length t (avQ us) f ks).2 ≤ 349920 := by
  obtain ⟨a1, a2, _⟩ := lsF_bPl h (t := t) f ks hl hk hu
  have b := bPl_up h (t := t) f ks hl hk hu
  have kpp := kp_pos (ks := ks) h
  rw [← a2, kp_wk hl] at b
  have ul := uk_le ks
  have p := p6 (n := uk ks) (by omega)
  have : (lsF us.length t (avQ us) f ks).2 ≤ 9 * f * 6 ^ uk ks := by
    refine Int.le_of_mul_le_mul_left (a := kp us ks) ?_ (by omega)
    rw [show kp us ks * (9 * (f : Int) * 6 ^ uk ks) = 9 * f * (kp us ks * 6 ^ uk ks) by rw [Int.mul_left_comm]]
    exact b
  have q : 9 * (f : Int) * 6 ^ uk ks ≤ 45 * 7776 := Int.mul_le_mul (by omega) p.2 (by omega) (by omega)
  omega
end
section
attribute [-simp] DV.cells
attribute [local simp] sliceD cells_st cells_sl cells_i cells_y cells_b cells_s cells_w
theorem c_impl_wholeOf {n : Nat} (hn : n ≤ 5) : call lf n_impl_wholeOf [.i n] = some (.i (6 ^ n), []) := by
  rw [call_k lf n_impl_wholeOf _ (F := F_impl_wholeOf) rfl rfl]
  have L := loop_count (lf := lf) (L := F_impl_wholeOf_L0) n (fun i => ⟨[(3, .i (6 ^ i)), (4, .i n), (5, .i i)], []⟩) (x := .exit 0) (R := ⟨[(3, .i (6 ^ n)), (4, .i n), (5, .i n)], []⟩) (fun i hi => by
    have p := p6 (n := i) (by omega)
    have w1 : wr ((i : Int) + 1) = i + 1 := wr_id (by omega) (by omega)
    have w2 : wr ((6 : Int) ^ i * 6) = 6 ^ i * 6 := wr_id (by omega) (by omega)
    simp [F_impl_wholeOf_L0, hi, w1, w2, Int.pow_succ]) (by simp [F_impl_wholeOf_L0]) (by simp)
  have L' : ex lf F_impl_wholeOf_W0 ⟨[(3, .i 1), (4, .i n), (5, .i 0)], []⟩ = some (.exit 0, ⟨[(3, .i (6 ^ n)), (4, .i n), (5, .i n)], []⟩) := L
  simp [F_impl_wholeOf, L']
end
section
attribute [-simp] DV.cells
attribute [local simp] sliceD cells_st cells_sl cells_i cells_y cells_b cells_s cells_w
attribute [local simp] lend_e3 adopt_e3 new_e3 al_e3 lt_e3
theorem c_averageAsking {c q no yes : Int} {n : Nat} (hn : n ≤ 5) (hc : 1 ≤ c ∧ c ≤ 9) (hq : 1 ≤ q ∧ q ≤ 5) (h0 : 0 ≤ no ∧ no ≤ 400000) (h1 : 0 ≤ yes ∧ yes ≤ 400000) :
    call lf n_impl_averageAsking [.st [.i c, .i q], .i n, .i no, .i yes] = some (.i (c * 6 ^ n + (6 - q) * no + q * yes), []) := by
  have W := c_impl_wholeOf hn
  have p := p6 hn
  have b1 : c * 6 ^ n ≤ 9 * 7776 := Int.mul_le_mul hc.2 p.2 (by omega) (by omega)
  have b1' : 0 ≤ c * 6 ^ n := Int.mul_nonneg (by omega) (by omega)
  have b2 : (6 - q) * no ≤ 5 * 400000 := Int.mul_le_mul (by omega) h0.2 h0.1 (by omega)
  have b2' : 0 ≤ (6 - q) * no := Int.mul_nonneg (by omega) h0.1
  have b3 : q * yes ≤ 5 * 400000 := Int.mul_le_mul (by omega) h1.2 h1.1 (by omega)
  have b3' : 0 ≤ q * yes := Int.mul_nonneg (by omega) h1.1
  have w2 : wr (c * 6 ^ n) = c * 6 ^ n := wr_id (by omega) (by omega)
  have w3 : wr (6 - q) = 6 - q := wr_id (by omega) (by omega)
  have w4 : wr ((6 - q) * no) = (6 - q) * no := wr_id (by omega) (by omega)
  have w5 : wr (c * 6 ^ n + (6 - q) * no) = c * 6 ^ n + (6 - q) * no := wr_id (by omega) (by omega)
  have w6 : wr (q * yes) = q * yes := wr_id (by omega) (by omega)
  have w7 : wr (c * 6 ^ n + (6 - q) * no + q * yes) = c * 6 ^ n + (6 - q) * no + q * yes := wr_id (by omega) (by omega)
  rw [call_k lf n_impl_averageAsking _ (F := F_impl_averageAsking) rfl rfl]
  generalize (6 : Int) ^ n = z at *
  simp [F_impl_averageAsking, W, w2, w3, w4, w5, w6, w7]
set_option maxHeartbeats 4000000 in
theorem c_averagesOf_1 {us t : List T} {ks : List Int} (hu : us.all tOk = true) (hm : us.length ≤ 5) (hl : ks.length = us.length) {k : Nat} (hk : k < us.length) {no yes : Int} (h0 : 0 ≤ no ∧ no ≤ 400000) (h1 : 0 ≤ yes ∧ yes ≤ 400000) :
    call lf n_impl_averagesOf_1 [pD us.length t ks, .i k, .i no, .i yes, .adr (.sl 0 (us.map e2))] = some (.i (avQ us ks k no yes), []) := by
  obtain ⟨c, q, c1, c2, c3⟩ := cA_at (us := us) (a := (k : Int)) (by omega) (by omega)
  rw [Int.toNat_natCast] at c2 c3
  have tq : tOk (c, q) = true := by
    have e : us.getD k (0, 0) = us[k] := by simp [List.getD, hk]
    rw [← c3, e]
    exact List.all_eq_true.1 hu us[k] (List.getElem_mem hk)
  have tq := tOk_iff.1 tq
  simp only at tq
  have H := c_howMany (m := us.length) (t := t) (ks := ks) (by omega)
  have kk := kn_uk ks
  have A := c_averageAsking (n := uk ks) (by omega) tq.1 tq.2 h0 h1
  have w1 : wr ((us.length : Int) - kn ks) = (uk ks : Int) := by rw [wr_id (by omega) (by omega)]; omega
  unfold avQ
  rw [c3, ← c2]
  simp only
  have ul : (us.map e2).length = us.length := by simp
  have kl : (k : Int) < us.length := by omega
  unfold pD pv at *
  rw [call_k lf n_impl_averagesOf_1 _ (F := F_impl_averagesOf_1) rfl rfl]
  generalize us.map e2 = U at *
  generalize c * 6 ^ uk ks + (6 - q) * no + q * yes = z at *
  generalize uk ks = u at *
  generalize kn ks = v at *
  generalize aN ks = a at *
  simp [F_impl_averagesOf_1, c1, ul, kl, H, A, w1]
theorem c_averagesOf (us : List T) : call lf n_impl_averagesOf [.sl 0 (us.map e2)] = some (.fn n_impl_averagesOf_1 [.adr (.sl 0 (us.map e2))], []) := by
  rw [call_k lf n_impl_averagesOf _ (F := F_impl_averagesOf) rfl rfl]
  simp [F_impl_averagesOf]
def stLsA (us t : List T) (ks : List Int) (b : Int × Int) (i : Nat) : LS :=
  ⟨[(1, .fn n_impl_averagesOf_1 [.adr (.sl 0 (us.map e2))]), (2, .oad 1056 1 0 0), (6, .i b.1), (7, .i b.2), (19, .i us.length), (20, .i i)], [(1056, [pD us.length t ks])]⟩
set_option maxHeartbeats 8000000 in
theorem c_leastFromA {us t : List T} (hu : us.all tOk = true) (hm : 1 ≤ us.length ∧ us.length ≤ 5) (ht : tmOk us.length t = true) : ∀ (f : Nat) (ks : List Int), f ≤ 5 → ks.length = us.length → ks.all kOk = true → uk ks ≤ f →
    call lf n_impl_leastFrom [pD us.length t ks, .fn n_impl_averagesOf_1 [.adr (.sl 0 (us.map e2))]] = some (.tup [.i (lsF us.length t (avQ us) f ks).1, .i (lsF us.length t (avQ us) f ks).2], [])
  | f, ks, hf5, hl, hk, hf => by
    have F := c_isForced ht hl hk
    cases hc : fcd us.length t ks with
    | true =>
      have e : lsF us.length t (avQ us) f ks = (-1, 0) := by
        cases f with
        | zero => rfl
        | succ f => simp only [lsF]; rw [if_pos hc]
      rw [e]
      rw [hc] at F
      unfold pD pv at *
      rw [call_k lf n_impl_leastFrom _ (F := F_impl_leastFrom) rfl rfl]
      simp [F_impl_leastFrom, F]
    | false =>
      cases f with
      | zero =>
        rw [fcd_all hl hk (by omega)] at hc
        cases hc
      | succ f =>
        rw [hc] at F
        have e : lsF us.length t (avQ us) (f + 1) ks = lsB (fun k => (avQ us) ks k (lsF us.length t (avQ us) f (ks.set k 0)).2 (lsF us.length t (avQ us) f (ks.set k 1)).2) ks us.length := by
          simp only [lsF]
          rw [if_neg (by rw [hc]; simp)]
        rw [e]
        have us' := fun (k : Nat) (hkk : ks[k]? = some (-1)) (b : Bool) => uk_set (b := bI b) (by cases b <;> simp [bI]) hkk
        have BD : ∀ (k : Nat) (b : Bool), ks[k]? = some (-1) → 0 ≤ (lsF us.length t (avQ us) f (ks.set k (bI b))).2 ∧ (lsF us.length t (avQ us) f (ks.set k (bI b))).2 ≤ 400000 := fun k b hkk => by
          have := us' k hkk b
          exact ⟨(lsF_bPl hu f (ks.set k (bI b)) (by simpa using hl) (kOk_set hk k b) (by omega)).1, by have := lsF_up (t := t) hu hm.2 (f := f) (ks := ks.set k (bI b)) (by simpa using hl) (kOk_set hk k b) (by omega) (by omega); omega⟩
        generalize hS : (fun k => (avQ us) ks k (lsF us.length t (avQ us) f (ks.set k 0)).2 (lsF us.length t (avQ us) f (ks.set k 1)).2) = S
        have LP := loop_count (lf := lf) (L := F_impl_leastFrom_L0) us.length (fun i => stLsA us t ks (lsB S ks i) i) (x := .exit 0) (R := stLsA us t ks (lsB S ks us.length) us.length) (fun i hi => by
          have C := c_canAsk (m := us.length) (t := t) (ks := ks) (by omega) hl (i : Int)
          have w1 : wr ((i : Int) + 1) = ((i + 1 : Nat) : Int) := by rw [wr_id (by omega) (by omega)]; omega
          have hi' : (i : Int) < (us.length : Int) := by omega
          have eb : lsB S ks (i + 1) = if ks[i]? = some (-1) then (if (lsB S ks i).1 = -1 ∨ S i < (lsB S ks i).2 then ((i : Int), S i) else lsB S ks i) else lsB S ks i := rfl
          have ca : caK us.length ks (i : Int) = decide (ks[i]? = some (-1)) := by
            unfold caK
            rw [decide_eq_true (show 0 ≤ (i : Int) ∧ (i : Int) < (us.length : Int) by omega), Int.toNat_natCast, Bool.true_and]
          rw [ca] at C
          rw [eb]
          by_cases hkk : ks[i]? = some (-1)
          · rw [if_pos hkk]
            rw [decide_eq_true hkk] at C
            have B0 := c_answered (m := us.length) (t := t) false (by omega) hk hkk
            have B1 := c_answered (m := us.length) (t := t) true (by omega) hk hkk
            have u0 := us' i hkk false
            have u1 := us' i hkk true
            have G0 := c_leastFromA hu hm ht f (ks.set i (bI false)) (by omega) (by simpa using hl) (kOk_set hk i false) (by omega)
            have G1 := c_leastFromA hu hm ht f (ks.set i (bI true)) (by omega) (by simpa using hl) (kOk_set hk i true) (by omega)
            have D0 := BD i false hkk
            have D1 := BD i true hkk
            rw [bI_0] at B0 G0 D0
            rw [bI_1] at B1 G1 D1
            have Pr := c_averagesOf_1 (us := us) (t := t) (ks := ks) hu hm.2 hl (k := i) hi (no := (lsF us.length t (avQ us) f (ks.set i 0)).2) (yes := (lsF us.length t (avQ us) f (ks.set i 1)).2) D0 D1
            have eS : S i = (avQ us) ks i (lsF us.length t (avQ us) f (ks.set i 0)).2 (lsF us.length t (avQ us) f (ks.set i 1)).2 := by rw [← hS]
            rw [← eS] at Pr
            clear BD hS eb
            generalize lsF us.length t (avQ us) f (ks.set i 0) = x at *
            generalize lsF us.length t (avQ us) f (ks.set i 1) = y at *
            obtain ⟨x1, x2⟩ := x
            obtain ⟨y1, y2⟩ := y
            generalize lsB S ks i = b at *
            obtain ⟨b1, b2⟩ := b
            generalize S i = s at *
            simp only at *
            unfold stLsA
            unfold pD pv at *
            by_cases hb : b1 = -1
            · rw [if_pos (.inl hb)]
              have hb' : (b1 == -1) = true := by simpa using hb
              subst hb
              simp [F_impl_leastFrom_L0, hi, hi', C, B0, B1, G0, G1, Pr, w1, -Int.natCast_add]
            · have hb' : (b1 == -1) = false := beq_eq_false_iff_ne.2 hb
              by_cases hlt : s < b2
              · rw [if_pos (.inr hlt)]
                simp [F_impl_leastFrom_L0, hi, hi', C, B0, B1, G0, G1, Pr, w1, hb', hlt, -Int.natCast_add]
              · rw [if_neg (by rintro (h | h); exact hb h; exact hlt h)]
                simp [F_impl_leastFrom_L0, hi, hi', C, B0, B1, G0, G1, Pr, w1, hb', hlt, -Int.natCast_add]
          · rw [if_neg hkk]
            rw [decide_eq_false hkk] at C
            clear BD hS eb
            generalize lsB S ks i = b at *
            unfold stLsA
            unfold pD pv at *
            simp [F_impl_leastFrom_L0, hi, hi', C, w1, -Int.natCast_add]) (by
          unfold stLsA
          unfold pD pv at *
          simp [F_impl_leastFrom_L0]) (by simp)
        have z : lsB S ks 0 = (-1, 0) := rfl
        rw [z] at LP
        unfold stLsA at LP
        simp only [Int.natCast_zero] at LP
        change ex lf F_impl_leastFrom_W0 _ = _ at LP
        clear BD hS
        unfold pD pv at *
        rw [call_k lf n_impl_leastFrom _ (F := F_impl_leastFrom) rfl rfl]
        generalize lsB S ks us.length = b at *
        simp [F_impl_leastFrom, F, LP]
end
section
attribute [-simp] DV.cells
attribute [local simp] sliceD cells_st cells_sl cells_i cells_y cells_b cells_s cells_w
attribute [local simp] lend_e3 adopt_e3 new_e3 al_e3 lt_e3
theorem lsF_root {us t : List T} (h : us.all tOk = true) : (lsF us.length t (avQ us) us.length (non us.length)).2 = bA us t := by
  obtain ⟨_, a2, _⟩ := lsF_bPl h (t := t) us.length (non us.length) (non_len _) (non_all _) (by rw [uk_non]; exact Nat.le_refl _)
  rw [kp_non, Int.one_mul] at a2
  exact a2
set_option maxHeartbeats 4000000 in
theorem c_impl_BestAverage (us t : List T) (ha : (us.length : Int) < 1099511627776) (hb : (t.length : Int) < 1099511627776) : call lf n_impl_BestAverage [.sl 0 (us.map e2), .sl 0 (t.map e2)] = some (.i (baOf us t), []) := by
  have C1 := c_impl_TestsOk us ha
  have C2 := c_impl_TermOk us.length t hb
  have ul : (us.map e2).length = us.length := by simp
  rw [call_k lf n_impl_BestAverage _ (F := F_impl_BestAverage) rfl rfl]
  unfold baOf
  cases h1 : tsOk us with
  | false => rw [h1] at C1; simp [F_impl_BestAverage, C1]
  | true =>
    rw [h1] at C1
    have h' := tsOk_iff.1 h1
    cases h2 : tmOk us.length t with
    | false => rw [h2] at C2; simp [F_impl_BestAverage, C1, C2]
    | true =>
      rw [h2] at C2
      have C3 := c_startOf (t := t) (by omega) h2
      have C4 := c_averagesOf us
      have C5 := c_leastFromA h'.2 (by omega) h2 us.length (non us.length) (by omega) (non_len _) (non_all _) (by rw [uk_non]; exact Nat.le_refl _)
      rw [lsF_root h'.2] at C5
      generalize (lsF us.length t (avQ us) us.length (non us.length)).1 = x at *
      unfold pD pv at *
      simp [F_impl_BestAverage, C1, C2, C3, C4, C5]
end
section
attribute [-simp] DV.cells
attribute [local simp] cells_st cells_sl cells_i cells_y cells_b cells_s
theorem nodup_rev {l : List Int} (h : l.Nodup) : l.reverse.Nodup := by
  have := List.pairwise_reverse.2 (List.Pairwise.imp (fun hab => Ne.symm hab) h)
  exact this
theorem orOk_rev {m : Int} {os : List Int} (h : orOk m os = true) : orOk m os.reverse = true := by
  obtain ⟨h1, h2, h3⟩ := orOk_iff.1 h
  obtain ⟨a1, a2⟩ := orS_nodup.1 h3
  exact orOk_iff.2 ⟨h1, by simpa using h2, orS_nodup.2 ⟨fun o ho => a1 o (List.mem_reverse.1 ho), nodup_rev a2⟩⟩
def kb (i : Nat) : Nat := if i = 0 then 16904 else 22536
theorem kb_or (i : Nat) : kb i = 16904 ∨ kb i = 22536 := by unfold kb; split <;> simp
def stOab (us t : List T) (os : List Int) (n : Int) (k : Nat) (R : List DV) (i : Nat) : LS :=
  ⟨[(3, .own 7697 us.length 0 us.length), (4, .own 7698 t.length 0 t.length), (5, .own 7691 os.length 0 os.length), (6, .i n), (7, .own k i 0 i), (8, .i i)], [(7691, os.map .i), (7697, us.map e2), (7698, t.map e2), (k, R)]⟩
set_option maxHeartbeats 4000000 in
theorem back_loopB (us t : List T) (os : List Int) (n : Int) (hl : os.length ≤ 6) :
    ex lf F_laws_FnOrdersAbove_W0 (stOab us t os n 16904 [] 0) = some (.exit 0, stOab us t os n 16904 (os.reverse.map .i) os.length) := by
  refine loop_count os.length (fun i => stOab us t os n (kb i) ((os.take i).reverse.map .i) i) (fun i hi => ?_) ?_ (by simp [stOab, kb])
  · have w1 : wr ((i : Int) + 1) = (i : Int) + 1 := wr_id (by omega) (by omega)
    have hi' : (i : Int) < os.length := by omega
    have lb : 1 + i ≤ bound := by unfold bound; omega
    have lb1 : 1 ≤ bound := by unfold bound; omega
    have lb2 : i + 1 ≤ bound := by unfold bound; omega
    have tk : os.take (i + 1) = os.take i ++ [os[i]] := List.take_succ_eq_append_getElem hi
    have at1 : atN (os.map DV.i) i = some (.i os[i]) := by show (os.map DV.i)[i]? = _; simp [hi]
    have k1 : kb (i + 1) = 22536 := by simp [kb]
    have ac : 1 + i = i + 1 := by omega
    have tt : List.take i ((os.take i).reverse.map DV.i) = (os.take i).reverse.map .i := List.take_of_length_le (by simp; omega)
    have lL : ((os.take i).reverse.map DV.i).length = i := by simp; omega
    have wR := i_wid1 (os.take i).reverse
    rw [k1, tk, List.reverse_append, List.reverse_singleton, List.singleton_append, List.map_cons]
    unfold stOab
    generalize (os.take i).reverse.map DV.i = R at *
    rcases kb_or i with h | h <;> rw [h] <;> simp [F_laws_FnOrdersAbove_L0, hi, hi', w1, lb, lb1, lb2, at1, tt, ac, lL, if_pos wR]
  · have lL : (os.reverse.map DV.i).length = os.length := by simp
    rw [List.take_length]
    unfold stOab
    generalize os.reverse.map DV.i = R at *
    rcases kb_or os.length with h | h <;> rw [h] <;> simp [F_laws_FnOrdersAbove_L0, lL]
set_option maxHeartbeats 8000000 in
theorem law_FnOrdersAbove (x : List Nat) (_ : x.length ≤ Go.maxLen) (hb : ∀ y ∈ x, y < 256) : call lf n_laws_FnOrdersAbove [bys x] = some (.b true, []) := by
  show call lf n_laws_FnOrdersAbove [.sl 0 (x.map .y)] = _
  rw [call_k lf n_laws_FnOrdersAbove _ (F := F_laws_FnOrdersAbove) rfl rfl]
  by_cases hl : 1048576 < (x.length : Int)
  · simp (config := { maxSteps := 2000000 }) [F_laws_FnOrdersAbove, hl]
  · obtain ⟨us, t, os, u1, t1, o1, d⟩ := c_DrawAverageIn hb (by omega)
    have V1 := c_impl_AverageIn us t os (by omega) (by omega) (by omega)
    have V2 := c_spec_AverageIn us t os (by omega) (by omega) (by omega)
    have lb0 : us.length ≤ bound := by unfold bound; omega
    have lb1 : t.length ≤ bound := by unfold bound; omega
    have lb2 : os.length ≤ bound := by unfold bound; omega
    cases h : avOk us t os with
    | false =>
      have e : avOf us t os = -1 := by unfold avOf; rw [h]; rfl
      rw [e] at V1 V2
      simp (config := { maxSteps := 2000000 }) [F_laws_FnOrdersAbove, hl, d, V1, V2, lb0, lb1, lb2, c_alive]
    | true =>
      have e : avOf us t os = avO us t os := by unfold avOf; rw [h]; rfl
      rw [e] at V1 V2
      unfold avOk at h
      simp only [Bool.and_eq_true] at h
      obtain ⟨⟨hu, ht⟩, ho⟩ := h
      have hu' := tsOk_iff.1 hu
      have hr := orOk_rev ho
      have V3 := c_impl_AverageIn us t os.reverse (by omega) (by omega) (by simp; omega)
      have e3' : avOf us t os.reverse = avO us t os.reverse := by unfold avOf avOk; rw [hu, ht, hr]; rfl
      rw [e3'] at V3
      have B1 := bA_ord (t := t) hu ho
      have B2 := bA_ord (t := t) hu hr
      have o := bX_ok (t := t) hu'.2
      have n0 := tA_nn (t := t) hu'.2 (bX us t) (non us.length)
      rw [o.2] at n0
      have D := c_impl_BestAverage us t (by omega) (by omega)
      have e0 : baOf us t = bA us t := by unfold baOf; rw [hu, ht]; rfl
      rw [e0] at D
      have L := back_loopB us t os (avO us t os) o1
      have lR : (os.reverse.map DV.i).length = os.length := by simp
      have tR : List.take os.length (os.reverse.map DV.i) = os.reverse.map .i := List.take_of_length_le (by simp)
      generalize avO us t os = a at *
      generalize avO us t os.reverse = b at *
      generalize bA us t = c at *
      unfold stOab at L
      simp only [Int.natCast_zero] at L
      have a0 : ¬ a < 0 := by omega
      have lr := lend_i os.reverse
      generalize os.reverse.map DV.i = R at *
      simp (config := { maxSteps := 2000000 }) [F_laws_FnOrdersAbove, hl, d, V1, V3, D, L, lb0, lb1, lb2, a0, n0, B1, B2, lR, tR, lr, c_alive]
end
end Zz
