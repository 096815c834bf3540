/- What the functions answer, as equations: EB. No conditions. -/
import Derived.Test.YthgklolghalofaaDoorEAo
set_option linter.unusedSectionVars false
set_option linter.unusedVariables false
set_option linter.unusedSimpArgs false
namespace Zz
open Go.Lg Md
set_option linter.unusedSimpArgs false
set_option linter.unusedVariables false
attribute [local simp] ia_mv ia_newnil ia_pick ia_bin ia_eqb ia_eqs ia_un ia_len ia_lens ia_chk ia_fld ia_fldv ia_idxa ia_idx ia_load ia_store ia_slice ia_slices ia_make ia_alloc ia_box ia_build ia_bslice ia_app ia_b2i ia_i2b ia_i2i ia_same ia_b2s ia_s2b ia_ext ia_mm ia_idxp ia_calld ia_mkfn ia_i2r ia_r2s ia_call pt_nil pt_cons mi_nil mi_cons md_bslice md_mv md_newnil md_pick md_bin md_eqb md_un md_len md_lens md_fld md_fldv md_idxa md_idx md_load md_store md_slice md_slices md_make md_alloc md_box md_build md_app md_conv md_ext md_call md_calld md_callg md_mkfn md_mm md_idxp md_eqn md_eqs md_chk tg_bslice tg_mv tg_newnil tg_pick tg_bin tg_eqb tg_un tg_len tg_lens tg_fld tg_fldv tg_idxa tg_idx tg_load tg_store tg_slice tg_slices tg_make tg_alloc tg_box tg_build tg_app tg_conv tg_ext tg_call tg_calld tg_callg tg_mkfn tg_mm tg_idxp tg_eqn tg_eqs tg_chk rp_eq ro_eq ifP_t ifP_f np_def ng1_nil ng2_nil ng_gate ng_gen tgA_t tgA_0 tgA_1 tgA_2 aC_nil aC_c aC_t nxP_some nxP_none rq_nil rq_gen rq_gate nxR_some nxR_none ru_nil ru_gen ru_gate pl_none pl_some gt_nil gt_t gt_c di_some di_none an_nil an_cons nxG_some nxG_none rg_nil rg_gen rg_gate oldO_some oa_nil oa_i oa_y oa_b oa_s oa_st oa_sl oa_own oa_oad oa_nl al_nil al_cons al_i al_y al_b al_s al_st al_sl nxF_some nxF_none rf_nil rf_gen rf_gate hk_newnil hk_make hk_alloc hk_box hk_build hk_bslice hk_call hk_store hk_app cl_nil cl_cons ai_nil ai_cons il_i il_y il_b il_s il_st il_sl il_own il_adr il_oad il_ref il_fr il_tup il_nil il_np il_und il_dead ol_adr ol_b ol_dead ol_e ol_fn ol_fr ol_i ol_nil ol_np ol_oad ol_own ol_q ol_r ol_ref ol_s ol_sl ol_st ol_tup ol_und ol_w ol_y oj_e oj_i oj_y oj_b oj_s oj_st oj_sl oj_own oj_adr oj_oad oj_ref oj_fr oj_tup oj_nil oj_np oj_und oj_dead oj_w oj_q oj_r oj_fn oi_e oi_i oi_y oi_b oi_s oi_st oi_sl oi_own oi_adr oi_oad oi_ref oi_fr oi_tup oi_nil oi_np oi_und oi_dead as_nil as_cons ao_nil ao_cons av_i av_y av_b av_s av_st av_sl av_own av_adr av_oad av_ref av_fr av_tup av_nil av_np av_und av_dead pro_cons ghK_some ks_promote ks_freeze frz_own ks_rename ren_own dropO adoptP newP wholeP cutP allOldL ex_skip ex_ret ex_exit ks_region ks_seq ks_cond ks_block seqK_n seqK_e seqK_r regK_some condK_t condK_f blkK_n blkK_r blkK_e endK_n endK_r rr_false rr_true rd_free mo_nil mo_cons drK_some drK_none nxW_some nxW_none rw_nil rw_gen rw_gate ak_newnil ak_make ak_alloc ak_box ak_build ak_bslice ak_call ak_store ak_app iw_mm iw_eqn iw_idxp ef_callg cgK_some gv_e gv_own gv_i gv_sl gv_st gv_b gv_nil gvK_some gvO_some iw_callg ia_callg ak_callg hk_callg is_mv is_newnil is_pick is_bin is_eqb is_eqs is_un is_len is_lens is_chk is_fld is_fldv is_idxa is_idx is_load is_slice is_slices is_make is_alloc is_box is_build is_bslice is_app is_conv is_ext is_call is_calld is_callg is_mkfn is_mm is_idxp is_eqn is_store rt_nil rt_gen rt_gate nxT_some nxT_none ef_eqn_nil ef_eqn_sl ef_eqn_own ia_eqn ef_mmx ef_mmn ef_idxp nxD_some nxD_none ov_i ov_y ov_b ov_s ov_st ov_sl ov_own ov_oad ov_adr ov_nil ov_np ov_und ov_dead ov_tup oldN_some oldN_nil oldN_none so_none so_i so_y so_b so_s so_st so_sl so_adr so_nil so_np so_und so_dead anyM_nil anyM_t anyM_c so_own so_oad rd_nil rd_gen rd_mv rd_gate iw_mv iw_newnil iw_pick iw_bin iw_eqb iw_eqs iw_un iw_len iw_lens iw_chk iw_fld iw_fldv iw_idxa iw_idx iw_load iw_store iw_slice iw_slices iw_make iw_alloc iw_box iw_build iw_bslice iw_app iw_b2i iw_i2b iw_i2i iw_same iw_b2s iw_s2b iw_ext iw_call nm_i nm_y nm_b nm_s nm_st nm_sl nm_own nm_oad nm_adr nm_nil nm_np nm_und nm_dead nm_tup rl_nil rl_gate rl_mv rl_gen opv_t opv_c nx_some nx_none gate_tt gate_tf gate_ft gate_ff gate_u fr_ap em_nil em_i em_y em_b em_s em_st em_sl em_own em_adr em_oad em_ref em_nl em_np em_und em_dead em_tup0 em_tup_i em_tup_b em_tup_s em_tup_sl em_tup_st em_tup_np em_tup_own em_tup_oad mm_i mm_y mm_b mm_s mm_st mm_sl mm_own mm_oad mm_adr mm_nil mm_np mm_und mm_dead ef_mv ef_newnil ef_pickt ef_pickf ef_bin ef_eqb ef_eqs ef_un ef_lens ef_len_sl ef_len_own ef_len_nil ef_chk_adr ef_chk_oad ef_fld_adr ef_fld_oad ef_fldv idxR_some ef_idxa_sl ef_idxa_own ef_idx ef_load_adr_st ef_load_adr_i ef_load_adr_y ef_load_adr_b ef_load_adr_s ef_load_adr_sl atN_nil atN_zero atN_succ ef_load_oad ef_store ef_slice ef_slices ef_make ef_alloc ef_box ef_build ef_bslice ef_app_own ef_app_nil ef_b2i ef_i2b ef_i2i ef_same ef_ext ret1 ret2_some calL_some ef_call retC_i retC_y retC_b retC_s retC_st retC_sl retC_np retC_fr retC_ref retC_tup rk_nil rk_i rk_y rk_b rk_s rk_st rk_sl rk_own rk_oad rk_nl ok_nil ok_i ok_y ok_b ok_s ok_st ok_sl ok_own ok_oad ok_nl lo_nil lo_i lo_y lo_b lo_s lo_st lo_sl lo_own lo_oad lo_nl pr_nil pr_i pr_y pr_b pr_s pr_st pr_sl pr_own pr_nl pr_oad nr_i nr_y nr_b nr_s nr_st nr_sl nr_fr nr_np nr_tup ng_i ng_b ng_s ng_fr ng_nil resV effP_eff binD bi_add bi_sub bi_mul bi_quo bi_rem bi_eql bi_neq bi_lss bi_leq bi_gtr bi_geq bi_shl bi_shr bi_and bi_or bi_xor bi_andNot binY binS unD look put putD LS.get LS.drop killE sweep lookO putO dropO enter leave giveBackL giveBack outs lendArgs lendArg newOuts takeIn takeInL lendL DV.lend adoptL DV.adopt elems apartKs part DV.cells unpart settle settleL over mkId szId fillP fillE tk_e2 tk_i tk_y lt_e2 lt_i lt_y lend_rep al_e2 al_is al_ys al_rep al_app lend_app adopt_app new_app lend_e2 lend_i lend_y adopt_e2 adopt_i adopt_y new_e2 new_i allNewL DV.allNew bounds sliceD sliceS em_w em_q em_r em_fn em_tup_w em_tup_q em_tup_r mm_w mm_q mm_r mm_fn ef_load_adr_w ef_load_adr_q ef_load_adr_r retC_w retC_q retC_r rk_w rk_q rk_r rk_fn ok_w ok_q ok_r ok_fn lo_w lo_q lo_r lo_fn pr_w pr_q pr_r pr_fn nr_w nr_q nr_r ng_w ng_q ng_r oa_w oa_q oa_r oa_fn al_w al_q al_r al_fn ov_w ov_q ov_r ov_fn so_w so_q so_r so_fn il_w il_q il_r il_fn oi_w oi_q oi_r oi_fn av_w av_q av_r av_fn nm_w nm_q nm_r nm_fn ef_i2r ef_r2s ef_mkfn ef_idxp_adr ef_calld capsOk DV.cell List.all_cons List.all_nil rk_own_t lo_own_t lk_f lk_t pr_own_t mutB ak_calld hk_calld iw_calld iw_mkfn iw_i2r iw_r2s bw_and bw_or bw_xor bw_andNot bw_eql bw_neq sw_shl sw_shr sq_shl gEnv_nil rk_adr ok_adr lo_adr pr_adr oa_adr capL capArg DV.cap ak_mkfn hk_mkfn ef_callm gf_ap ga_nil ga_cons tgv_own gk_e gk_giv gk_i gk_y gk_b gk_s gk_w gk_q gk_r gk_fn gk_st gk_sl gk_own gk_oad gk_adr gk_nl gk_np rk_giv ok_giv lo_giv pr_giv oa_giv iw_callm hk_callm ak_callm is_callm ia_callm tg_callm md_callm ef_i2q ef_q2i ef_q2q iw_i2q iw_q2i iw_q2q ia_i2q ia_q2i ia_q2q bq_and bq_add bq_shr sq_shr tgv_nil gk_ref rk_ref ok_ref lo_ref pr_ref oa_ref retC_fn nr_fn ef_load_adr_fn ks_close cls_oad
attribute [local congr] ifP_congr nxP_congr nxR_congr nxT_congr nxG_congr nxF_congr ghK_congr gate_congr nx_congr nxD_congr runL_congr runD_congr eff_congr calL_congr ret2_congr seqK_congr regK_congr condK_congr endK_congr drK_congr nxW_congr
attribute [local simp ↓] nxT_some rt_nil rt_gen rt_gate nxP_some rq_nil rq_gen rq_gate nxR_some ru_nil ru_gen ru_gate nxG_some rg_nil rg_gen rg_gate nxF_some rf_nil rf_gen rf_gate ks_promote ks_freeze frz_own ks_rename ghK_some gate_tt gate_tf gate_ft gate_ff gate_u nx_some nxD_some rl_nil rl_mv rl_gen rl_gate rd_nil rd_mv rd_gen rd_gate rd_free rr_false rr_true drK_some drK_none nxW_some rw_nil rw_gen rw_gate ks_region ks_seq ks_cond ks_block seqK_n seqK_e seqK_r regK_some condK_t condK_f blkK_n blkK_r endK_n endK_r calL_some ret2_some opv_t opv_c
section
def agF (ks : List Int) (f : Nat → Bool) : Prop := ∀ k v, ks[k]? = some v → v = -1 ∨ v = bI (f k)
/-- a test turns the value, in some state that agrees -/
def relF (x : Tm) (ks : List Int) (j : Nat) : Prop := ∃ f, agF ks f ∧ evf (setf f j false) x ≠ evf (setf f j true) x
theorem agF_set {ks : List Int} {k : Nat} (h : ks[k]? = some (-1)) {f : Nat → Bool} (hf : agF ks f) (b : Bool) : agF (ks.set k (bI b)) (setf f k b) := by
  intro j v hj
  by_cases e : j = k
  · subst e
    rw [List.getElem?_set_self (ks_ex h)] at hj
    injection hj with hj
    right
    rw [← hj]
    simp [setf]
  · rw [List.getElem?_set_ne (Ne.symm e)] at hj
    rcases hf j v hj with q | q
    · exact .inl q
    · right
      rw [q]
      simp [setf, e]
theorem agF_un {ks : List Int} {k : Nat} (h : ks[k]? = some (-1)) {f : Nat → Bool} (hf : agF ks f) (b : Bool) : agF ks (setf f k b) := by
  intro j v hj
  by_cases e : j = k
  · subst e
    rw [h] at hj
    injection hj with hj
    exact .inl hj.symm
  · rcases hf j v hj with q | q
    · exact .inl q
    · right
      rw [q]
      simp [setf, e]
theorem agF_at {ks : List Int} {k : Nat} {f : Nat → Bool} (hf : agF ks f) (h : ks[k]? = some (-1)) : agF (ks.set k (bI (f k))) f := by
  intro j v hj
  by_cases e : j = k
  · subst e
    rw [List.getElem?_set_self (ks_ex h)] at hj
    injection hj with hj
    exact .inr hj.symm
  · rw [List.getElem?_set_ne (Ne.symm e)] at hj
    exact hf j v hj
theorem agF_mix {ks : List Int} (x : Tm) {f g : Nat → Bool} (hf : agF ks f) (hg : agF ks g) : agF ks (mixf x f g) := by
  intro j v hj
  unfold mixf
  split
  · exact hf j v hj
  · exact hg j v hj
theorem setf_comm (f : Nat → Bool) {j k : Nat} (h : j ≠ k) (b c : Bool) : setf (setf f k b) j c = setf (setf f j c) k b := by
  funext a
  unfold setf
  by_cases e1 : a = j <;> by_cases e2 : a = k
  · exact absurd (e1.symm.trans e2) h
  · simp [e1, h]
  · simp [e2, Ne.symm h]
  · simp [e1, e2]
/-- of each test some answer leaves all others that turn the value -/
def keepF (x : Tm) : Prop := ∀ (ks : List Int) (k : Nat), ks[k]? = some (-1) → ∃ b, ∀ j, j ≠ k → ks[j]? = some (-1) → relF x ks j → relF x (ks.set k (bI b)) j
theorem keep_no {x : Tm} {ks : List Int} {k : Nat} (h : ks[k]? = some (-1)) (hk : occ k x = false) (b : Bool) {j : Nat} (hj : j ≠ k) (hr : relF x ks j) : relF x (ks.set k (bI b)) j := by
  obtain ⟨f, hf, hne⟩ := hr
  refine ⟨setf f k b, agF_set h hf b, ?_⟩
  rw [setf_comm f hj, setf_comm f hj, set_no hk, set_no hk]
  exact hne
theorem relF_neg (x : Tm) (ks : List Int) (j : Nat) : relF (.neg x) ks j ↔ relF x ks j := by
  unfold relF
  constructor <;> rintro ⟨f, h1, h2⟩ <;> refine ⟨f, h1, ?_⟩
  · intro e; apply h2; simp only [evf, e]
  · intro e; apply h2; simpa [evf] using e
theorem keep_neg {x : Tm} (h : keepF x) : keepF (.neg x) := by
  intro ks k hk
  obtain ⟨b, hb⟩ := h ks k hk
  exact ⟨b, fun j hj hjk hr => (relF_neg x _ j).2 (hb j hj hjk ((relF_neg x _ j).1 hr))⟩
theorem relF_occ {x : Tm} {ks : List Int} {j : Nat} (h : relF x ks j) : occ j x = true := by
  cases ho : occ j x with
  | true => rfl
  | false =>
    obtain ⟨f, _, hne⟩ := h
    rw [set_no ho, set_no ho] at hne
    exact absurd rfl hne
/-- where the one part has the test -/
theorem keep_and_l {x y : Tm} (hx : keepF x) (hd : ∀ a, occ a x = true → occ a y = false) {ks : List Int} {k : Nat} (hk : ks[k]? = some (-1)) (ho : occ k x = true) :
    ∃ b, ∀ j, j ≠ k → ks[j]? = some (-1) → relF (.and x y) ks j → relF (.and x y) (ks.set k (bI b)) j := by
  have hky := hd k ho
  by_cases hR : ∃ j, j ≠ k ∧ ks[j]? = some (-1) ∧ relF x ks j
  · obtain ⟨b, hb⟩ := hx ks k hk
    obtain ⟨j', n', u', r'⟩ := hR
    refine ⟨b, fun j hj hjk hr => ?_⟩
    have hoj := relF_occ hr
    obtain ⟨f, hf, hne⟩ := hr
    cases hjx : occ j x with
    | true =>
      have hjy := hd j hjx
      simp only [evf] at hne
      rw [set_no hjy, set_no hjy] at hne
      have fy : evf f y = true := by
        cases h : evf f y with
        | true => rfl
        | false => rw [h, Bool.and_false, Bool.and_false] at hne; exact absurd rfl hne
      rw [fy, Bool.and_true, Bool.and_true] at hne
      obtain ⟨g, hg, hgn⟩ := hb j hj hjk ⟨f, hf, hne⟩
      refine ⟨mixf x g (setf f k b), agF_mix x hg (agF_set hk hf b), ?_⟩
      have m := fun c => mix_set_l hd g (setf f k b) j c hjx
      simp only [evf]
      rw [(m false).1, (m false).2, (m true).1, (m true).2, set_no hky, fy, Bool.and_true, Bool.and_true]
      exact hgn
    | false =>
      have hjy : occ j y = true := by simpa [occ, hjx] using hoj
      simp only [evf] at hne
      rw [set_no hjx, set_no hjx] at hne
      have fx : evf f x = true := by
        cases h : evf f x with
        | true => rfl
        | false => rw [h, Bool.false_and, Bool.false_and] at hne; exact absurd rfl hne
      rw [fx, Bool.true_and, Bool.true_and] at hne
      obtain ⟨f', hf', hn'⟩ := hb j' n' u' r'
      obtain ⟨c, hc⟩ : ∃ c, evf (setf f' j' c) x = true := by
        cases h0 : evf (setf f' j' false) x with
        | true => exact ⟨false, h0⟩
        | false =>
          cases h1 : evf (setf f' j' true) x with
          | true => exact ⟨true, h1⟩
          | false => rw [h0, h1] at hn'; exact absurd rfl hn'
      have u2 : (ks.set k (bI b))[j']? = some (-1) := by rw [List.getElem?_set_ne (Ne.symm n')]; exact u'
      refine ⟨mixf x (setf f' j' c) (setf f k b), agF_mix x (agF_un u2 hf' c) (agF_set hk hf b), ?_⟩
      have m := fun c2 => mix_set_r hd (setf f' j' c) (setf f k b) j c2 hjy
      simp only [evf]
      rw [(m false).1, (m false).2, (m true).1, (m true).2, hc, Bool.true_and, Bool.true_and, setf_comm f hj, setf_comm f hj, set_no hky, set_no hky]
      exact hne
  · by_cases hE : ∃ f, agF ks f ∧ evf f x = true
    · obtain ⟨f0, a0, e0⟩ := hE
      refine ⟨f0 k, fun j hj hjk hr => ?_⟩
      have hoj := relF_occ hr
      obtain ⟨f, hf, hne⟩ := hr
      cases hjx : occ j x with
      | true =>
        exfalso
        have hjy := hd j hjx
        simp only [evf] at hne
        rw [set_no hjy, set_no hjy] at hne
        refine hR ⟨j, hj, hjk, f, hf, fun e => hne (by rw [e])⟩
      | false =>
        have hjy : occ j y = true := by simpa [occ, hjx] using hoj
        simp only [evf] at hne
        rw [set_no hjx, set_no hjx] at hne
        refine ⟨mixf x f0 (setf f k (f0 k)), agF_mix x (agF_at a0 hk) (agF_set hk hf _), ?_⟩
        have m := fun c2 => mix_set_r hd f0 (setf f k (f0 k)) j c2 hjy
        simp only [evf]
        rw [(m false).1, (m false).2, (m true).1, (m true).2, e0, Bool.true_and, Bool.true_and, setf_comm f hj, setf_comm f hj, set_no hky, set_no hky]
        intro e
        exact hne (by rw [e])
    · refine ⟨false, fun j hj hjk hr => ?_⟩
      exfalso
      have hoj := relF_occ hr
      obtain ⟨f, hf, hne⟩ := hr
      have no : ∀ g, agF ks g → evf g x = false := fun g hg => by
        cases h : evf g x with
        | false => rfl
        | true => exact absurd ⟨g, hg, h⟩ hE
      apply hne
      simp only [evf]
      rw [no _ (agF_un hjk hf false), no _ (agF_un hjk hf true)]
      rfl
theorem relF_swap (x y : Tm) (ks : List Int) (j : Nat) : relF (.and x y) ks j ↔ relF (.and y x) ks j := by
  unfold relF
  simp only [evf]
  constructor <;> rintro ⟨f, h1, h2⟩ <;> refine ⟨f, h1, ?_⟩ <;> (rw [Bool.and_comm, Bool.and_comm (evf (setf f j true) _)]; exact h2)
theorem keep_and {x y : Tm} (hx : keepF x) (hy : keepF y) (hd : ∀ a, occ a x = true → occ a y = false) : keepF (.and x y) := by
  intro ks k hk
  have hd' : ∀ a, occ a y = true → occ a x = false := fun a ha => by
    cases h : occ a x with
    | false => rfl
    | true => rw [hd a h] at ha; cases ha
  cases h1 : occ k x with
  | true => exact keep_and_l hx hd hk h1
  | false =>
    cases h2 : occ k y with
    | true =>
      obtain ⟨b, hb⟩ := keep_and_l hy hd' hk h2
      exact ⟨b, fun j hj hjk hr => (relF_swap x y _ j).2 (hb j hj hjk ((relF_swap x y _ j).1 hr))⟩
    | false => exact ⟨false, fun j hj hjk hr => keep_no hk (by simp [occ, h1, h2]) false hj hr⟩
theorem relF_or (x y : Tm) (ks : List Int) (j : Nat) : relF (.or x y) ks j ↔ relF (.and (.neg x) (.neg y)) ks j := by
  unfold relF
  simp only [evf]
  constructor <;> rintro ⟨f, h1, h2⟩ <;> refine ⟨f, h1, ?_⟩ <;> intro e <;> apply h2
  · have := congrArg (!·) e
    simpa using this
  · rw [← Bool.not_or, ← Bool.not_or, e]
theorem keep_all : ∀ {x : Tm}, ton x → keepF x
  | .tst a, _ => fun ks k hk => by
    refine ⟨false, fun j hj hjk hr => ?_⟩
    by_cases e : k = a
    · subst e
      have := relF_occ hr
      simp [occ] at this
      exact absurd this.symm hj
    · exact keep_no hk (by simp [occ]; exact Ne.symm e) false hj hr
  | .neg x, h => keep_neg (keep_all (x := x) h)
  | .and x y, h => keep_and (keep_all h.1) (keep_all h.2.1) h.2.2
  | .or x y, h => fun ks k hk => by
    obtain ⟨b, hb⟩ := keep_and (keep_neg (keep_all h.1)) (keep_neg (keep_all h.2.1)) (fun a ha => h.2.2 a ha) ks k hk
    exact ⟨b, fun j hj hjk hr => (relF_or x y _ j).2 (hb j hj hjk ((relF_or x y _ j).1 hr))⟩
open Classical in
noncomputable def rc (P : Nat → Prop) : Nat → Nat
  | 0 => 0
  | n + 1 => rc P n + if P n then 1 else 0
theorem rc_one {P Q : Nat → Prop} {k : Nat} : ∀ {n : Nat}, (∀ j, j < n → P j → j ≠ k → Q j) → rc P n ≤ rc Q n + if k < n then 1 else 0
  | 0, _ => by simp [rc]
  | n + 1, h => by
    have ih := rc_one (P := P) (Q := Q) (k := k) (n := n) fun j hj => h j (by omega)
    simp only [rc]
    by_cases e : n = k
    · subst e
      rw [if_neg (Nat.lt_irrefl _)] at ih
      rw [if_pos (Nat.lt_succ_self _)]
      split <;> split <;> omega
    · have e1 : (if k < n + 1 then 1 else 0) = if k < n then 1 else 0 := by
        by_cases hk : k < n
        · rw [if_pos hk, if_pos (by omega)]
        · rw [if_neg hk, if_neg (by omega)]
      rw [e1]
      by_cases hp : P n
      · rw [if_pos hp, if_pos (h n (by omega) hp e)]
        omega
      · rw [if_neg hp]
        split <;> omega
theorem rc_less {P Q : Nat → Prop} {k : Nat} (hP : P k) : ∀ {n : Nat}, k < n → (∀ j, j < n → Q j → P j ∧ j ≠ k) → rc Q n + 1 ≤ rc P n
  | 0, h, _ => by omega
  | n + 1, hk, h => by
    simp only [rc]
    by_cases e : k = n
    · subst e
      have nq : ¬ Q k := fun q => (h k (by omega) q).2 rfl
      rw [if_neg nq, if_pos hP]
      have := rc_one (P := Q) (Q := P) (k := k) (n := k) fun j hj hq _ => (h j (by omega) hq).1
      rw [if_neg (Nat.lt_irrefl _)] at this
      omega
    · have ih := rc_less hP (n := n) (by omega) fun j hj => h j (by omega)
      by_cases hq : Q n
      · rw [if_pos hq, if_pos (h n (by omega) hq).1]
        omega
      · rw [if_neg hq]
        split <;> omega
theorem rc_le {P Q : Nat → Prop} {n : Nat} (h : ∀ j, j < n → P j → Q j) : rc P n ≤ rc Q n := by
  have := rc_one (P := P) (Q := Q) (k := n) (n := n) fun j hj hp _ => h j hj hp
  rw [if_neg (Nat.lt_irrefl _)] at this
  omega
/-- what the formula says of a state -/
structure Fml (m : Nat) (t : List T) (x : Tm) : Prop where
  tb : tb m x
  tv : ∀ s, s < 2 ^ m → tv t s = ev s x
theorem fml_f {m : Nat} {t : List T} {x : Tm} (h : Fml m t x) (f : Nat → Bool) : tabN f m < 2 ^ m ∧ Zz.tv t (tabN f m) = evf f x := by
  have lt : tabN f m < 2 ^ m := tabN_lt f m
  refine ⟨lt, ?_⟩
  rw [h.tv _ lt, ev_evf]
  refine evf_occ fun a ha => ?_
  have := occ_tb h.tb ha
  rw [tabN_bit]
  simp
  omega
theorem agF_B {m : Nat} {ks : List Int} (hl : ks.length = m) {f : Nat → Bool} (h : agF ks f) : agB ks (tabN f m) = true := by
  rw [agB_iff]
  intro k v hv
  have hk : k < m := by rw [← hl]; exact (List.getElem?_eq_some_iff.1 hv).1
  rcases h k v hv with q | q
  · exact .inl q
  · right
    rw [q, tabN_bit]
    simp [hk]
theorem no_rel {m : Nat} {t : List T} {x : Tm} (h : Fml m t x) {ks : List Int} (hl : ks.length = m) (hk : ks.all kOk = true) (hf : fcd m t ks = true) {j : Nat} (hj : ks[j]? = some (-1)) : ¬ relF x ks j := by
  rintro ⟨f, ha, hne⟩
  obtain ⟨b, hb⟩ := (fcd_iff hl hk).1 hf
  have q := fun c => fml_f h (setf f j c)
  have r := fun c => hb _ (q c).1 (agF_B hl (agF_un hj ha c))
  rw [← (q false).2, ← (q true).2, r false, r true] at hne
  exact hne rfl
theorem evade {m : Nat} {t : List T} {x : Tm} (h : Fml m t x) (ht : ton x) : ∀ (T : PT) (ks : List Int), ks.length = m → ks.all kOk = true → okT m t ks T → rc (fun j => ks[j]? = some (-1) ∧ relF x ks j) m ≤ dpT T
  | .stop, ks, hl, hk, hx => by
    have z : ∀ n, rc (fun j => ks[j]? = some (-1) ∧ relF x ks j) n = 0 := fun n => by
      induction n with
      | zero => rfl
      | succ n ih =>
        simp only [rc]
        rw [ih, if_neg (fun ⟨a, b⟩ => no_rel h hl hk hx a b)]
    rw [z]
    exact Nat.zero_le _
  | .ask k n y, ks, hl, hk, ⟨h1, h2, h3, h4⟩ => by
    have hkm : k < m := by rw [← hl]; exact ks_ex h2
    obtain ⟨b, hb⟩ := keep_all ht ks k h2
    have one := rc_one (P := fun j => ks[j]? = some (-1) ∧ relF x ks j) (Q := fun j => (ks.set k (bI b))[j]? = some (-1) ∧ relF x (ks.set k (bI b)) j) (k := k) (n := m) (fun j hj ⟨p1, p2⟩ hne => ⟨by rw [List.getElem?_set_ne (Ne.symm hne)]; exact p1, hb j hne p1 p2⟩)
    rw [if_pos hkm] at one
    simp only [dpT]
    cases b with
    | false =>
      have := evade h ht n (ks.set k (bI false)) (by simpa using hl) (kOk_set hk k false) h3
      omega
    | true =>
      have := evade h ht y (ks.set k (bI true)) (by simpa using hl) (kOk_set hk k true) h4
      omega
/-- no more than the letters need be asked -/
theorem ldP_let {m : Nat} {t : List T} {x : Tm} (h : Fml m t x) : ∀ (f : Nat) (ks : List Int), ks.length = m → ks.all kOk = true → uk ks ≤ f → ldP m t f ks ≤ (rc (fun j => ks[j]? = some (-1) ∧ occ j x = true) m : Nat)
  | 0, _, _, _, _ => Int.natCast_nonneg _
  | f + 1, ks, hl, hk, hu => by
    cases hf : fcd m t ks with
    | true =>
      simp only [ldP]
      rw [if_pos hf]
      exact Int.natCast_nonneg _
    | false =>
      obtain ⟨k, k1, k2⟩ : ∃ k : Nat, ks[k]? = some (-1) ∧ occ k x = true := by
        refine Classical.byContradiction fun hc => ?_
        obtain ⟨s0, q0, q1⟩ := agB_some hk
        rw [hl] at q0
        have : fcd m t ks = true := (fcd_iff hl hk).2 ⟨Zz.tv t s0, fun s hs ha => by
          rw [h.tv _ hs, h.tv _ q0, ev_evf, ev_evf]
          refine evf_occ fun a ho => ?_
          have am := occ_tb h.tb ho
          obtain ⟨v, hv⟩ : ∃ v, ks[a]? = some v := ⟨ks[a], List.getElem?_eq_getElem (by omega)⟩
          have nv : v ≠ -1 := fun e => hc ⟨a, by rw [hv, e], ho⟩
          exact bI_inj.1 (((agB_iff.1 ha a v hv).resolve_left nv).symm.trans ((agB_iff.1 q1 a v hv).resolve_left nv))⟩
        rw [hf] at this; cases this
      have hkm : k < m := by rw [← hl]; exact ks_ex k1
      have q := fun (b : Bool) => uk_set (b := bI b) (by cases b <;> simp [bI]) k1
      have a := fun (b : Bool) => ldP_let h f (ks.set k (bI b)) (by simpa using hl) (kOk_set hk k b) (by have := q b; omega)
      have less := fun (b : Bool) => rc_less (P := fun j => ks[j]? = some (-1) ∧ occ j x = true) (Q := fun j => (ks.set k (bI b))[j]? = some (-1) ∧ occ j x = true) (k := k) ⟨k1, k2⟩ (n := m) hkm (fun j hj ⟨p1, p2⟩ => by
        have e : j ≠ k := fun e => by
          rw [e, List.getElem?_set_self (ks_ex k1)] at p1
          cases b <;> simp [bI] at p1
        exact ⟨⟨by rwa [List.getElem?_set_ne (Ne.symm e)] at p1, p2⟩, e⟩)
      have a0 := a false
      have a1 := a true
      have l0 := less false
      have l1 := less true
      rw [bI_0] at a0 l0
      rw [bI_1] at a1 l1
      have le := (mnB_le (S := fun k => 1 + max (ldP m t f (ks.set k 0)) (ldP m t f (ks.set k 1))) (ks := ks) (z := m) m).2 k hkm k1
      simp only [ldP]
      rw [if_neg (by rw [hf]; decide)]
      omega
theorem lD_let {m : Nat} {t : List T} {x : Tm} (h : Fml m t x) : lD m t ≤ (rc (fun j => occ j x = true) m : Nat) ∧ (ton x → lD m t = (rc (fun j => occ j x = true) m : Nat)) := by
  have u := ldP_let h m (non m) (non_len _) (non_all _) (by rw [uk_non]; exact Nat.le_refl _)
  have e : ∀ j, j < m → (non m)[j]? = some (-1) := fun j hj => by
    unfold non
    rw [List.getElem?_replicate, if_pos hj]
  have u2 := rc_le (P := fun j => (non m)[j]? = some (-1) ∧ occ j x = true) (Q := fun j => occ j x = true) (n := m) fun j _ hp => hp.2
  have up : lD m t ≤ (rc (fun j => occ j x = true) m : Nat) := by unfold lD; omega
  refine ⟨up, fun ht => ?_⟩
  obtain ⟨T, o, ex⟩ := lD_ex m t
  have lo := evade h ht T (non m) (non_len _) (non_all _) o
  have l2 := rc_le (P := fun j => occ j x = true) (Q := fun j => (non m)[j]? = some (-1) ∧ relF x (non m) j) (n := m) fun j hj hp => ⟨e j hj, by
    obtain ⟨f, hf⟩ := ton_turn ht hp
    refine ⟨f, fun k v hv => .inl ?_, hf⟩
    exact List.eq_of_mem_replicate (List.mem_of_getElem? hv)⟩
  omega
end
section
abbrev C3 := Int × Int × Int
/-- a tree with the places of its choices -/
inductive LT where
  | stop
  | ask (p k : Nat) (no yes : LT)
def LT.size : LT → Nat
  | .stop => 0
  | .ask _ _ n y => 1 + n.size + y.size
/-- where one may go on to from a place -/
def nxt (N : Nat) (p : Nat) (a : Int) : Prop := a = -1 ∨ ((p : Int) + 1 ≤ a ∧ a ≤ (N : Int) - 1)
instance (N p : Nat) (a : Int) : Decidable (nxt N p a) := by unfold nxt; infer_instance
/-- the row holds the tree, from a place on -/
def enc (P : List C3) : Int → LT → Prop
  | a, .stop => a = -1
  | a, .ask p k n y => a = (p : Int) ∧ ∃ no ye, P[p]? = some ((k : Int), no, ye) ∧ nxt P.length p no ∧ nxt P.length p ye ∧ enc P no n ∧ enc P ye y
/-- where a row goes on to -/
def rfs : List C3 → List Int
  | [] => []
  | (_, no, ye) :: r => (if no = -1 then [] else [no]) ++ (if ye = -1 then [] else [ye]) ++ rfs r
end
section
def PT.size : PT → Nat
  | .stop => 0
  | .ask _ n y => 1 + n.size + y.size
def rot (P : List C3) : Int := if P = [] then -1 else 0
end
section
attribute [-simp] DV.cells
attribute [local simp] sliceD cells_st cells_sl cells_i cells_y cells_b cells_s cells_w
theorem lend_e3 (P : List C3) : lendL (P.map e3) = P.map e3 := by rw [lendL_map, List.map_map]; rfl
theorem adopt_e3 (o : Bool) (P : List C3) : adoptL o (P.map e3) = P.map e3 := by rw [adoptL_map, List.map_map]; rfl
theorem new_e3 (P : List C3) : allNewL (P.map e3) = true := by rw [allNewL_all, List.all_map, List.all_eq_true]; intro x _; rfl
theorem al_e3 (P : List C3) : allOldL (P.map e3) = true := by rw [allOldL_all, List.all_map, List.all_eq_true]; intro x _; rfl
theorem lt_e3 (n : Nat) (P : List C3) : lendL (List.take n (P.map e3)) = List.take n (P.map e3) := by rw [← List.map_take, lend_e3]
attribute [local simp] lend_e3 adopt_e3 new_e3 al_e3 lt_e3
def C3.nx (c : C3) (b : Bool) : Int := if b then c.2.2 else c.2.1
end
section
attribute [-simp] DV.cells
attribute [local simp] sliceD cells_st cells_sl cells_i cells_y cells_b cells_s cells_w
attribute [local simp] lend_e3 adopt_e3 new_e3 al_e3 lt_e3
theorem c_DrawLeastDepth {bs : List Nat} (hb : ∀ y ∈ bs, y < 256) (hl : bs.length ≤ 1048576) :
    ∃ (a : Int) (t : List T), 1 ≤ a ∧ a ≤ 10 ∧ t.length ≤ 12 ∧ call lf n_spec_DrawLeastDepth [.sl 0 (bs.map .y)] = some (.tup [.i a, .fr 2 (t.map e2)], []) := by
  obtain ⟨c1, c2⟩ := take_b hb
  have o := c_open hl
  generalize bs.take 2000 = cs at *
  obtain ⟨a, t, p', a1, a2, t1, _, _, h⟩ := c_l20Asked c1 c2 (by omega : (0 : Int) ≤ 0) (by omega) (by omega : (1 : Int) ≤ 9) (by omega)
  refine ⟨a, t, a1, a2, t1, ?_⟩
  rw [call_k lf n_spec_DrawLeastDepth _ (F := F_spec_DrawLeastDepth) rfl rfl]
  simp [F_spec_DrawLeastDepth, o, h]
end
section
attribute [-simp] DV.cells sliceD
attribute [local simp] cells_st cells_sl cells_i cells_y cells_b cells_s cells_w
attribute [local simp] lend_e3 adopt_e3 new_e3 al_e3 lt_e3
def stLd (m tab : Nat) (ks : List Int) (best : Int) (k : Nat) : LS := ⟨[(0, .i m), (1, .i tab), (2, .sl 0 (ks.map .i)), (7, .i best), (8, .i k)], []⟩
set_option maxHeartbeats 4000000 in
theorem c_spec_l6Depth {m : Nat} (h1 : 1 ≤ m) (h5 : m ≤ 5) (t : List T) : ∀ (f : Nat) (ks : List Int), ks.length = m → ks.all kOk = true → uk ks ≤ f →
    call lf n_spec_l6Depth [.i m, .i (tabT m t), .sl 0 (ks.map .i)] = some (.i (ldP m t f ks), [])
  | f, ks, hl, hk, hf => by
    have F := c_spec_l3Forced (m := (m : Int)) (by omega) (by omega) ks (by omega) (tabT m t) (by
      obtain ⟨s, q1, q2⟩ := agB_some hk
      exact ⟨s, by rw [Int.toNat_natCast, ← hl]; exact q1, q2⟩)
    rw [foT_tab (by omega) (by omega)] at F
    have fe : (foT m t ks != -1) = fcd m t ks := rfl
    rw [call_k lf n_spec_l6Depth _ (F := F_spec_l6Depth) rfl rfl]
    cases hc : fcd m t ks with
    | true =>
      rw [hc] at fe
      have e : ldP m t f ks = 0 := by
        cases f with
        | zero => rfl
        | succ f => simp only [ldP]; rw [if_pos hc]
      rw [e]
      simp [F_spec_l6Depth, F, fe]
    | false =>
      rw [hc] at fe
      cases f with
      | zero =>
        rw [fcd_all hl hk (by omega)] at hc
        cases hc
      | succ f =>
        have e : ldP m t (f + 1) ks = mnB (fun k => 1 + max (ldP m t f (ks.set k 0)) (ldP m t f (ks.set k 1))) ks m m := by
          simp only [ldP]
          rw [if_neg (by rw [hc]; simp)]
        have us' := fun (k : Nat) (h : ks[k]? = some (-1)) (b : Bool) => uk_set (b := bI b) (by cases b <;> simp [bI]) h
        have IH := fun (k : Nat) (h : ks[k]? = some (-1)) (b : Bool) => c_spec_l6Depth h1 h5 t f (ks.set k (bI b)) (by simpa using hl) (kOk_set hk k b) (by have := us' k h b; omega)
        have BD := fun (k : Nat) (b : Bool) => ldP_nn (m := m) (t := t) f (ks.set k (bI b))
        have LP := loop_count (lf := lf) (L := F_spec_l6Depth_L0) m (fun i => stLd m (tabT m t) ks (mnB (fun k => 1 + max (ldP m t f (ks.set k 0)) (ldP m t f (ks.set k 1))) ks m i) i) (x := .exit 0) (R := stLd m (tabT m t) ks (ldP m t (f + 1) ks) m) (fun i hi => by
          have hi' : (i : Int) < m := by omega
          have kk : i < ks.length := by omega
          have kk' : (i : Int) < ks.length := by omega
          have lb : ks.length ≤ bound := by unfold bound; omega
          have w1 : wr ((i : Int) + 1) = ((i + 1 : Nat) : Int) := by rw [wr_id (by omega) (by omega)]; omega
          have ka : atI (ks.map DV.i) (i : Int) = some (.i ks[i]) := by
            simp only [atI, if_pos (Int.natCast_nonneg i)]
            show (ks.map DV.i)[(i : Int).toNat]? = _
            simp [kk]
          simp only [mnB]
          by_cases hn : ks[i]? = some (-1)
          · have hn' : ks[i] = -1 := by rw [List.getElem?_eq_getElem kk] at hn; injection hn
            rw [hn'] at ka
            rw [if_pos hn]
            have I0 := IH i hn false
            have I1 := IH i hn true
            have B0 := BD i false
            have B1 := BD i true
            rw [bI_0] at I0 B0
            rw [bI_1] at I1 B1
            rw [List.map_set] at I0 I1
            have t0 : List.take ks.length ((ks.map DV.i).set i (.i 0)) = (ks.map .i).set i (.i 0) := List.take_of_length_le (by simp)
            have t1 : List.take ks.length ((ks.map DV.i).set i (.i 1)) = (ks.map .i).set i (.i 1) := List.take_of_length_le (by simp)
            obtain ⟨u, atk⟩ : ∃ u : Int, atN (ks.map DV.i) i = some (.i u) := ⟨ks[i], by show (ks.map DV.i)[i]? = _; simp [kk]⟩
            generalize mnB (fun k => 1 + max (ldP m t f (ks.set k 0)) (ldP m t f (ks.set k 1))) ks m i = q at *
            generalize ldP m t f (ks.set i 0) = r0 at *
            generalize ldP m t f (ks.set i 1) = r1 at *
            have w2 : wr (1 + max r0 r1) = 1 + max r0 r1 := wr_id (by omega) (by omega)
            unfold stLd
            simp [F_spec_l6Depth_L0, hi', kk, kk', lb, ka, atk, t0, t1, lend_set, I0, I1, w1, w2, -Int.natCast_add]
          · rw [if_neg hn]
            have hn' : (ks[i] != -1) = true := bne_iff_ne.2 fun e => hn (by rw [List.getElem?_eq_getElem kk, e])
            generalize mnB (fun k => 1 + max (ldP m t f (ks.set k 0)) (ldP m t f (ks.set k 1))) ks m i = q at *
            unfold stLd
            simp [F_spec_l6Depth_L0, hi', kk', ka, hn', w1, -Int.natCast_add]) (by
          rw [← e]
          unfold stLd
          simp [F_spec_l6Depth_L0]) (by intro h; cases h)
        simp only [mnB, Int.natCast_zero] at LP
        clear IH BD
        generalize ldP m t (f + 1) ks = r at *
        unfold stLd at LP
        change ex lf F_spec_l6Depth_W0 _ = _ at LP
        simp only [Int.natCast_zero] at LP
        simp [F_spec_l6Depth, F, fe, LP]
def ldOf (m : Int) (t : List T) : Int := if tmOk m t then lD m.toNat t else -1
theorem c_spec_LeastDepth (m : Int) (t : List T) (hb : (t.length : Int) < 1099511627776) : call lf n_spec_LeastDepth [.i m, .sl 0 (t.map e2)] = some (.i (ldOf m t), []) := by
  have C1 := c_spec_TermOk m t hb
  rw [call_k lf n_spec_LeastDepth _ (F := F_spec_LeastDepth) rfl rfl]
  unfold ldOf
  cases h1 : tmOk m t with
  | false => rw [h1] at C1; simp [F_spec_LeastDepth, C1]
  | true =>
    rw [h1] at C1
    obtain ⟨⟨m1, m5⟩, _, _⟩ := tmOk_iff.1 h1
    have C3 := c_spec_l3Table h1
    have C4 := c_spec_l4None (m := m) (by omega) (by omega)
    have mm : ((m.toNat : Nat) : Int) = m := by omega
    have C6 := c_spec_l6Depth (m := m.toNat) (by omega) (by omega) t m.toNat (non m.toNat) (non_len _) (non_all _) (by rw [uk_non]; exact Nat.le_refl _)
    rw [mm] at C6
    have nl := non_len m.toNat
    have e : ldP m.toNat t m.toNat (non m.toNat) = lD m.toNat t := rfl
    rw [e] at C6
    have tk : List.take m.toNat ((non m.toNat).map DV.i) = (non m.toNat).map .i := List.take_of_length_le (by simp [nl])
    simp [F_spec_LeastDepth, C1, C3, C4, C6, nl, tk]
end
section
def aN : List Int → Nat
  | [] => 0
  | k :: r => (if k = -1 then 0 else 1) + 2 * aN r
def kn : List Int → Nat
  | [] => 0
  | k :: r => (if k = -1 then 0 else 1) + kn r
theorem aN_lt : ∀ ks : List Int, aN ks < 2 ^ ks.length
  | [] => by decide
  | k :: r => by
    have ih := aN_lt r
    simp only [aN, List.length_cons, Nat.pow_succ]
    split <;> omega
theorem aN_non : ∀ m : Nat, aN (non m) = 0
  | 0 => rfl
  | m + 1 => by
    show (if (-1 : Int) = -1 then 0 else 1) + 2 * aN (non m) = 0
    rw [aN_non m]
    rfl
theorem aN_b0 (k : Int) (r : List Int) : (aN (k :: r)).testBit 0 = !decide (k = -1) := by
  simp only [aN, Nat.testBit_zero]
  by_cases h : k = -1
  · simp [h]
  · simp [h]
theorem aN_div (k : Int) (r : List Int) : aN (k :: r) / 2 = aN r := by
  simp only [aN]
  split <;> omega
theorem aN_bs (k : Int) (r : List Int) (i : Nat) : (aN (k :: r)).testBit (i + 1) = (aN r).testBit i := by
  rw [Nat.testBit_succ, aN_div]
theorem aN_bit : ∀ {ks : List Int} {i : Nat}, i < ks.length → ((aN ks).testBit i = !decide (ks[i]? = some (-1)))
  | [], i, h => by simp at h
  | k :: r, 0, _ => by rw [aN_b0]; simp
  | k :: r, i + 1, h => by
    rw [aN_bs, aN_bit (ks := r) (by simpa using h)]
    simp
theorem aN_set {ks : List Int} {k : Nat} {b : Int} (hb : b ≠ -1) (h : ks[k]? = some (-1)) : aN (ks.set k b) = aN ks ||| 2 ^ k := by
  apply Nat.eq_of_testBit_eq
  intro i
  have hk := ks_ex h
  rw [Nat.testBit_or, Nat.testBit_two_pow]
  by_cases hi : i < ks.length
  · rw [aN_bit (by simpa using hi), aN_bit hi]
    by_cases e : k = i
    · subst e
      rw [List.getElem?_set_self hk]
      simp [hb]
    · rw [List.getElem?_set_ne e]
      simp [e]
  · have l1 := aN_lt (ks.set k b)
    have l2 := aN_lt ks
    rw [List.length_set] at l1
    have p : 2 ^ ks.length ≤ 2 ^ i := Nat.pow_le_pow_right (by omega) (by omega)
    rw [Nat.testBit_lt_two_pow (by omega), Nat.testBit_lt_two_pow (by omega)]
    simp; omega
/-- what agrees, as a number -/
def lfW (ks : List Int) : BitVec 32 := agW ks 0 (4294967295#32)
theorem lfW_bit {ks : List Int} (hk : ks.all kOk = true) (hl : ks.length ≤ 5) {s : Nat} (hs : s < 32) : (lfW ks).getLsbD s = agB ks s := by
  unfold lfW
  rw [agW_bit hk (by omega) hs, ones_bit hs]
  simp
theorem lfW_non (m : Nat) (hm : m ≤ 5) : lfW (non m) = 4294967295#32 := by
  apply BitVec.eq_of_getLsbD_eq
  intro s hs
  rw [lfW_bit (non_all m) (by rw [non_len]; exact hm) hs, agB_non, ones_bit hs]
def syW (k : Nat) (b : Bool) : BitVec 32 := if b then yesW k else ~~~ yesW k
theorem lfW_set {ks : List Int} {k : Nat} (b : Bool) (hk : ks.all kOk = true) (hl : ks.length ≤ 5) (h : ks[k]? = some (-1)) : lfW (ks.set k (bI b)) = lfW ks &&& syW k b := by
  have hk5 := ks_ex h
  apply BitVec.eq_of_getLsbD_eq
  intro s hs
  have y := yes_bit ⟨k, by omega⟩ ⟨s, hs⟩
  simp only at y
  rw [lfW_bit (kOk_set hk k b) (by simpa using hl) hs, agB_put h, BitVec.getLsbD_and, lfW_bit hk hl hs]
  unfold syW
  cases b with
  | true => rw [if_pos rfl, y]; cases agB ks s <;> cases s.testBit k <;> rfl
  | false =>
    rw [if_neg (by simp), BitVec.getLsbD_not, y]
    cases agB ks s <;> cases s.testBit k <;> simp [hs]
theorem vaW_fcd {m : Nat} {t : List T} {ks : List Int} (h1 : tmOk m t = true) (hl : ks.length = m) (hk : ks.all kOk = true) : vaW (tsW t) (lfW ks) = foT m t ks := by
  obtain ⟨h3, _, _⟩ := tmOk_iff.1 h1
  exact vaW_foT h1 (ksOk_iff.2 ⟨h3, by omega, hk⟩)
end
section
abbrev Pts := List (Option (List Int))
/-- one goes on to where it is noted -/
def go3 (m : Nat) (t : List T) (N : Nat) (pts : Pts) (p : Int) (a : Int) (ks : List Int) : Prop :=
  (a = -1 ∧ fcd m t ks = true) ∨ (p + 1 ≤ a ∧ a ≤ (N : Int) - 1 ∧ pts[a.toNat]? = some (some ks))
structure Inv (m : Nat) (t : List T) (P : List C3) (p : Nat) (pts : Pts) : Prop where
  len : pts.length = P.length
  nd : (rfs (P.take p)).Nodup
  rng : ∀ a ∈ rfs (P.take p), 1 ≤ a ∧ a < P.length
  iff_ : ∀ a : Nat, a < P.length → (pts[a]? ≠ some none ↔ (a = 0 ∨ (a : Int) ∈ rfs (P.take p)))
  ok : ∀ (a : Nat) (ks : List Int), pts[a]? = some (some ks) → ks.length = m ∧ ks.all kOk = true ∧ fcd m t ks = false
  loc : ∀ q : Nat, q < p → ∃ (ks : List Int) (k no ye : Int), P[q]? = some (k, no, ye) ∧ pts[q]? = some (some ks) ∧ (0 ≤ k ∧ k < m) ∧ ks[k.toNat]? = some (-1) ∧ go3 m t P.length pts q no (ks.set k.toNat 0) ∧ go3 m t P.length pts q ye (ks.set k.toNat 1)
end
section
attribute [-simp] DV.cells
attribute [local simp] sliceD cells_st cells_sl cells_i cells_y cells_b cells_s cells_w
attribute [local simp] lend_e3 adopt_e3 new_e3 al_e3 lt_e3
def pv (m a : Int) (w v : BitVec 32) : DV := .st [.i m, .i a, .w w, .w v]
/-- the point at which so much is known -/
def pD (m : Nat) (t : List T) (ks : List Int) : DV := pv m (aN ks) (lfW ks) (tsW t)
theorem c_isForced {m : Nat} {t : List T} {ks : List Int} (h1 : tmOk m t = true) (hl : ks.length = m) (hk : ks.all kOk = true) : call lf n_impl_point_isForced [pD m t ks] = some (.b (fcd m t ks), []) := by
  have C := c_impl_valueAmong (tsW t) (lfW ks)
  rw [vaW_fcd h1 hl hk] at C
  unfold pD pv
  rw [call_k lf n_impl_point_isForced _ (F := F_impl_point_isForced) rfl rfl]
  unfold fcd
  simp [F_impl_point_isForced, C]
/-- may it be asked? -/
def caK (m : Nat) (ks : List Int) (a : Int) : Bool := decide (0 ≤ a ∧ a < m) && decide (ks[a.toNat]? = some (-1))
theorem c_canAsk {m : Nat} {t : List T} {ks : List Int} (hm : m ≤ 5) (hl : ks.length = m) (a : Int) : call lf n_impl_point_canAsk [pD m t ks, .i a] = some (.b (caK m ks a), []) := by
  have W := c_impl_isWithin a 0 ((m : Int) - 1)
  have w1 : wr ((m : Int) - 1) = (m : Int) - 1 := wr_id (by omega) (by omega)
  unfold pD pv
  rw [call_k lf n_impl_point_canAsk _ (F := F_impl_point_canAsk) rfl rfl]
  unfold caK
  by_cases h : 0 ≤ a ∧ a < m
  · obtain ⟨k, rfl⟩ := Int.eq_ofNat_of_zero_le h.1
    have e : decide (0 ≤ (k : Int) ∧ (k : Int) ≤ (m : Int) - 1) = true := decide_eq_true ⟨h.1, by omega⟩
    have H := c_impl_hasTest (aN ks) k (by omega)
    have hb := aN_bit (ks := ks) (i := k) (by omega)
    rw [hb] at H
    rw [e] at W
    rw [decide_eq_true h, Int.toNat_natCast]
    generalize aN ks = x at *
    generalize lfW ks = y at *
    simp [F_impl_point_canAsk, w1, W, H]
  · have e : decide (0 ≤ a ∧ a ≤ (m : Int) - 1) = false := decide_eq_false (by omega)
    rw [e] at W
    rw [decide_eq_false h]
    simp [F_impl_point_canAsk, w1, W]
theorem c_answered {m : Nat} {t : List T} {ks : List Int} {k : Nat} (b : Bool) (hl : ks.length ≤ 5) (hk : ks.all kOk = true) (h : ks[k]? = some (-1)) : call lf n_impl_point_answered [pD m t ks, .i k, .i (bI b)] = some (pD m t (ks.set k (bI b)), []) := by
  have hlt := ks_ex h
  have C := c_impl_statesSaying (k := k) (by omega) (bI b)
  have e1 : syI k (bI b) = syW k b := by cases b <;> rfl
  rw [e1] at C
  have sh := shl1 (k := (k : Int)) (by omega) (by omega)
  have nk : ¬ (k : Int) < 0 := by omega
  have l := aN_lt ks
  have p : 2 ^ ks.length ≤ 2 ^ 5 := Nat.pow_le_pow_right (by omega) hl
  have p2 : 2 ^ k ≤ 2 ^ 5 := Nat.pow_le_pow_right (by omega) (by omega)
  have o := orI_nat (a := aN ks) (b := 2 ^ k) (by omega) (by omega)
  rw [← aN_set (b := bI b) (by cases b <;> simp [bI]) h] at o
  have e2 := lfW_set b hk hl h
  unfold pD pv
  rw [call_k lf n_impl_point_answered _ (F := F_impl_point_answered) rfl rfl]
  rw [e2]
  have o' : orI (aN ks) (2 ^ k) = aN (ks.set k (bI b)) := by
    have : ((2 ^ k : Nat) : Int) = 2 ^ k := by simp
    rw [← this]; exact o
  rw [Int.toNat_natCast] at sh
  generalize aN (ks.set k (bI b)) = x at *
  generalize aN ks = y at *
  generalize lfW ks = z at *
  generalize (2 : Int) ^ k = w at *
  simp [F_impl_point_answered, C, sh, nk, o']
theorem c_startOf {m : Nat} {t : List T} (hm : m ≤ 5) (h : tmOk m t = true) : call lf n_impl_startOf [.i m, .sl 0 (t.map e2)] = some (pD m t (non m), []) := by
  have C := c_impl_trueStates h
  unfold pD pv
  rw [aN_non, lfW_non m hm]
  rw [call_k lf n_impl_startOf _ (F := F_impl_startOf) rfl rfl]
  simp [F_impl_startOf, C]
end
section
attribute [-simp] DV.cells
attribute [local simp] sliceD cells_st cells_sl cells_i cells_y cells_b cells_s cells_w
attribute [local simp] lend_e3 adopt_e3 new_e3 al_e3 lt_e3
def e4 (m : Nat) (t : List T) : Option (List Int) → DV
  | some ks => pD m t ks
  | none => pv 0 0 (0#32) (0#32)
end
section
attribute [-simp] DV.cells
attribute [local simp] sliceD cells_st cells_sl cells_i cells_y cells_b cells_s cells_w
attribute [local simp] lend_e3 adopt_e3 new_e3 al_e3 lt_e3
structure Fin (m : Nat) (t : List T) (P : List C3) (L : LT) (pts : Pts) : Prop where
  inv : Inv m t P P.length pts
  start : go3 m t P.length pts (-1) (rot P) (non m)
end
section
def lsB (S : Nat → Int) (ks : List Int) : Nat → Int × Int
  | 0 => (-1, 0)
  | i + 1 => if ks[i]? = some (-1) then (if (lsB S ks i).1 = -1 ∨ S i < (lsB S ks i).2 then ((i : Int), S i) else lsB S ks i) else lsB S ks i
def lsF (m : Nat) (t : List T) (pr : List Int → Nat → Int → Int → Int) : Nat → List Int → Int × Int
  | 0, _ => (-1, 0)
  | f + 1, ks => if fcd m t ks = true then (-1, 0) else lsB (fun k => pr ks k (lsF m t pr f (ks.set k 0)).2 (lsF m t pr f (ks.set k 1)).2) ks m
theorem lsB_mn {S : Nat → Int} {ks : List Int} {z : Int} (h : ∀ k, ks[k]? = some (-1) → S k ≤ z) : ∀ i : Nat,
    (lsB S ks i = (-1, 0) ∧ mnB S ks z i = z ∧ ∀ k, k < i → ks[k]? ≠ some (-1)) ∨ ((lsB S ks i).1 ≠ -1 ∧ mnB S ks z i = (lsB S ks i).2)
  | 0 => .inl ⟨rfl, rfl, fun k h => by omega⟩
  | i + 1 => by
    simp only [lsB, mnB]
    by_cases hi : ks[i]? = some (-1)
    · rw [if_pos hi, if_pos hi]
      right
      have hz := h i hi
      rcases lsB_mn h i with ⟨e1, e2, _⟩ | ⟨e1, e2⟩
      · rw [e1, e2, if_pos (.inl rfl)]
        refine ⟨by show (i : Int) ≠ -1; omega, ?_⟩
        show min z (S i) = S i
        omega
      · rw [e2]
        by_cases hx : S i < (lsB S ks i).2
        · rw [if_pos (.inr hx)]
          refine ⟨by show (i : Int) ≠ -1; omega, ?_⟩
          show min (lsB S ks i).2 (S i) = S i
          omega
        · rw [if_neg (by rintro (h | h); exact e1 h; exact hx h)]
          exact ⟨e1, by omega⟩
    · rw [if_neg hi, if_neg hi]
      rcases lsB_mn h i with ⟨e1, e2, e3⟩ | e
      · refine .inl ⟨e1, e2, fun k hk => ?_⟩
        by_cases q : k = i
        · subst q; exact hi
        · exact e3 k (by omega)
      · exact .inr e
def dpP (ks : List Int) (k : Nat) (no yes : Int) : Int := 1 + max no yes
theorem lsF_ldP {m : Nat} {t : List T} : ∀ (f : Nat) (ks : List Int), ks.length = m → ks.all kOk = true → uk ks ≤ f → (lsF m t dpP f ks).2 = ldP m t f ks
  | 0, ks, hl, hk, hu => rfl
  | f + 1, ks, hl, hk, hu => by
    simp only [lsF, ldP]
    cases hc : fcd m t ks with
    | true => rw [if_pos rfl, if_pos rfl]
    | false =>
      rw [if_neg (by simp), if_neg (by simp)]
      have u := fun (k : Nat) (hkk : ks[k]? = some (-1)) (b : Bool) => uk_set (b := bI b) (by cases b <;> simp [bI]) hkk
      have ul := uk_le ks
      have mn : mnB (fun k => 1 + max (ldP m t f (ks.set k 0)) (ldP m t f (ks.set k 1))) ks m m = mnB (fun k => dpP ks k (lsF m t dpP f (ks.set k 0)).2 (lsF m t dpP f (ks.set k 1)).2) ks m m := by
        have gen : ∀ i, mnB (fun k => 1 + max (ldP m t f (ks.set k 0)) (ldP m t f (ks.set k 1))) ks m i = mnB (fun k => dpP ks k (lsF m t dpP f (ks.set k 0)).2 (lsF m t dpP f (ks.set k 1)).2) ks m i := by
          intro i
          induction i with
          | zero => rfl
          | succ i ih =>
            simp only [mnB]
            by_cases hi : ks[i]? = some (-1)
            · rw [if_pos hi, if_pos hi, ih]
              have u0 := u i hi false
              have u1 := u i hi true
              rw [bI_0] at u0
              rw [bI_1] at u1
              rw [lsF_ldP f (ks.set i 0) (by simpa using hl) (kOk_set hk i false) (by omega), lsF_ldP f (ks.set i 1) (by simpa using hl) (kOk_set hk i true) (by omega)]
              rfl
            · rw [if_neg hi, if_neg hi, ih]
        exact gen m
      rw [mn]
      have up : 0 < uk ks := by
        apply Nat.pos_of_ne_zero
        intro e
        rw [fcd_all hl hk e] at hc
        cases hc
      have le : ∀ k, ks[k]? = some (-1) → dpP ks k (lsF m t dpP f (ks.set k 0)).2 (lsF m t dpP f (ks.set k 1)).2 ≤ m := fun k hkk => by
        have u0 := u k hkk false
        have u1 := u k hkk true
        rw [bI_0] at u0
        rw [bI_1] at u1
        rw [lsF_ldP f (ks.set k 0) (by simpa using hl) (kOk_set hk k false) (by omega), lsF_ldP f (ks.set k 1) (by simpa using hl) (kOk_set hk k true) (by omega)]
        obtain ⟨x, x1, x2⟩ := ldP_ex (t := t) f (ks.set k 0) (by simpa using hl) (kOk_set hk k false) (by omega)
        obtain ⟨y, y1, y2⟩ := ldP_ex (t := t) f (ks.set k 1) (by simpa using hl) (kOk_set hk k true) (by omega)
        have d0 := dpT_le x (ks.set k 0) (by simpa using hl) x1
        have d1 := dpT_le y (ks.set k 1) (by simpa using hl) y1
        rw [x2, y2]
        unfold dpP
        omega
      rcases lsB_mn le m with ⟨_, _, e3⟩ | ⟨_, e2⟩
      · exfalso
        have : uk ks = 0 := uk_none fun k hkk => e3 k (by have := ks_ex hkk; omega) hkk
        omega
      · exact e2.symm
end
section
attribute [-simp] DV.cells
attribute [local simp] sliceD cells_st cells_sl cells_i cells_y cells_b cells_s cells_w
attribute [local simp] lend_e3 adopt_e3 new_e3 al_e3 lt_e3
set_option maxHeartbeats 4000000 in
theorem c_LeastDepth_1 {m : Nat} {t : List T} {ks : List Int} {k : Nat} {no yes : Int} (h0 : 0 ≤ no ∧ no ≤ 400000) (h1 : 0 ≤ yes ∧ yes ≤ 400000) : call lf n_impl_LeastDepth_1 [pD m t ks, .i k, .i no, .i yes] = some (.i (dpP ks k no yes), []) := by
  have w1 : wr (1 + max no yes) = 1 + max no yes := wr_id (by omega) (by omega)
  unfold dpP pD pv
  rw [call_k lf n_impl_LeastDepth_1 _ (F := F_impl_LeastDepth_1) rfl rfl]
  simp [F_impl_LeastDepth_1, w1]
set_option maxHeartbeats 8000000 in
def stLsD (m : Nat) (t : List T) (ks : List Int) (b : Int × Int) (i : Nat) : LS :=
  ⟨[(1, .fn n_impl_LeastDepth_1 []), (2, .oad 1056 1 0 0), (6, .i b.1), (7, .i b.2), (19, .i m), (20, .i i)], [(1056, [pD m t ks])]⟩
set_option maxHeartbeats 8000000 in
theorem c_leastFromD {m : Nat} {t : List T} (hm : 1 ≤ m ∧ m ≤ 5) (ht : tmOk m t = true) : ∀ (f : Nat) (ks : List Int), f ≤ 5 → ks.length = m → ks.all kOk = true → uk ks ≤ f →
    call lf n_impl_leastFrom [pD m t ks, .fn n_impl_LeastDepth_1 []] = some (.tup [.i (lsF m t dpP f ks).1, .i (lsF m t dpP f ks).2], [])
  | f, ks, hf5, hl, hk, hf => by
    have F := c_isForced ht hl hk
    cases hc : fcd m t ks with
    | true =>
      have e : lsF m t dpP f ks = (-1, 0) := by
        cases f with
        | zero => rfl
        | succ f => simp only [lsF]; rw [if_pos hc]
      rw [e]
      rw [hc] at F
      unfold pD pv at *
      rw [call_k lf n_impl_leastFrom _ (F := F_impl_leastFrom) rfl rfl]
      simp [F_impl_leastFrom, F]
    | false =>
      cases f with
      | zero =>
        rw [fcd_all hl hk (by omega)] at hc
        cases hc
      | succ f =>
        rw [hc] at F
        have e : lsF m t dpP (f + 1) ks = lsB (fun k => dpP ks k (lsF m t dpP f (ks.set k 0)).2 (lsF m t dpP f (ks.set k 1)).2) ks m := by
          simp only [lsF]
          rw [if_neg (by rw [hc]; simp)]
        rw [e]
        have us' := fun (k : Nat) (hkk : ks[k]? = some (-1)) (b : Bool) => uk_set (b := bI b) (by cases b <;> simp [bI]) hkk
        have BD : ∀ (k : Nat) (b : Bool), ks[k]? = some (-1) → 0 ≤ (lsF m t dpP f (ks.set k (bI b))).2 ∧ (lsF m t dpP f (ks.set k (bI b))).2 ≤ 400000 := fun k b hkk => by
          have := us' k hkk b
          rw [lsF_ldP f (ks.set k (bI b)) (by simpa using hl) (kOk_set hk k b) (by omega)]; have := ldP_nn (m := m) (t := t) f (ks.set k (bI b)); omega
        generalize hS : (fun k => dpP ks k (lsF m t dpP f (ks.set k 0)).2 (lsF m t dpP f (ks.set k 1)).2) = S
        have LP := loop_count (lf := lf) (L := F_impl_leastFrom_L0) m (fun i => stLsD m t ks (lsB S ks i) i) (x := .exit 0) (R := stLsD m t ks (lsB S ks m) m) (fun i hi => by
          have C := c_canAsk (m := m) (t := t) (ks := ks) (by omega) hl (i : Int)
          have w1 : wr ((i : Int) + 1) = ((i + 1 : Nat) : Int) := by rw [wr_id (by omega) (by omega)]; omega
          have hi' : (i : Int) < (m : Int) := by omega
          have eb : lsB S ks (i + 1) = if ks[i]? = some (-1) then (if (lsB S ks i).1 = -1 ∨ S i < (lsB S ks i).2 then ((i : Int), S i) else lsB S ks i) else lsB S ks i := rfl
          have ca : caK m ks (i : Int) = decide (ks[i]? = some (-1)) := by
            unfold caK
            rw [decide_eq_true (show 0 ≤ (i : Int) ∧ (i : Int) < (m : Int) by omega), Int.toNat_natCast, Bool.true_and]
          rw [ca] at C
          rw [eb]
          by_cases hkk : ks[i]? = some (-1)
          · rw [if_pos hkk]
            rw [decide_eq_true hkk] at C
            have B0 := c_answered (m := m) (t := t) false (by omega) hk hkk
            have B1 := c_answered (m := m) (t := t) true (by omega) hk hkk
            have u0 := us' i hkk false
            have u1 := us' i hkk true
            have G0 := c_leastFromD hm ht f (ks.set i (bI false)) (by omega) (by simpa using hl) (kOk_set hk i false) (by omega)
            have G1 := c_leastFromD hm ht f (ks.set i (bI true)) (by omega) (by simpa using hl) (kOk_set hk i true) (by omega)
            have D0 := BD i false hkk
            have D1 := BD i true hkk
            rw [bI_0] at B0 G0 D0
            rw [bI_1] at B1 G1 D1
            have Pr := c_LeastDepth_1 (m := m) (t := t) (ks := ks) (k := i) (no := (lsF m t dpP f (ks.set i 0)).2) (yes := (lsF m t dpP f (ks.set i 1)).2) D0 D1
            have eS : S i = dpP ks i (lsF m t dpP f (ks.set i 0)).2 (lsF m t dpP f (ks.set i 1)).2 := by rw [← hS]
            rw [← eS] at Pr
            clear BD hS eb
            generalize lsF m t dpP f (ks.set i 0) = x at *
            generalize lsF m t dpP f (ks.set i 1) = y at *
            obtain ⟨x1, x2⟩ := x
            obtain ⟨y1, y2⟩ := y
            generalize lsB S ks i = b at *
            obtain ⟨b1, b2⟩ := b
            generalize S i = s at *
            simp only at *
            unfold stLsD
            unfold pD pv at *
            by_cases hb : b1 = -1
            · rw [if_pos (.inl hb)]
              have hb' : (b1 == -1) = true := by simpa using hb
              subst hb
              simp [F_impl_leastFrom_L0, hi, hi', C, B0, B1, G0, G1, Pr, w1, -Int.natCast_add]
            · have hb' : (b1 == -1) = false := beq_eq_false_iff_ne.2 hb
              by_cases hlt : s < b2
              · rw [if_pos (.inr hlt)]
                simp [F_impl_leastFrom_L0, hi, hi', C, B0, B1, G0, G1, Pr, w1, hb', hlt, -Int.natCast_add]
              · rw [if_neg (by rintro (h | h); exact hb h; exact hlt h)]
                simp [F_impl_leastFrom_L0, hi, hi', C, B0, B1, G0, G1, Pr, w1, hb', hlt, -Int.natCast_add]
          · rw [if_neg hkk]
            rw [decide_eq_false hkk] at C
            clear BD hS eb
            generalize lsB S ks i = b at *
            unfold stLsD
            unfold pD pv at *
            simp [F_impl_leastFrom_L0, hi, hi', C, w1, -Int.natCast_add]) (by
          unfold stLsD
          unfold pD pv at *
          simp [F_impl_leastFrom_L0]) (by simp)
        have z : lsB S ks 0 = (-1, 0) := rfl
        rw [z] at LP
        unfold stLsD at LP
        simp only [Int.natCast_zero] at LP
        change ex lf F_impl_leastFrom_W0 _ = _ at LP
        clear BD hS
        unfold pD pv at *
        rw [call_k lf n_impl_leastFrom _ (F := F_impl_leastFrom) rfl rfl]
        generalize lsB S ks m = b at *
        simp [F_impl_leastFrom, F, LP]
end
section
attribute [-simp] DV.cells
attribute [local simp] sliceD cells_st cells_sl cells_i cells_y cells_b cells_s cells_w
attribute [local simp] lend_e3 adopt_e3 new_e3 al_e3 lt_e3
set_option maxHeartbeats 4000000 in
theorem c_impl_LeastDepth (m : Int) (t : List T) (hb : (t.length : Int) < 1099511627776) : call lf n_impl_LeastDepth [.i m, .sl 0 (t.map e2)] = some (.i (ldOf m t), []) := by
  have C1 := c_impl_TermOk m t hb
  rw [call_k lf n_impl_LeastDepth _ (F := F_impl_LeastDepth) rfl rfl]
  unfold ldOf
  cases h1 : tmOk m t with
  | false => rw [h1] at C1; simp [F_impl_LeastDepth, C1]
  | true =>
    rw [h1] at C1
    obtain ⟨⟨m1, m5⟩, _, _⟩ := tmOk_iff.1 h1
    obtain ⟨n, rfl⟩ := Int.eq_ofNat_of_zero_le (a := m) (by omega)
    rw [Int.toNat_natCast]
    have C3 := c_startOf (t := t) (by omega) h1
    have C5 := c_leastFromD (m := n) (by omega) h1 n (non n) (by omega) (non_len _) (non_all _) (by rw [uk_non]; exact Nat.le_refl _)
    rw [lsF_ldP n (non n) (non_len _) (non_all _) (by rw [uk_non]; exact Nat.le_refl _)] at C5
    have e : ldP n t n (non n) = lD n t := rfl
    rw [e] at C5
    generalize (lsF n t dpP n (non n)).1 = x at *
    unfold pD pv at *
    simp [F_impl_LeastDepth, C1, C3, C5]
end
section
attribute [-simp] DV.cells
attribute [local simp] sliceD cells_st cells_sl cells_i cells_y cells_b cells_s cells_w
/-- how many of the first tests there are -/
def bc (o : Nat) : Nat → Int
  | 0 => 0
  | k + 1 => bc o k + bI (o.testBit k)
theorem bI_01 (b : Bool) : 0 ≤ bI b ∧ bI b ≤ 1 := by cases b <;> simp [bI]
theorem bc_bd (o : Nat) : ∀ k, 0 ≤ bc o k ∧ bc o k ≤ k
  | 0 => by simp [bc]
  | k + 1 => by
    have := bc_bd o k
    have := bI_01 (o.testBit k)
    simp only [bc]
    omega
theorem bc_sub {o o' : Nat} : ∀ {n : Nat}, (∀ a, a < n → o'.testBit a = true → o.testBit a = true) → bc o' n ≤ bc o n
  | 0, _ => Int.le_refl _
  | n + 1, h => by
    have ih := bc_sub (n := n) (fun a ha => h a (by omega))
    have hn := h n (by omega)
    simp only [bc]
    cases h1 : o'.testBit n with
    | false =>
      have := bI_01 (o.testBit n)
      simp only [bI]
      simp only [bI] at this
      simp
      omega
    | true => rw [hn h1]; omega
theorem rc_bc {P : Nat → Prop} {L : Nat} (h : ∀ a, L.testBit a = true ↔ P a) : ∀ n, (rc P n : Int) = bc L n
  | 0 => rfl
  | n + 1 => by
    have ih := rc_bc h n
    simp only [rc, bc]
    rw [← ih]
    by_cases hp : P n
    · rw [if_pos hp, (h n).2 hp]; simp [bI]
    · have : L.testBit n = false := by rw [← Bool.not_eq_true, h n]; exact hp
      rw [if_neg hp, this]; simp [bI]
theorem ld_law {m : Nat} {t : List T} (h : tmOk m t = true) : ∃ L : Nat, L < 2 ^ m ∧ letOf m t = L ∧ lD m t ≤ bc L m ∧ (onceOk m t = true → lD m t = bc L m) := by
  obtain ⟨h1, _, _⟩ := tmOk_iff.1 h
  obtain ⟨p1, p2, p3⟩ := pow5 h1.1 h1.2
  simp only [Int.toNat_natCast] at p1 p2 p3
  obtain ⟨x, hb, hf, _, htv⟩ := tv_tree h
  obtain ⟨l1, l2⟩ := lett_occ h1.1 h1.2 hb (s := 0) (by omega) (by rw [Int.toNat_natCast]; omega)
  rw [hf] at l1 l2
  rw [Int.toNat_natCast] at l1
  have hlt : ((t.foldl letF 0).toNat) < 2 ^ m := by omega
  have hbit : ∀ a, (t.foldl letF 0).toNat.testBit a = true ↔ occ a x = true := fun a => by rw [l2]; simp
  have F : Fml m t x := ⟨hb, fun s hs => htv s (by omega)⟩
  obtain ⟨d1, d2⟩ := lD_let F
  rw [rc_bc hbit m] at d1 d2
  refine ⟨(t.foldl letF 0).toNat, hlt, ?_, d1, fun ho => d2 ?_⟩
  · unfold letOf lett
    rw [if_pos h]; omega
  · unfold onceOk at ho
    rw [h, Bool.true_and] at ho
    exact (once_ton h1.1 h1.2 hb (s := 0) (r := []) (by omega) (by rw [Int.toNat_natCast]; omega) (by rw [hf]; simpa using ho)).1
theorem cB_ones {m : Nat} (o : Nat) : ∀ n, n ≤ m → cB (List.replicate m ((1 : Int), (1 : Int))) o n = bc o n
  | 0, _ => rfl
  | n + 1, hn => by
    have ih := cB_ones (m := m) o n (by omega)
    have c : cA (List.replicate m ((1 : Int), (1 : Int))) n = 1 := by
      unfold cA
      rw [List.getD_eq_getElem?_getD, List.getElem?_replicate, if_pos (by omega)]
      rfl
    simp only [cB, bc]
    rw [ih, c]
    cases o.testBit n <;> simp [bI]
theorem tC_ones {m : Nat} : ∀ (x : PT) (s : Nat), (∀ k ∈ pth x s, k < m) → tC (List.replicate m ((1 : Int), (1 : Int))) x s = (pth x s).length
  | x, s, h => by
    rw [pth_cost]
    generalize pth x s = l at *
    induction l with
    | nil => rfl
    | cons k r ih =>
      have c : cA (List.replicate m ((1 : Int), (1 : Int))) k = 1 := by
        unfold cA
        rw [List.getD_eq_getElem?_getD, List.getElem?_replicate, if_pos (h k List.mem_cons_self)]
        rfl
      simp only [List.map_cons, List.sum_cons, List.length_cons]
      rw [ih (fun j hj => h j (List.mem_cons_of_mem _ hj)), c]
      omega
/-- some least proof is no greater than the least depth -/
theorem ld_proof {m : Nat} {t : List T} (h : tmOk m t = true) {s : Nat} (hs : s < 2 ^ m) : ∃ o, o ∈ lpN m t s ∧ bc o m ≤ lD m t := by
  obtain ⟨h1, _, _⟩ := tmOk_iff.1 h
  obtain ⟨x, o1, e1⟩ := lD_ex m t
  have ll := List.length_replicate (n := m) (a := ((1 : Int), (1 : Int)))
  have hu : tsOk (List.replicate m ((1 : Int), (1 : Int))) = true := by
    refine tsOk_iff.2 ⟨by rw [ll]; omega, List.all_eq_true.2 fun v hv => ?_⟩
    rw [List.eq_of_mem_replicate hv]
    decide
  obtain ⟨a1, a2, a3⟩ := ask0_spec hu (t := t) (x := x) (by rw [ll]; exact o1) s
  rw [ll] at a1 a2 a3
  have nd := pth_nodup x (non m) s o1
  have pk : ∀ k ∈ pth x s, k < m := fun k hk => by
    have := ks_ex (nd.2 k hk)
    rwa [non_len] at this
  rw [cB_ones _ m (Nat.le_refl _), tC_ones x s pk] at a2
  have pl := pth_le x s
  obtain ⟨o', b1, b2, b3⟩ := lp_below (m := (m : Int)) h1.1 h1.2 (ts := t) (s := s) (by rw [Int.toNat_natCast]; exact hs) (ask0 x s + 1) (ask0 x s) (by omega) (by rw [Int.toNat_natCast]; exact a3) a1
  rw [Int.toNat_natCast] at b1 b3
  refine ⟨o', mem_lpN.2 ⟨by rw [Int.toNat_natCast]; exact b1, b2⟩, ?_⟩
  have := bc_sub (o := ask0 x s) (o' := o') (n := m) b3
  rw [e1]
  omega
/-- the least size of some sets -/
def lsM (m : Nat) (l : List Nat) : Int := l.foldl (fun a o => min a (bc o m)) ((m : Int) + 1)
theorem lsM_snoc (m : Nat) (l : List Nat) (o : Nat) : lsM m (l ++ [o]) = min (lsM m l) (bc o m) := by simp [lsM]
theorem foldl_le (m : Nat) : ∀ (l : List Nat) (a : Int), l.foldl (fun a o => min a (bc o m)) a ≤ a
  | [], a => Int.le_refl _
  | o :: r, a => by
    have := foldl_le m r (min a (bc o m))
    simp only [List.foldl_cons]
    omega
theorem foldl_mem (m : Nat) {o : Nat} : ∀ (l : List Nat) (a : Int), o ∈ l → l.foldl (fun a o => min a (bc o m)) a ≤ bc o m
  | [], a, h => by cases h
  | p :: r, a, h => by
    simp only [List.foldl_cons]
    rcases List.mem_cons.1 h with rfl | h
    · have := foldl_le m r (min a (bc o m))
      omega
    · exact foldl_mem m r _ h
def stLdq (m : Nat) (t : List T) (n c : Int) (s : Nat) : LS :=
  ⟨[(3, .i m), (4, .own 10258 t.length 0 t.length), (5, .i n), (6, .i c), (9, .i s)], [(10258, t.map e2)]⟩
def stLdr (m : Nat) (t : List T) (n c : Int) (s : Nat) (l : List Nat) (w : Int) (k : Nat) : LS :=
  ⟨[(3, .i m), (4, .own 10258 t.length 0 t.length), (5, .i n), (6, .i c), (9, .i s), (10, .own 34312 l.length 0 l.length), (11, .i w), (12, .i k)], [(10258, t.map e2), (34312, l.map fun (o : Nat) => DV.i o)]⟩
def stLds (m : Nat) (t : List T) (n c : Int) (s : Nat) (l : List Nat) (w : Int) (k : Nat) (z : Int) (j : Nat) : LS :=
  ⟨[(3, .i m), (4, .own 10258 t.length 0 t.length), (5, .i n), (6, .i c), (9, .i s), (10, .own 34312 l.length 0 l.length), (11, .i w), (12, .i k), (13, .i z), (14, .i j)], [(10258, t.map e2), (34312, l.map fun (o : Nat) => DV.i o)]⟩
theorem size_loop (m : Nat) (hm : m ≤ 5) (t : List T) (n c : Int) (s : Nat) (l : List Nat) (w : Int) (k : Nat) {o : Nat} (ho : l[k]? = some o) : ex lf F_laws_FnLeastDepth_W3 (stLds m t n c s l w k 0 0) = some (.exit 6, stLds m t n c s l w k (bc o m) m) := by
  have hk := (List.getElem?_eq_some_iff.1 ho).1
  have hk' : (k : Int) < l.length := by omega
  have at1 : atN (l.map fun (o : Nat) => DV.i o) k = some (.i o) := by
    show (l.map fun (o : Nat) => DV.i o)[k]? = _
    rw [List.getElem?_map, ho]; rfl
  have lm : (l.map fun (o : Nat) => DV.i o).length = l.length := by simp
  have L := loop_count (lf := lf) (L := F_laws_FnLeastDepth_L3) m (fun j => stLds m t n c s l w k (bc o j) j) (x := .exit 6) (R := stLds m t n c s l w k (bc o m) m) (fun j hj => by
    have hj' : (j : Int) < m := by omega
    have bb := bit_bI (a := o) (s := j) (by omega)
    have nj : ¬ (j : Int) < 0 := by omega
    have w1 : wr ((j : Int) + 1) = ((j + 1 : Nat) : Int) := by rw [wr_id (by omega) (by omega)]; omega
    have b0 := bc_bd o j
    have b1 := bI_01 (o.testBit j)
    have w2 : wr (bc o j + bI (o.testBit j)) = bc o j + bI (o.testBit j) := wr_id (by omega) (by omega)
    have e : bc o (j + 1) = bc o j + bI (o.testBit j) := rfl
    rw [e]
    unfold stLds
    generalize (l.map fun (o : Nat) => DV.i o) = M at *
    generalize bI (o.testBit j) = b at *
    simp [F_laws_FnLeastDepth_L3, hj, hj', hk, hk', at1, lm, bb, nj, w1, w2, -Int.natCast_add]) (by
    unfold stLds
    simp [F_laws_FnLeastDepth_L3]) (by simp)
  exact L
theorem list_loop (m : Nat) (hm : m ≤ 5) (t : List T) (n c : Int) (s : Nat) (l : List Nat) (hl : l.length ≤ 100) : ex lf F_laws_FnLeastDepth_W2 (stLdr m t n c s l ((m : Int) + 1) 0) = some (.exit 4, stLdr m t n c s l (lsM m l) l.length) := by
  have L := loop_count (lf := lf) (L := F_laws_FnLeastDepth_L2) l.length (fun k => stLdr m t n c s l (lsM m (l.take k)) k) (x := .exit 4) (R := stLdr m t n c s l (lsM m l) l.length) (fun k hk => by
    have hk' : (k : Int) < l.length := by omega
    have I := size_loop m hm t n c s l (lsM m (l.take k)) k (List.getElem?_eq_getElem hk)
    have w1 : wr ((k : Int) + 1) = ((k + 1 : Nat) : Int) := by rw [wr_id (by omega) (by omega)]; omega
    have e : lsM m (l.take (k + 1)) = min (lsM m (l.take k)) (bc l[k] m) := by rw [List.take_succ_eq_append_getElem hk, lsM_snoc]
    rw [e]
    unfold stLds at I
    simp only [Int.natCast_zero] at I
    unfold stLdr
    generalize (l.map fun (o : Nat) => DV.i o) = M at *
    generalize bc l[k] m = b at *
    generalize lsM m (l.take k) = a at *
    simp [F_laws_FnLeastDepth_L2, hk, hk', I, w1, -Int.natCast_add]) (by
    rw [List.take_length]
    unfold stLdr
    generalize (l.map fun (o : Nat) => DV.i o) = M at *
    simp [F_laws_FnLeastDepth_L2]) (by simp)
  exact L
set_option maxHeartbeats 4000000 in
theorem state_loop {m : Nat} {t : List T} (ht : tmOk m t = true) (tl : t.length ≤ 12) (c : Int) : ex lf F_laws_FnLeastDepth_W1 (stLdq m t (lD m t) c 0) = some (.exit 2, stLdq m t (lD m t) c (2 ^ m)) := by
  obtain ⟨h1, _, _⟩ := tmOk_iff.1 ht
  obtain ⟨p1, p2, p3⟩ := pow5 h1.1 h1.2
  simp only [Int.toNat_natCast] at p1 p2 p3
  have sh := shl1 (k := (m : Int)) (by omega) (by omega)
  rw [Int.toNat_natCast] at sh
  have nm : ¬ (m : Int) < 0 := by omega
  have lb : t.length ≤ bound := by unfold bound; omega
  have w0 : wr ((m : Int) + 1) = (m : Int) + 1 := wr_id (by omega) (by omega)
  have L := loop_count (lf := lf) (L := F_laws_FnLeastDepth_L1) (2 ^ m) (fun s => stLdq m t (lD m t) c s) (x := .exit 2) (R := stLdq m t (lD m t) c (2 ^ m)) (fun s hs => by
    have hs' : (s : Int) < 2 ^ m := by omega
    have C := c_impl_LeastProofs m t s (by omega)
    have so : stOk m s = true := stOk_iff.2 ⟨by omega, by omega, by rw [Int.toNat_natCast]; omega⟩
    have e : (lpOf m t s).map DV.i = (lpN m t s).map fun (o : Nat) => DV.i o := by
      unfold lpOf
      rw [ht, so]
      simp only [Bool.and_self, if_true, Int.toNat_natCast]
      have := sel_lpN m t s
      rw [Int.toNat_natCast] at this
      rw [this, List.map_map]
      rfl
    rw [e] at C
    have ln := lpN_len m t s
    rw [Int.toNat_natCast] at ln
    have I := list_loop m (by omega) t (lD m t) c s (lpN m t s) (by omega)
    obtain ⟨o, q1, q2⟩ := ld_proof ht hs
    have le : lsM m (lpN m t s) ≤ bc o m := foldl_mem m _ _ q1
    have ng : ¬ lD m t < lsM m (lpN m t s) := by omega
    have w1 : wr ((s : Int) + 1) = ((s + 1 : Nat) : Int) := by rw [wr_id (by omega) (by omega)]; omega
    unfold stLdr at I
    simp only [Int.natCast_zero] at I
    have lM : ((lpN m t s).map fun (o : Nat) => DV.i o).length = (lpN m t s).length := by simp
    have nM : allNewL ((lpN m t s).map fun (o : Nat) => DV.i o) = true := by
      rw [allNewL_all, List.all_map, List.all_eq_true]
      intro y _
      rfl
    have aM : ∀ x, adoptL x ((lpN m t s).map fun (o : Nat) => DV.i o) = (lpN m t s).map fun (o : Nat) => DV.i o := fun x => by
      rw [adoptL_map, List.map_map]
      rfl
    unfold stLdq
    generalize ((lpN m t s).map fun (o : Nat) => DV.i o) = M at *
    generalize lsM m (lpN m t s) = a at *
    generalize (lpN m t s).length = z at *
    generalize lD m t = n at *
    simp [F_laws_FnLeastDepth_L1, sh, nm, hs', C, I, ng, w0, w1, lb, lM, nM, aM, -Int.natCast_add]) (by
    unfold stLdq
    have nlt : ¬ (((2 ^ m : Nat) : Int) < 2 ^ m) := by omega
    simp [F_laws_FnLeastDepth_L1, sh, nm, nlt]) (by simp)
  exact L
theorem let_loop (m : Nat) (hm : m ≤ 5) (t : List T) (n : Int) (L : Nat) : ex lf F_laws_FnLeastDepth_W0 ⟨[(3, .i m), (4, .own 10258 t.length 0 t.length), (5, .i n), (6, .i 0), (7, .i L), (8, .i 0)], [(10258, t.map e2)]⟩ =
    some (.exit 0, ⟨[(3, .i m), (4, .own 10258 t.length 0 t.length), (5, .i n), (6, .i (bc L m)), (7, .i L), (8, .i m)], [(10258, t.map e2)]⟩) := by
  have LP := loop_count (lf := lf) (L := F_laws_FnLeastDepth_L0) m (fun j => ⟨[(3, .i m), (4, .own 10258 t.length 0 t.length), (5, .i n), (6, .i (bc L j)), (7, .i L), (8, .i j)], [(10258, t.map e2)]⟩) (x := .exit 0) (R := ⟨[(3, .i m), (4, .own 10258 t.length 0 t.length), (5, .i n), (6, .i (bc L m)), (7, .i L), (8, .i m)], [(10258, t.map e2)]⟩) (fun j hj => by
    have hj' : (j : Int) < m := by omega
    have bb := bit_bI (a := L) (s := j) (by omega)
    have nj : ¬ (j : Int) < 0 := by omega
    have w1 : wr ((j : Int) + 1) = ((j + 1 : Nat) : Int) := by rw [wr_id (by omega) (by omega)]; omega
    have b0 := bc_bd L j
    have b1 := bI_01 (L.testBit j)
    have w2 : wr (bc L j + bI (L.testBit j)) = bc L j + bI (L.testBit j) := wr_id (by omega) (by omega)
    have e : bc L (j + 1) = bc L j + bI (L.testBit j) := rfl
    rw [e]
    generalize bI (L.testBit j) = b at *
    simp [F_laws_FnLeastDepth_L0, hj, hj', bb, nj, w1, w2, -Int.natCast_add]) (by
    simp [F_laws_FnLeastDepth_L0]) (by simp)
  exact LP
set_option maxHeartbeats 8000000 in
theorem law_FnLeastDepth (x : List Nat) (_ : x.length ≤ Go.maxLen) (hb : ∀ y ∈ x, y < 256) : call lf n_laws_FnLeastDepth [bys x] = some (.b true, []) := by
  show call lf n_laws_FnLeastDepth [.sl 0 (x.map .y)] = _
  rw [call_k lf n_laws_FnLeastDepth _ (F := F_laws_FnLeastDepth) rfl rfl]
  by_cases hl : 1048576 < (x.length : Int)
  · simp (config := { maxSteps := 2000000 }) [F_laws_FnLeastDepth, hl]
  · obtain ⟨a, t, a1, a2, t1, d⟩ := c_DrawLeastDepth hb (by omega)
    have D1 := c_impl_LeastDepth a t (by omega)
    have D2 := c_spec_LeastDepth a t (by omega)
    have D3 := c_impl_TermOk a t (by omega)
    have lb1 : t.length ≤ bound := by unfold bound; omega
    cases h : tmOk a t with
    | false =>
      have e : ldOf a t = -1 := by unfold ldOf; rw [h]; rfl
      rw [e] at D1 D2
      rw [h] at D3
      simp (config := { maxSteps := 2000000 }) [F_laws_FnLeastDepth, hl, d, D1, D2, D3, lb1, c_alive]
    | true =>
      obtain ⟨m, rfl⟩ := Int.eq_ofNat_of_zero_le (a := a) (by omega)
      obtain ⟨h1, _, _⟩ := tmOk_iff.1 h
      have e : ldOf m t = lD m t := by unfold ldOf; rw [h, Int.toNat_natCast]; rfl
      rw [e] at D1 D2
      obtain ⟨L, l1, l2, l3, l4⟩ := ld_law h
      have D4 := c_impl_LettersOf m t (by omega)
      rw [l2] at D4
      have LL := let_loop m (by omega) t (lD m t) L
      have SL := state_loop h t1 (bc L m)
      have D5 := c_impl_OnceOk m t (by omega)
      have D6 := c_impl_DualTerm m t (by omega)
      rw [h] at D6
      have dt := (tm_dual h).1
      have D7 := c_impl_LeastDepth m (t.map dT) (by simp; omega)
      have e7 : ldOf m (t.map dT) = lD m t := by unfold ldOf; rw [dt, Int.toNat_natCast]; exact lD_dual h
      rw [e7] at D7
      have n0 := (ldP_nn (m := m) (t := t) m (non m)).1
      have n1 : ¬ lD m t < 0 := by unfold lD; omega
      unfold stLdq at SL
      simp only [Int.natCast_zero] at SL LL
      have tm : List.take t.length ((t.map dT).map e2) = (t.map dT).map e2 := List.take_of_length_le (by simp)
      have mm : (t.map dT).map e2 = List.map (e2 ∘ dT) t := List.map_map
      have nw : allNewL (List.map (e2 ∘ dT) t) = true := by
        rw [← mm, allNewL_all, List.all_map, List.all_eq_true]
        intro y _
        rfl
      have ad : ∀ x, adoptL x (List.map (e2 ∘ dT) t) = List.map (e2 ∘ dT) t := fun x => by
        rw [← mm]
        exact adopt_e2 x _
      have le : lendL (List.map (e2 ∘ dT) t) = List.map (e2 ∘ dT) t := by
        rw [← mm]
        exact lend_e2 _
      rw [mm] at D6 D7 tm
      generalize bc L m = b at *
      generalize lD m t = n at *
      cases ho : onceOk m t with
      | true =>
        have q := l4 ho
        subst q
        rw [ho] at D5
        simp (config := { maxSteps := 2000000 }) [F_laws_FnLeastDepth, hl, d, D1, D2, D4, D5, D6, D7, LL, SL, n1, lb1, tm, mm, nw, ad, le, c_alive]
      | false =>
        rw [ho] at D5
        simp (config := { maxSteps := 2000000 }) [F_laws_FnLeastDepth, hl, d, D1, D2, D4, D5, D6, D7, LL, SL, n1, lb1, l3, tm, mm, nw, ad, le, c_alive]
end
end Zz
