/- What the functions answer, as equations: E15. No conditions. -/
import Derived.Test.YtjallbfleicfnabDoorE14
set_option linter.unusedSectionVars false
set_option linter.unusedVariables false
set_option linter.unusedSimpArgs false
namespace Zz
open Go.Lg Md
set_option linter.unusedSimpArgs false
set_option linter.unusedVariables false
attribute [local simp] oldO_some oa_nil oa_i oa_y oa_b oa_s oa_st oa_sl oa_own oa_oad oa_nl al_nil al_cons al_i al_y al_b al_s al_st al_sl nxF_some nxF_none rf_nil rf_gen rf_gate hk_newnil hk_make hk_alloc hk_box hk_build hk_bslice hk_call hk_store hk_app cl_nil cl_cons ai_nil ai_cons il_i il_y il_b il_s il_st il_sl il_own il_adr il_oad il_ref il_fr il_tup il_nil il_np il_und il_dead oi_e oi_i oi_y oi_b oi_s oi_st oi_sl oi_own oi_adr oi_oad oi_ref oi_fr oi_tup oi_nil oi_np oi_und oi_dead as_nil as_cons ao_nil ao_cons av_i av_y av_b av_s av_st av_sl av_own av_adr av_oad av_ref av_fr av_tup av_nil av_np av_und av_dead pro_cons ghK_some ks_promote ks_rename ren_own dropO adoptP newP wholeP cutP allOldL ex_skip ex_ret ex_exit ks_region ks_seq ks_cond ks_block seqK_n seqK_e seqK_r regK_some condK_t condK_f blkK_n blkK_r blkK_e endK_n endK_r rr_false rr_true rd_free mo_nil mo_cons drK_some drK_none nxW_some nxW_none rw_nil rw_gen rw_gate ak_newnil ak_make ak_alloc ak_box ak_build ak_bslice ak_call ak_store ak_app iw_mm iw_idxp ef_mmx ef_mmn ef_idxp nxD_some nxD_none ov_i ov_y ov_b ov_s ov_st ov_sl ov_own ov_oad ov_adr ov_nil ov_np ov_und ov_dead ov_tup oldN_some oldN_nil oldN_none so_none so_i so_y so_b so_s so_st so_sl so_adr so_nil so_np so_und so_dead anyM_nil anyM_t anyM_c so_own so_oad rd_nil rd_gen rd_mv rd_gate iw_mv iw_newnil iw_pick iw_bin iw_eqb iw_eqs iw_un iw_len iw_lens iw_chk iw_fld iw_fldv iw_idxa iw_idx iw_load iw_store iw_slice iw_slices iw_make iw_alloc iw_box iw_build iw_bslice iw_app iw_b2i iw_i2b iw_i2i iw_same iw_b2s iw_s2b iw_ext iw_call nm_i nm_y nm_b nm_s nm_st nm_sl nm_own nm_oad nm_adr nm_nil nm_np nm_und nm_dead nm_tup rl_nil rl_gate rl_mv rl_gen opv_t opv_c nx_some nx_none gate_tt gate_tf gate_ft gate_ff gate_u fr_ap em_nil em_i em_y em_b em_s em_st em_sl em_own em_adr em_oad em_ref em_nl em_np em_und em_dead em_tup0 em_tup_i em_tup_b em_tup_s em_tup_sl em_tup_st em_tup_np em_tup_own em_tup_oad mm_i mm_y mm_b mm_s mm_st mm_sl mm_own mm_oad mm_adr mm_nil mm_np mm_und mm_dead ef_mv ef_newnil ef_pickt ef_pickf ef_bin ef_eqb ef_eqs ef_un ef_lens ef_len_sl ef_len_own ef_len_nil ef_chk_adr ef_chk_oad ef_fld_adr ef_fld_oad ef_fldv idxR_some ef_idxa_sl ef_idxa_own ef_idx ef_load_adr_st ef_load_adr_i ef_load_adr_y ef_load_adr_b ef_load_adr_s ef_load_adr_sl atN_nil atN_zero atN_succ ef_load_oad ef_store ef_slice ef_slices ef_make ef_alloc ef_box ef_build ef_bslice ef_app_own ef_app_nil ef_b2i ef_i2b ef_i2i ef_same ef_ext ret1 ret2_some calL_some ef_call retC_i retC_y retC_b retC_s retC_st retC_sl retC_np retC_fr retC_ref retC_tup rk_nil rk_i rk_y rk_b rk_s rk_st rk_sl rk_own rk_oad rk_nl ok_nil ok_i ok_y ok_b ok_s ok_st ok_sl ok_own ok_oad ok_nl lo_nil lo_i lo_y lo_b lo_s lo_st lo_sl lo_own lo_oad lo_nl pr_nil pr_i pr_y pr_b pr_s pr_st pr_sl pr_own pr_nl pr_oad nr_i nr_y nr_b nr_s nr_st nr_sl nr_fr nr_np nr_tup ng_i ng_b ng_s ng_fr ng_nil resV effP_eff binD bi_add bi_sub bi_mul bi_quo bi_rem bi_eql bi_neq bi_lss bi_leq bi_gtr bi_geq bi_shl bi_shr bi_and bi_or bi_xor bi_andNot binY binS unD look put putD LS.get LS.drop killE sweep lookO putO dropO enter leave giveBackL giveBack outs lendArgs lendArg newOuts takeIn takeInL lendL DV.lend adoptL DV.adopt elems apartKs part DV.cells unpart settle settleL over mkId szId fillP fillE tk_e2 tk_i tk_y lt_e2 lt_i lt_y lend_rep al_e2 al_is al_ys al_rep al_app lend_app adopt_app new_app lend_e2 lend_i lend_y adopt_e2 adopt_i adopt_y new_e2 new_i allNewL DV.allNew bounds sliceD sliceS em_w em_q em_r em_fn em_tup_w em_tup_q em_tup_r mm_w mm_q mm_r mm_fn ef_load_adr_w ef_load_adr_q ef_load_adr_r retC_w retC_q retC_r rk_w rk_q rk_r rk_fn ok_w ok_q ok_r ok_fn lo_w lo_q lo_r lo_fn pr_w pr_q pr_r pr_fn nr_w nr_q nr_r ng_w ng_q ng_r oa_w oa_q oa_r oa_fn al_w al_q al_r al_fn ov_w ov_q ov_r ov_fn so_w so_q so_r so_fn il_w il_q il_r il_fn oi_w oi_q oi_r oi_fn av_w av_q av_r av_fn nm_w nm_q nm_r nm_fn ef_i2r ef_r2s ef_mkfn ef_idxp_adr ef_calld capsOk DV.cell List.all_cons List.all_nil rk_own_t lo_own_t lk_f lk_t pr_own_t mutB ak_calld hk_calld iw_calld iw_mkfn iw_i2r iw_r2s bw_and bw_or bw_xor bw_andNot bw_eql bw_neq sw_shl sw_shr sq_shl gEnv_nil rk_adr ok_adr lo_adr pr_adr oa_adr capL capArg DV.cap ak_mkfn hk_mkfn
attribute [local congr] nxF_congr ghK_congr gate_congr nx_congr nxD_congr runL_congr runD_congr eff_congr calL_congr ret2_congr seqK_congr regK_congr condK_congr endK_congr drK_congr nxW_congr
attribute [local simp ↓] nxF_some rf_nil rf_gen rf_gate ks_promote ks_rename ghK_some gate_tt gate_tf gate_ft gate_ff gate_u nx_some nxD_some rl_nil rl_mv rl_gen rl_gate rd_nil rd_mv rd_gen rd_gate rd_free rr_false rr_true drK_some drK_none nxW_some rw_nil rw_gen rw_gate ks_region ks_seq ks_cond ks_block seqK_n seqK_e seqK_r regK_some condK_t condK_f blkK_n blkK_r endK_n endK_r calL_some ret2_some opv_t opv_c
attribute [-simp] DV.cells sliceD
attribute [local simp] cells_st cells_sl cells_i cells_y cells_b cells_s cells_w
/-! ### what is forced -/
/-- 1 if f holds wherever g does below N, 0 if nowhere, else -1 -/
def fo (f g : Nat → Bool) (N : Nat) : Int := if allTo (fun s => !g s || f s) N then 1 else if allTo (fun s => !g s || !f s) N then 0 else -1
theorem fo_1 {f g : Nat → Bool} {N : Nat} : fo f g N = 1 ↔ ∀ s, s < N → g s = true → f s = true := by
  unfold fo
  constructor
  · intro h
    split at h
    · rename_i ha
      intro s hs hg
      have := allTo_iff.1 ha s hs
      simpa [hg] using this
    · split at h <;> cases h
  · intro h
    rw [if_pos (allTo_iff.2 fun s hs => by
      cases hg : g s with
      | false => rfl
      | true => simp [h s hs hg])]
theorem fo_0 {f g : Nat → Bool} {N : Nat} (hne : ∃ s, s < N ∧ g s = true) : fo f g N = 0 ↔ ∀ s, s < N → g s = true → f s = false := by
  obtain ⟨s0, h0, g0⟩ := hne
  unfold fo
  constructor
  · intro h
    split at h
    · cases h
    · split at h
      · rename_i ha
        intro s hs hg
        have := allTo_iff.1 ha s hs
        simpa [hg] using this
      · cases h
  · intro h
    rw [if_neg, if_pos (allTo_iff.2 fun s hs => by
      cases hg : g s with
      | false => rfl
      | true => simp [h s hs hg])]
    intro ha
    have := allTo_iff.1 ha s0 h0
    simp [g0, h s0 h0 g0] at this
theorem fo_or (f g : Nat → Bool) (N : Nat) : fo f g N = 1 ∨ fo f g N = 0 ∨ fo f g N = -1 := by
  unfold fo
  split
  · simp
  · split <;> simp
theorem fo_b {f g : Nat → Bool} {N : Nat} (hne : ∃ s, s < N ∧ g s = true) (b : Bool) : fo f g N = bI b ↔ ∀ s, s < N → g s = true → f s = b := by
  cases b with
  | true => exact fo_1
  | false => exact fo_0 hne
theorem fo_n {f g : Nat → Bool} {N : Nat} (hne : ∃ s, s < N ∧ g s = true) : fo f g N = -1 ↔ (∃ s, s < N ∧ g s = true ∧ f s = true) ∧ ∃ s, s < N ∧ g s = true ∧ f s = false := by
  obtain ⟨s0, h0, g0⟩ := id hne
  constructor
  · intro h
    constructor
    · apply Classical.byContradiction
      intro hn
      have : fo f g N = 0 := (fo_0 hne).2 fun s hs hg => by
        cases hf : f s with
        | false => rfl
        | true => exact absurd ⟨s, hs, hg, hf⟩ hn
      omega
    · apply Classical.byContradiction
      intro hn
      have : fo f g N = 1 := fo_1.2 fun s hs hg => by
        cases hf : f s with
        | true => rfl
        | false => exact absurd ⟨s, hs, hg, hf⟩ hn
      omega
  · rintro ⟨⟨s1, h1, g1, f1⟩, ⟨s2, h2, g2, f2⟩⟩
    rcases fo_or f g N with h | h | h
    · have := fo_1.1 h s2 h2 g2; rw [f2] at this; cases this
    · have := (fo_0 hne).1 h s1 h1 g1; rw [f1] at this; cases this
    · exact h
theorem fo_congr {f g f' g' : Nat → Bool} {N : Nat} (h : ∀ s, s < N → g s = g' s ∧ (g s = true → f s = f' s)) : fo f g N = fo f' g' N := by
  have e1 : allTo (fun s => !g s || f s) N = allTo (fun s => !g' s || f' s) N := by
    rw [Bool.eq_iff_iff, allTo_iff, allTo_iff]
    refine forall_congr' fun s => ⟨fun k hs => ?_, fun k hs => ?_⟩ <;> (obtain ⟨h1, h2⟩ := h s hs; have := k hs; cases hg : g s <;> simp_all)
  have e2 : allTo (fun s => !g s || !f s) N = allTo (fun s => !g' s || !f' s) N := by
    rw [Bool.eq_iff_iff, allTo_iff, allTo_iff]
    refine forall_congr' fun s => ⟨fun k hs => ?_, fun k hs => ?_⟩ <;> (obtain ⟨h1, h2⟩ := h s hs; have := k hs; cases hg : g s <;> simp_all)
  unfold fo
  rw [e1, e2]
/-- What the states say that agree. -/
def agB (ks : List Int) (s : Nat) : Bool := ag ks (s : Int)
theorem agB_cons (k : Int) (r : List Int) (s : Nat) : agB (k :: r) s = ((k == -1 || k == bI (s.testBit 0)) && agB r (s / 2)) := by
  unfold agB
  simp only [ag]
  have e1 : (s : Int) % 2 = bI (s.testBit 0) := by
    unfold bI
    rw [Nat.testBit_zero]
    by_cases h : s % 2 = 1
    · simp [h]; omega
    · simp [h]; omega
  have e2 : (s : Int) / 2 = ((s / 2 : Nat) : Int) := by omega
  rw [e1, e2]
theorem agB_some : ∀ {ks : List Int}, ks.all kOk = true → ∃ s, s < 2 ^ ks.length ∧ agB ks s = true
  | [], _ => ⟨0, by simp, rfl⟩
  | k :: r, h => by
    simp only [List.all_cons, Bool.and_eq_true] at h
    obtain ⟨s, h1, h2⟩ := agB_some h.2
    have hk : -1 ≤ k ∧ k ≤ 1 := by simpa [kOk] using h.1
    have c : k = -1 ∨ k = 0 ∨ k = 1 := by omega
    have key : ∀ b : Bool, k = -1 ∨ k = bI b → ∃ s, s < 2 ^ (k :: r).length ∧ agB (k :: r) s = true := by
      intro b hb
      refine ⟨2 * s + (if b then 1 else 0), ?_, ?_⟩
      · rw [List.length_cons, Nat.pow_succ]; cases b <;> simp <;> omega
      · rw [agB_cons]
        have e1 : (2 * s + (if b then 1 else 0)) / 2 = s := by cases b <;> simp <;> omega
        have e2 : (2 * s + (if b then 1 else 0)).testBit 0 = b := by rw [Nat.testBit_zero]; cases b <;> simp <;> omega
        rw [e1, e2, h2]
        rcases hb with rfl | rfl <;> simp
    rcases c with rfl | rfl | rfl
    · exact key true (.inl rfl)
    · exact key false (.inr rfl)
    · exact key true (.inr rfl)
def stFo (m tab : Int) (ks : List Int) (out : Int) (first : Bool) (s : Int) : LS := ⟨[(0, .i m), (1, .i tab), (2, .sl 0 (ks.map .i)), (7, .i out), (8, .b first), (9, .i s)], []⟩
def invF (f g : Nat → Bool) (i : Nat) (out : Int) (first : Bool) : Prop :=
  (first = true ∧ out = -1 ∧ ∀ s, s < i → g s = false) ∨ (first = false ∧ ∃ b, out = bI b ∧ (∃ s, s < i ∧ g s = true) ∧ ∀ s, s < i → g s = true → f s = b)
set_option maxHeartbeats 4000000 in
theorem l_forced {m : Int} (h1 : 1 ≤ m) (h5 : m ≤ 5) (ks : List Int) (hk : (ks.length : Int) ≤ 40) (tab : Nat) (ht : ∀ s, s < 2 ^ m.toNat → tab.testBit s = tab.testBit s) (j : Nat) : ∀ (i : Nat) (out : Int) (first : Bool), i + j = 2 ^ m.toNat → invF tab.testBit (agB ks) i out first →
    (∃ out' first', invF tab.testBit (agB ks) (2 ^ m.toNat) out' first' ∧ ex lf F_spec_l3Forced_W0 (stFo m tab ks out first i) = some (.exit 0, stFo m tab ks out' first' (2 ^ m.toNat : Nat))) ∨
    (((∃ s, s < 2 ^ m.toNat ∧ agB ks s = true ∧ tab.testBit s = true) ∧ ∃ s, s < 2 ^ m.toNat ∧ agB ks s = true ∧ tab.testBit s = false) ∧ ex lf F_spec_l3Forced_W0 (stFo m tab ks out first i) = some (.ret, ⟨[(6, .i (-1))], []⟩)) := by
  obtain ⟨p1, p2, p3⟩ := pow5 h1 h5
  have s1 := shl1 (k := m) (by omega) (by omega)
  have n0 : ¬ m < 0 := by omega
  induction j with
  | zero =>
    intro i out first hi hinv
    have : i = 2 ^ m.toNat := by omega
    subst this
    refine .inl ⟨out, first, hinv, ?_⟩
    rw [w_spec_l3Forced_0]
    unfold stFo
    simp [F_spec_l3Forced_L0, s1, n0, p3]
  | succ j ih =>
    intro i out first hi hinv
    have lt : (i : Int) < 2 ^ m.toNat := by omega
    have ni : ¬ (i : Int) < 0 := by omega
    have C := c_spec_l1Agrees ks i hk (by omega)
    have w1 : wr ((i : Int) + 1) = ((i + 1 : Nat) : Int) := by rw [wr_id (by omega) (by omega)]; omega
    have tb := bit_bI (a := tab) (s := i) (by omega)
    have z2 : ¬ (2 : Int) = 0 := by omega
    have go : ∀ out1 first1, ex lf F_spec_l3Forced_L0 (stFo m tab ks out first i) = some (.normal, stFo m tab ks out1 first1 (i + 1 : Nat)) → ex lf F_spec_l3Forced_W0 (stFo m tab ks out first i) = ex lf F_spec_l3Forced_W0 (stFo m tab ks out1 first1 (i + 1 : Nat)) := by
      intro out1 first1 h
      rw [w_spec_l3Forced_0, h]
    have hstep : ∀ s, s < i + 1 → s < i ∨ s = i := fun s hs => by omega
    cases hg : agB ks i with
    | false =>
      have hg' : ag ks (i : Int) = false := hg
      rw [hg'] at C
      have e := go out first (by
        unfold stFo
        simp [F_spec_l3Forced_L0, s1, n0, lt, C, w1])
      rw [e]
      refine ih (i + 1) out first (by omega) ?_
      rcases hinv with ⟨a1, a2, a3⟩ | ⟨a1, b, a2, ⟨s0, a3, a4⟩, a5⟩
      · exact .inl ⟨a1, a2, fun s hs => by rcases hstep s hs with h | rfl; exact a3 s h; exact hg⟩
      · exact .inr ⟨a1, b, a2, ⟨s0, by omega, a4⟩, fun s hs hgs => by rcases hstep s hs with h | rfl; exact a5 s h hgs; rw [hg] at hgs; cases hgs⟩
    | true =>
      have hg' : ag ks (i : Int) = true := hg
      rw [hg'] at C
      rcases hinv with ⟨rfl, rfl, a3⟩ | ⟨rfl, b, rfl, ⟨s0, a3, a4⟩, a5⟩
      · have e := go (bI (tab.testBit i)) false (by
          unfold stFo
          simp [F_spec_l3Forced_L0, s1, n0, lt, ni, C, w1, tb])
        rw [e]
        refine ih (i + 1) _ false (by omega) (.inr ⟨rfl, _, rfl, ⟨i, by omega, hg⟩, fun s hs hgs => ?_⟩)
        rcases hstep s hs with h | rfl
        · rw [a3 s h] at hgs; cases hgs
        · rfl
      · by_cases hb : tab.testBit i = b
        · have tb' : (shrI (tab : Int) (i : Int)).tmod 2 = bI b := by rw [tb, hb]
          have e := go (bI b) false (by
            unfold stFo
            simp [F_spec_l3Forced_L0, s1, n0, lt, ni, C, w1, tb'])
          rw [e]
          refine ih (i + 1) _ false (by omega) (.inr ⟨rfl, b, rfl, ⟨i, by omega, hg⟩, fun s hs hgs => ?_⟩)
          rcases hstep s hs with h | rfl
          · exact a5 s h hgs
          · exact hb
        · refine .inr ⟨?_, ?_⟩
          · have q0 := a5 s0 a3 a4
            cases b with
            | true => exact ⟨⟨s0, by omega, a4, q0⟩, ⟨i, by omega, hg, by simpa using hb⟩⟩
            | false => exact ⟨⟨i, by omega, hg, by simpa using hb⟩, ⟨s0, by omega, a4, q0⟩⟩
          · have ne : (bI (tab.testBit i) != bI b) = true := by
              cases h : tab.testBit i <;> cases b <;> simp_all [bI]
            rw [w_spec_l3Forced_0]
            unfold stFo
            simp [F_spec_l3Forced_L0, s1, n0, lt, ni, C, w1, tb, ne]
theorem c_spec_l3Forced {m : Int} (h1 : 1 ≤ m) (h5 : m ≤ 5) (ks : List Int) (hk : (ks.length : Int) ≤ 40) (tab : Nat) (hne : ∃ s, s < 2 ^ m.toNat ∧ agB ks s = true) :
    call lf n_spec_l3Forced [.i m, .i tab, .sl 0 (ks.map .i)] = some (.i (fo tab.testBit (agB ks) (2 ^ m.toNat)), []) := by
  rw [call_k lf n_spec_l3Forced _ (F := F_spec_l3Forced) rfl rfl]
  rcases l_forced h1 h5 ks hk tab (fun _ _ => rfl) (2 ^ m.toNat) 0 (-1) true (by omega) (.inl ⟨rfl, rfl, fun s hs => by omega⟩) with ⟨out, first, hinv, L⟩ | ⟨hc, L⟩
  · obtain ⟨s0, h0, g0⟩ := hne
    rcases hinv with ⟨_, _, a3⟩ | ⟨rfl, b, rfl, a4, a5⟩
    · rw [a3 s0 h0] at g0; cases g0
    · have e := (fo_b ⟨s0, h0, g0⟩ b).2 a5
      unfold stFo at L
      simp at L
      simp [F_spec_l3Forced, L, e]
  · have e := (fo_n hne).2 hc
    unfold stFo at L
    simp at L
    simp [F_spec_l3Forced, L, e]
end Zz
