/- What the functions answer, as equations: E17. No conditions. -/
import Derived.Test.YtjallbfleicfnabDoorE16
set_option linter.unusedSectionVars false
set_option linter.unusedVariables false
set_option linter.unusedSimpArgs false
namespace Zz
open Go.Lg Md
set_option linter.unusedSimpArgs false
set_option linter.unusedVariables false
attribute [local simp] oldO_some oa_nil oa_i oa_y oa_b oa_s oa_st oa_sl oa_own oa_oad oa_nl al_nil al_cons al_i al_y al_b al_s al_st al_sl nxF_some nxF_none rf_nil rf_gen rf_gate hk_newnil hk_make hk_alloc hk_box hk_build hk_bslice hk_call hk_store hk_app cl_nil cl_cons ai_nil ai_cons il_i il_y il_b il_s il_st il_sl il_own il_adr il_oad il_ref il_fr il_tup il_nil il_np il_und il_dead oi_e oi_i oi_y oi_b oi_s oi_st oi_sl oi_own oi_adr oi_oad oi_ref oi_fr oi_tup oi_nil oi_np oi_und oi_dead as_nil as_cons ao_nil ao_cons av_i av_y av_b av_s av_st av_sl av_own av_adr av_oad av_ref av_fr av_tup av_nil av_np av_und av_dead pro_cons ghK_some ks_promote ks_rename ren_own dropO adoptP newP wholeP cutP allOldL ex_skip ex_ret ex_exit ks_region ks_seq ks_cond ks_block seqK_n seqK_e seqK_r regK_some condK_t condK_f blkK_n blkK_r blkK_e endK_n endK_r rr_false rr_true rd_free mo_nil mo_cons drK_some drK_none nxW_some nxW_none rw_nil rw_gen rw_gate ak_newnil ak_make ak_alloc ak_box ak_build ak_bslice ak_call ak_store ak_app iw_mm iw_idxp ef_mmx ef_mmn ef_idxp nxD_some nxD_none ov_i ov_y ov_b ov_s ov_st ov_sl ov_own ov_oad ov_adr ov_nil ov_np ov_und ov_dead ov_tup oldN_some oldN_nil oldN_none so_none so_i so_y so_b so_s so_st so_sl so_adr so_nil so_np so_und so_dead anyM_nil anyM_t anyM_c so_own so_oad rd_nil rd_gen rd_mv rd_gate iw_mv iw_newnil iw_pick iw_bin iw_eqb iw_eqs iw_un iw_len iw_lens iw_chk iw_fld iw_fldv iw_idxa iw_idx iw_load iw_store iw_slice iw_slices iw_make iw_alloc iw_box iw_build iw_bslice iw_app iw_b2i iw_i2b iw_i2i iw_same iw_b2s iw_s2b iw_ext iw_call nm_i nm_y nm_b nm_s nm_st nm_sl nm_own nm_oad nm_adr nm_nil nm_np nm_und nm_dead nm_tup rl_nil rl_gate rl_mv rl_gen opv_t opv_c nx_some nx_none gate_tt gate_tf gate_ft gate_ff gate_u fr_ap em_nil em_i em_y em_b em_s em_st em_sl em_own em_adr em_oad em_ref em_nl em_np em_und em_dead em_tup0 em_tup_i em_tup_b em_tup_s em_tup_sl em_tup_st em_tup_np em_tup_own em_tup_oad mm_i mm_y mm_b mm_s mm_st mm_sl mm_own mm_oad mm_adr mm_nil mm_np mm_und mm_dead ef_mv ef_newnil ef_pickt ef_pickf ef_bin ef_eqb ef_eqs ef_un ef_lens ef_len_sl ef_len_own ef_len_nil ef_chk_adr ef_chk_oad ef_fld_adr ef_fld_oad ef_fldv idxR_some ef_idxa_sl ef_idxa_own ef_idx ef_load_adr_st ef_load_adr_i ef_load_adr_y ef_load_adr_b ef_load_adr_s ef_load_adr_sl atN_nil atN_zero atN_succ ef_load_oad ef_store ef_slice ef_slices ef_make ef_alloc ef_box ef_build ef_bslice ef_app_own ef_app_nil ef_b2i ef_i2b ef_i2i ef_same ef_ext ret1 ret2_some calL_some ef_call retC_i retC_y retC_b retC_s retC_st retC_sl retC_np retC_fr retC_ref retC_tup rk_nil rk_i rk_y rk_b rk_s rk_st rk_sl rk_own rk_oad rk_nl ok_nil ok_i ok_y ok_b ok_s ok_st ok_sl ok_own ok_oad ok_nl lo_nil lo_i lo_y lo_b lo_s lo_st lo_sl lo_own lo_oad lo_nl pr_nil pr_i pr_y pr_b pr_s pr_st pr_sl pr_own pr_nl pr_oad nr_i nr_y nr_b nr_s nr_st nr_sl nr_fr nr_np nr_tup ng_i ng_b ng_s ng_fr ng_nil resV effP_eff binD bi_add bi_sub bi_mul bi_quo bi_rem bi_eql bi_neq bi_lss bi_leq bi_gtr bi_geq bi_shl bi_shr bi_and bi_or bi_xor bi_andNot binY binS unD look put putD LS.get LS.drop killE sweep lookO putO dropO enter leave giveBackL giveBack outs lendArgs lendArg newOuts takeIn takeInL lendL DV.lend adoptL DV.adopt elems apartKs part DV.cells unpart settle settleL over mkId szId fillP fillE tk_e2 tk_i tk_y lt_e2 lt_i lt_y lend_rep al_e2 al_is al_ys al_rep al_app lend_app adopt_app new_app lend_e2 lend_i lend_y adopt_e2 adopt_i adopt_y new_e2 new_i allNewL DV.allNew bounds sliceD sliceS em_w em_q em_r em_fn em_tup_w em_tup_q em_tup_r mm_w mm_q mm_r mm_fn ef_load_adr_w ef_load_adr_q ef_load_adr_r retC_w retC_q retC_r rk_w rk_q rk_r rk_fn ok_w ok_q ok_r ok_fn lo_w lo_q lo_r lo_fn pr_w pr_q pr_r pr_fn nr_w nr_q nr_r ng_w ng_q ng_r oa_w oa_q oa_r oa_fn al_w al_q al_r al_fn ov_w ov_q ov_r ov_fn so_w so_q so_r so_fn il_w il_q il_r il_fn oi_w oi_q oi_r oi_fn av_w av_q av_r av_fn nm_w nm_q nm_r nm_fn ef_i2r ef_r2s ef_mkfn ef_idxp_adr ef_calld capsOk DV.cell List.all_cons List.all_nil rk_own_t lo_own_t lk_f lk_t pr_own_t mutB ak_calld hk_calld iw_calld iw_mkfn iw_i2r iw_r2s bw_and bw_or bw_xor bw_andNot bw_eql bw_neq sw_shl sw_shr sq_shl gEnv_nil rk_adr ok_adr lo_adr pr_adr oa_adr capL capArg DV.cap ak_mkfn hk_mkfn
attribute [local congr] nxF_congr ghK_congr gate_congr nx_congr nxD_congr runL_congr runD_congr eff_congr calL_congr ret2_congr seqK_congr regK_congr condK_congr endK_congr drK_congr nxW_congr
attribute [local simp ↓] nxF_some rf_nil rf_gen rf_gate ks_promote ks_rename ghK_some gate_tt gate_tf gate_ft gate_ff gate_u nx_some nxD_some rl_nil rl_mv rl_gen rl_gate rd_nil rd_mv rd_gen rd_gate rd_free rr_false rr_true drK_some drK_none nxW_some rw_nil rw_gen rw_gate ks_region ks_seq ks_cond ks_block seqK_n seqK_e seqK_r regK_some condK_t condK_f blkK_n blkK_r endK_n endK_r calL_some ret2_some opv_t opv_c
attribute [-simp] DV.cells sliceD
attribute [local simp] cells_st cells_sl cells_i cells_y cells_b cells_s cells_w
/-! ### what agrees, as bits -/
def agW : List Int → Nat → BitVec 32 → BitVec 32
  | [], _, w => w
  | k :: r, i, w => agW r (i + 1) (if k = 0 then w &&& ~~~(yesW i) else if k = 1 then w &&& yesW i else w)
theorem agW_bit : ∀ {ks : List Int} {i : Nat} {w : BitVec 32} {s : Nat}, ks.all kOk = true → i + ks.length ≤ 5 → s < 32 → (agW ks i w).getLsbD s = (w.getLsbD s && agB ks (s / 2 ^ i))
  | [], i, w, s, _, _, _ => by simp [agW, agB, ag]
  | k :: r, i, w, s, h, hi, hs => by
    simp only [List.all_cons, Bool.and_eq_true] at h
    simp only [List.length_cons] at hi
    have hk : -1 ≤ k ∧ k ≤ 1 := by simpa [kOk] using h.1
    simp only [agW]
    rw [agW_bit h.2 (by omega) hs, agB_cons]
    have e1 : s / 2 ^ (i + 1) = s / 2 ^ i / 2 := by rw [Nat.pow_succ, Nat.div_div_eq_div_mul]
    have e2 : (s / 2 ^ i).testBit 0 = s.testBit i := by rw [Nat.testBit_div_two_pow]; simp
    have y := yes_bit ⟨i, by omega⟩ ⟨s, hs⟩
    simp only at y
    rw [e1, e2]
    have c : k = -1 ∨ k = 0 ∨ k = 1 := by omega
    rcases c with rfl | rfl | rfl
    · simp
    · rw [if_pos rfl, BitVec.getLsbD_and, BitVec.getLsbD_not, y]
      cases w.getLsbD s <;> cases s.testBit i <;> simp [bI, hs]
    · rw [if_neg (by omega), if_pos rfl, BitVec.getLsbD_and, y]
      cases w.getLsbD s <;> cases s.testBit i <;> simp [bI]
theorem yes_at {i : Nat} (h : i < 5) : ([DV.w 2863311530#32, DV.w 3435973836#32, DV.w 4042322160#32, DV.w 4278255360#32, DV.w 4294901760#32])[i]? = some (.w (yesW i)) := by
  have c : i = 0 ∨ i = 1 ∨ i = 2 ∨ i = 3 ∨ i = 4 := by omega
  rcases c with rfl | rfl | rfl | rfl | rfl <;> rfl
def stAg (es : List DV) (w : BitVec 32) (n k : Int) : LS := ⟨[(3, .w w), (6, .sl 0 es), (7, .i n), (8, .i k), (1048576, .adr (.st [.w (2863311530#32), .w (3435973836#32), .w (4042322160#32), .w (4278255360#32), .w (4294901760#32)]))], []⟩
set_option maxHeartbeats 4000000 in
theorem l_agreeing (n : Int) (hn5 : n ≤ 5) (es : List DV) : ∀ (rest : List Int) (k : Nat) (w : BitVec 32), (k : Int) + rest.length = n → rest.all kOk = true → es.drop k = rest.map .i →
    ex lf F_impl_agreeingStates_W0 (stAg es w n k) = some (.exit 0, stAg es (agW rest k w) n n) := by
  intro rest
  induction rest with
  | nil =>
    intro k w hn _ _
    have hk : (k : Int) = n := by simpa using hn
    rw [w_impl_agreeingStates_0]
    unfold stAg
    simp [F_impl_agreeingStates_L0, hk, agW]
  | cons x rest ih =>
    intro k w hn hr hd
    simp only [List.all_cons, Bool.and_eq_true] at hr
    simp only [List.length_cons] at hn
    obtain ⟨s1, s2, s3, s4, s5, s6⟩ := stp (es := es) (xs := rest.map .i) (x := .i x) (k := (k : Int)) (n := n) (by omega) (by simp; omega) (by omega) (by simpa using hd)
    have ih := ih (k + 1) (if x = 0 then w &&& ~~~(yesW k) else if x = 1 then w &&& yesW k else w) (by omega) hr.2 (by rw [show ((k : Int) + 1).toNat = k + 1 by omega] at s6; exact s6)
    have hk5 : k < 5 := by omega
    have hx : -1 ≤ x ∧ x ≤ 1 := by simpa [kOk] using hr.1
    have c : x = -1 ∨ x = 0 ∨ x = 1 := by omega
    have y := yes_at hk5
    have k5 : (k : Int) < 5 := by omega
    rw [w_impl_agreeingStates_0]
    unfold stAg at *
    simp only [Int.natCast_add, Int.natCast_one] at ih
    rcases c with rfl | rfl | rfl
    · simp at ih
      simp [F_impl_agreeingStates_L0, s1, s2, s3, ih, agW]
    · simp at ih
      simp [F_impl_agreeingStates_L0, s1, s2, s3, ih, agW, y, k5]
    · simp at ih
      simp [F_impl_agreeingStates_L0, s1, s2, s3, ih, agW, y, k5]
theorem c_impl_agreeingStates (ks : List Int) (h : ks.all kOk = true) (hl : ks.length ≤ 5) : call lf n_impl_agreeingStates [.sl 0 (ks.map .i)] = some (.w (agW ks 0 (4294967295#32)), []) := by
  have L := l_agreeing ks.length (by omega) (ks.map .i) ks 0 (4294967295#32) (by simp) h (by simp)
  rw [call_k lf n_impl_agreeingStates _ (F := F_impl_agreeingStates) rfl rfl]
  unfold stAg at L
  simp at L
  simp [F_impl_agreeingStates, gEnv_0, L]
theorem ones_bit {s : Nat} (hs : s < 32) : (4294967295#32).getLsbD s = true := by
  have : ∀ s : Fin 32, (4294967295#32).getLsbD s.val = true := by decide +kernel
  exact this ⟨s, hs⟩
/-! ### all states are those of the tests, and what is behind them -/
theorem agB_mod : ∀ {ks : List Int} (s : Nat), agB ks (s % 2 ^ ks.length) = agB ks s
  | [], s => rfl
  | k :: r, s => by
    rw [agB_cons, agB_cons, List.length_cons]
    have e1 : (s % 2 ^ (r.length + 1)).testBit 0 = s.testBit 0 := by rw [Nat.testBit_mod_two_pow]; simp
    have e2 : s % 2 ^ (r.length + 1) / 2 = (s / 2) % 2 ^ r.length := by rw [Nat.pow_succ, Nat.mul_comm, Nat.mod_mul_right_div_self]
    rw [e1, e2, agB_mod (ks := r) (s / 2)]
theorem tv_mod {m : Int} {ts : List T} (h : tmOk m ts = true) {s : Nat} (hs : s < 32) : tv ts (s % 2 ^ m.toNat) = tv ts s := by
  obtain ⟨h1, _, _⟩ := tmOk_iff.1 h
  obtain ⟨x, hb, _, _, htv⟩ := tv_tree h
  have hle : s % 2 ^ m.toNat < 32 := Nat.lt_of_le_of_lt (Nat.mod_le _ _) hs
  rw [htv _ hs, htv _ hle]
  refine ev_congr (m := m) (fun a ha => ?_) hb
  rw [Nat.testBit_mod_two_pow]
  have : a < m.toNat := by omega
  simp [this]
theorem and_eq_iff (A W : BitVec 32) : (W &&& A = A) ↔ ∀ s, s < 32 → A.getLsbD s = true → W.getLsbD s = true := by
  constructor
  · intro h s hs ha
    have := congrArg (fun v => BitVec.getLsbD v s) h
    simp only [BitVec.getLsbD_and, ha, Bool.and_true] at this
    exact this
  · intro h
    apply BitVec.eq_of_getLsbD_eq
    intro s hs
    rw [BitVec.getLsbD_and]
    cases ha : A.getLsbD s with
    | false => simp
    | true => simp [h s hs ha]
theorem and_zero_iff (A W : BitVec 32) : (W &&& A = 0#32) ↔ ∀ s, s < 32 → A.getLsbD s = true → W.getLsbD s = false := by
  constructor
  · intro h s hs ha
    have := congrArg (fun v => BitVec.getLsbD v s) h
    simp only [BitVec.getLsbD_and, ha, Bool.and_true, BitVec.getLsbD_zero] at this
    exact this
  · intro h
    apply BitVec.eq_of_getLsbD_eq
    intro s hs
    rw [BitVec.getLsbD_and, BitVec.getLsbD_zero]
    cases ha : A.getLsbD s with
    | false => simp
    | true => simp [h s hs ha]
theorem ag_bits {m : Int} {ts : List T} {ks : List Int} (h1 : tmOk m ts = true) (h2 : ksOk m ks = true) (b : Bool) :
    (∀ s, s < 32 → (agW ks 0 (4294967295#32)).getLsbD s = true → (tsW ts).getLsbD s = b) ↔ foT m ts ks = bI b := by
  obtain ⟨h3, _, _⟩ := tmOk_iff.1 h1
  obtain ⟨_, k2, k3⟩ := ksOk_iff.1 h2
  obtain ⟨p1, p2, p3⟩ := pow5 h3.1 h3.2
  have hl : m.toNat = ks.length := by omega
  have key : ∀ s, s < 32 → (agW ks 0 (4294967295#32)).getLsbD s = agB ks s := fun s hs => by
    rw [agW_bit k3 (by omega) hs, ones_bit hs]; simp
  unfold foT
  rw [fo_b (ks_some h2)]
  constructor
  · intro h s hs hg
    exact h s (by omega) (by rw [key s (by omega)]; exact hg)
  · intro h s hs hg
    rw [key s hs, ← agB_mod, ← hl] at hg
    have := h (s % 2 ^ m.toNat) (Nat.mod_lt _ (by omega)) hg
    rw [tv_mod h1 hs] at this
    exact this
theorem c_impl_ForcedBy (m : Int) (ts : List T) (ks : List Int) (hb : (ts.length : Int) < 1099511627776) (hc : (ks.length : Int) < 1099511627776) :
    call lf n_impl_ForcedBy [.i m, .sl 0 (ts.map e2), .sl 0 (ks.map .i)] = some (.tup [.i (fbOf m ts ks), .b (tmOk m ts && ksOk m ks)], []) := by
  rw [call_k lf n_impl_ForcedBy _ (F := F_impl_ForcedBy) rfl rfl]
  have C1 := c_impl_TermOk m ts hb
  have C2 := c_impl_KnownOk m ks hc
  unfold fbOf
  cases h1 : tmOk m ts with
  | false => rw [h1] at C1; simp [F_impl_ForcedBy, C1]
  | true =>
    rw [h1] at C1
    cases h2 : ksOk m ks with
    | false => rw [h2] at C2; simp [F_impl_ForcedBy, C1, C2]
    | true =>
      rw [h2] at C2
      obtain ⟨h3, _, _⟩ := tmOk_iff.1 h1
      obtain ⟨_, k2, k3⟩ := ksOk_iff.1 h2
      have C3 := c_impl_trueStates h1
      have C4 := c_impl_agreeingStates ks k3 (by omega)
      have a1 := ag_bits h1 h2 true
      have a0 := ag_bits h1 h2 false
      rw [← and_eq_iff] at a1
      rw [← and_zero_iff] at a0
      generalize agW ks 0 (4294967295#32) = A at *
      rcases fo_or (tv ts) (agB ks) (2 ^ m.toNat) with h | h | h
      · have e : foT m ts ks = 1 := h
        have q := a1.2 e
        have q' : ((tsW ts &&& A) == A) = true := by rw [q]; exact beq_self_eq_true _
        simp [F_impl_ForcedBy, C1, C2, C3, C4, e, q']
      · have e : foT m ts ks = 0 := h
        have q := a0.2 e
        have q1 : ((tsW ts &&& A) == A) = false := by
          rw [beq_eq_false_iff_ne]; intro hq
          have := a1.1 hq; rw [e] at this; cases this
        rw [q] at q1
        simp [F_impl_ForcedBy, C1, C2, C3, C4, e, q, q1]
      · have e : foT m ts ks = -1 := h
        have q1 : ((tsW ts &&& A) == A) = false := by
          rw [beq_eq_false_iff_ne]; intro hq
          have := a1.1 hq; rw [e] at this; cases this
        have q0 : ((tsW ts &&& A) == 0#32) = false := by
          rw [beq_eq_false_iff_ne]; intro hq
          have := a0.1 hq; rw [e] at this; cases this
        simp [F_impl_ForcedBy, C1, C2, C3, C4, e, q0, q1]
end Zz
