/- What the functions answer, as equations: E24. No conditions. -/
import Derived.Test.YtjallbfleicfnabDoorE23
set_option linter.unusedSectionVars false
set_option linter.unusedVariables false
set_option linter.unusedSimpArgs false
namespace Zz
open Go.Lg Md
set_option linter.unusedSimpArgs false
set_option linter.unusedVariables false
attribute [local simp] oldO_some oa_nil oa_i oa_y oa_b oa_s oa_st oa_sl oa_own oa_oad oa_nl al_nil al_cons al_i al_y al_b al_s al_st al_sl nxF_some nxF_none rf_nil rf_gen rf_gate hk_newnil hk_make hk_alloc hk_box hk_build hk_bslice hk_call hk_store hk_app cl_nil cl_cons ai_nil ai_cons il_i il_y il_b il_s il_st il_sl il_own il_adr il_oad il_ref il_fr il_tup il_nil il_np il_und il_dead oi_e oi_i oi_y oi_b oi_s oi_st oi_sl oi_own oi_adr oi_oad oi_ref oi_fr oi_tup oi_nil oi_np oi_und oi_dead as_nil as_cons ao_nil ao_cons av_i av_y av_b av_s av_st av_sl av_own av_adr av_oad av_ref av_fr av_tup av_nil av_np av_und av_dead pro_cons ghK_some ks_promote ks_rename ren_own dropO adoptP newP wholeP cutP allOldL ex_skip ex_ret ex_exit ks_region ks_seq ks_cond ks_block seqK_n seqK_e seqK_r regK_some condK_t condK_f blkK_n blkK_r blkK_e endK_n endK_r rr_false rr_true rd_free mo_nil mo_cons drK_some drK_none nxW_some nxW_none rw_nil rw_gen rw_gate ak_newnil ak_make ak_alloc ak_box ak_build ak_bslice ak_call ak_store ak_app iw_mm iw_idxp ef_mmx ef_mmn ef_idxp nxD_some nxD_none ov_i ov_y ov_b ov_s ov_st ov_sl ov_own ov_oad ov_adr ov_nil ov_np ov_und ov_dead ov_tup oldN_some oldN_nil oldN_none so_none so_i so_y so_b so_s so_st so_sl so_adr so_nil so_np so_und so_dead anyM_nil anyM_t anyM_c so_own so_oad rd_nil rd_gen rd_mv rd_gate iw_mv iw_newnil iw_pick iw_bin iw_eqb iw_eqs iw_un iw_len iw_lens iw_chk iw_fld iw_fldv iw_idxa iw_idx iw_load iw_store iw_slice iw_slices iw_make iw_alloc iw_box iw_build iw_bslice iw_app iw_b2i iw_i2b iw_i2i iw_same iw_b2s iw_s2b iw_ext iw_call nm_i nm_y nm_b nm_s nm_st nm_sl nm_own nm_oad nm_adr nm_nil nm_np nm_und nm_dead nm_tup rl_nil rl_gate rl_mv rl_gen opv_t opv_c nx_some nx_none gate_tt gate_tf gate_ft gate_ff gate_u fr_ap em_nil em_i em_y em_b em_s em_st em_sl em_own em_adr em_oad em_ref em_nl em_np em_und em_dead em_tup0 em_tup_i em_tup_b em_tup_s em_tup_sl em_tup_st em_tup_np em_tup_own em_tup_oad mm_i mm_y mm_b mm_s mm_st mm_sl mm_own mm_oad mm_adr mm_nil mm_np mm_und mm_dead ef_mv ef_newnil ef_pickt ef_pickf ef_bin ef_eqb ef_eqs ef_un ef_lens ef_len_sl ef_len_own ef_len_nil ef_chk_adr ef_chk_oad ef_fld_adr ef_fld_oad ef_fldv idxR_some ef_idxa_sl ef_idxa_own ef_idx ef_load_adr_st ef_load_adr_i ef_load_adr_y ef_load_adr_b ef_load_adr_s ef_load_adr_sl atN_nil atN_zero atN_succ ef_load_oad ef_store ef_slice ef_slices ef_make ef_alloc ef_box ef_build ef_bslice ef_app_own ef_app_nil ef_b2i ef_i2b ef_i2i ef_same ef_ext ret1 ret2_some calL_some ef_call retC_i retC_y retC_b retC_s retC_st retC_sl retC_np retC_fr retC_ref retC_tup rk_nil rk_i rk_y rk_b rk_s rk_st rk_sl rk_own rk_oad rk_nl ok_nil ok_i ok_y ok_b ok_s ok_st ok_sl ok_own ok_oad ok_nl lo_nil lo_i lo_y lo_b lo_s lo_st lo_sl lo_own lo_oad lo_nl pr_nil pr_i pr_y pr_b pr_s pr_st pr_sl pr_own pr_nl pr_oad nr_i nr_y nr_b nr_s nr_st nr_sl nr_fr nr_np nr_tup ng_i ng_b ng_s ng_fr ng_nil resV effP_eff binD bi_add bi_sub bi_mul bi_quo bi_rem bi_eql bi_neq bi_lss bi_leq bi_gtr bi_geq bi_shl bi_shr bi_and bi_or bi_xor bi_andNot binY binS unD look put putD LS.get LS.drop killE sweep lookO putO dropO enter leave giveBackL giveBack outs lendArgs lendArg newOuts takeIn takeInL lendL DV.lend adoptL DV.adopt elems apartKs part DV.cells unpart settle settleL over mkId szId fillP fillE tk_e2 tk_i tk_y lt_e2 lt_i lt_y lend_rep al_e2 al_is al_ys al_rep al_app lend_app adopt_app new_app lend_e2 lend_i lend_y adopt_e2 adopt_i adopt_y new_e2 new_i allNewL DV.allNew bounds sliceD sliceS em_w em_q em_r em_fn em_tup_w em_tup_q em_tup_r mm_w mm_q mm_r mm_fn ef_load_adr_w ef_load_adr_q ef_load_adr_r retC_w retC_q retC_r rk_w rk_q rk_r rk_fn ok_w ok_q ok_r ok_fn lo_w lo_q lo_r lo_fn pr_w pr_q pr_r pr_fn nr_w nr_q nr_r ng_w ng_q ng_r oa_w oa_q oa_r oa_fn al_w al_q al_r al_fn ov_w ov_q ov_r ov_fn so_w so_q so_r so_fn il_w il_q il_r il_fn oi_w oi_q oi_r oi_fn av_w av_q av_r av_fn nm_w nm_q nm_r nm_fn ef_i2r ef_r2s ef_mkfn ef_idxp_adr ef_calld capsOk DV.cell List.all_cons List.all_nil rk_own_t lo_own_t lk_f lk_t pr_own_t mutB ak_calld hk_calld iw_calld iw_mkfn iw_i2r iw_r2s bw_and bw_or bw_xor bw_andNot bw_eql bw_neq sw_shl sw_shr sq_shl gEnv_nil rk_adr ok_adr lo_adr pr_adr oa_adr capL capArg DV.cap ak_mkfn hk_mkfn
attribute [local congr] nxF_congr ghK_congr gate_congr nx_congr nxD_congr runL_congr runD_congr eff_congr calL_congr ret2_congr seqK_congr regK_congr condK_congr endK_congr drK_congr nxW_congr
attribute [local simp ↓] nxF_some rf_nil rf_gen rf_gate ks_promote ks_rename ghK_some gate_tt gate_tf gate_ft gate_ff gate_u nx_some nxD_some rl_nil rl_mv rl_gen rl_gate rd_nil rd_mv rd_gen rd_gate rd_free rr_false rr_true drK_some drK_none nxW_some rw_nil rw_gen rw_gate ks_region ks_seq ks_cond ks_block seqK_n seqK_e seqK_r regK_some condK_t condK_f blkK_n blkK_r endK_n endK_r calL_some ret2_some opv_t opv_c
attribute [-simp] DV.cells
attribute [local simp] cells_st cells_sl cells_i cells_y cells_b cells_s cells_w
/-! ### which tests never matter -/
theorem idle_fin : ∀ (k : Fin 5) (s : Fin 32), (s.val.testBit k.val = true → s.val ||| 2 ^ k.val = s.val ∧ ¬ ((2 ^ k.val + s.val < 32) ∧ (2 ^ k.val + s.val).testBit k.val = true)) ∧
    (s.val.testBit k.val = false → 2 ^ k.val + s.val = s.val ||| 2 ^ k.val ∧ 2 ^ k.val + s.val < 32 ∧ (2 ^ k.val + s.val).testBit k.val = true) := by decide +kernel
theorem yes_bit' {k s : Nat} (hk : k < 5) (hs : s < 32) : (yesW k).getLsbD s = s.testBit k := yes_bit ⟨k, hk⟩ ⟨s, hs⟩
def idW (v : BitVec 32) (k : Nat) : Bool := (v &&& yesW k) >>> (2 ^ k) == (v &&& ~~~ yesW k)
theorem idW_iff {v : BitVec 32} {k : Nat} (hk : k < 5) : idW v k = true ↔ ∀ s, s < 32 → v.getLsbD s = v.getLsbD (s ||| 2 ^ k) := by
  unfold idW
  rw [beq_iff_eq]
  have key : ∀ s, s < 32 → ((((v &&& yesW k) >>> (2 ^ k)).getLsbD s = (v &&& ~~~ yesW k).getLsbD s) ↔ v.getLsbD s = v.getLsbD (s ||| 2 ^ k)) := by
    intro s hs
    obtain ⟨f1, f2⟩ := idle_fin ⟨k, hk⟩ ⟨s, hs⟩
    simp only at f1 f2
    rw [BitVec.getLsbD_ushiftRight, BitVec.getLsbD_and, BitVec.getLsbD_and, BitVec.getLsbD_not, yes_bit' hk hs]
    cases hb : s.testBit k with
    | true =>
      obtain ⟨g1, g2⟩ := f1 hb
      rw [g1]
      by_cases hlt : 2 ^ k + s < 32
      · rw [yes_bit' hk hlt]
        have : (2 ^ k + s).testBit k = false := by
          cases h : (2 ^ k + s).testBit k with
          | false => rfl
          | true => exact absurd ⟨hlt, h⟩ g2
        simp [this]
      · rw [BitVec.getLsbD_of_ge v _ (by omega)]; simp
    | false =>
      obtain ⟨g1, g2, g3⟩ := f2 hb
      rw [← g1, yes_bit' hk g2, g3]
      simp [hs, eq_comm]
  constructor
  · intro h s hs
    exact (key s hs).1 (by rw [h])
  · intro h
    apply BitVec.eq_of_getLsbD_eq
    intro s hs
    exact (key s hs).2 (h s hs)
/-- the tests that never matter -/
def idP (m : Int) (ts : List T) (k : Nat) : Bool := allTo (fun s => tv ts s == tv ts (s ||| 2 ^ k)) (2 ^ m.toNat)
theorem idP_iff {m : Int} {ts : List T} {k : Nat} : idP m ts k = true ↔ ∀ s, s < 2 ^ m.toNat → tv ts s = tv ts (s ||| 2 ^ k) := by
  unfold idP
  rw [allTo_iff]
  simp
theorem or_mod {s k n : Nat} (hk : k < n) : (s ||| 2 ^ k) % 2 ^ n = (s % 2 ^ n) ||| 2 ^ k := by
  apply Nat.eq_of_testBit_eq
  intro i
  rw [Nat.testBit_mod_two_pow, Nat.testBit_or, Nat.testBit_or, Nat.testBit_mod_two_pow, Nat.testBit_two_pow]
  by_cases hi : i < n
  · simp [hi]
  · have : k ≠ i := by omega
    simp [hi, this]
theorem idW_P {m : Int} {ts : List T} (h : tmOk m ts = true) {k : Nat} (hk : (k : Int) < m) : idW (tsW ts) k = idP m ts k := by
  obtain ⟨h1, _, _⟩ := tmOk_iff.1 h
  obtain ⟨p1, p2, p3⟩ := pow5 h1.1 h1.2
  rw [Bool.eq_iff_iff, idW_iff (by omega), idP_iff]
  constructor
  · exact fun q s hs => q s (by omega)
  · intro q s hs
    have hlt : s ||| 2 ^ k < 2 ^ 5 := Nat.or_lt_two_pow (by omega) (Nat.pow_lt_pow_right (by omega) (by omega))
    have := q (s % 2 ^ m.toNat) (Nat.mod_lt _ (by omega))
    rw [← or_mod (by omega), tv_mod h hs, tv_mod h (by omega)] at this
    exact this
def idOf (m : Int) (ts : List T) : Int := if tmOk m ts then (tabN (idP m ts) m.toNat : Nat) else -1
theorem or_fin : ∀ (s : Fin 32) (k : Fin 5), orI (s.val : Int) ((2 : Int) ^ k.val) = ((s.val ||| 2 ^ k.val : Nat) : Int) := by decide +kernel
theorem or_nat {s k : Nat} (hs : s < 32) (hk : k < 5) : orI (s : Int) ((2 : Int) ^ k) = ((s ||| 2 ^ k : Nat) : Int) := or_fin ⟨s, hs⟩ ⟨k, hk⟩
theorem allTo_succ (P : Nat → Bool) (n : Nat) : allTo P (n + 1) = (allTo P n && P n) := by
  rw [Bool.eq_iff_iff, Bool.and_eq_true, allTo_iff, allTo_iff]
  constructor
  · exact fun h => ⟨fun i hi => h i (by omega), h n (by omega)⟩
  · intro h i hi
    rcases Nat.lt_succ_iff_lt_or_eq.1 hi with q | rfl
    · exact h.1 i q
    · exact h.2
end Zz
