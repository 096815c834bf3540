/- What the functions answer, as equations: L3g. No conditions. -/
import Derived.Test.YtjallbfleicfnacDoorE31
set_option linter.unusedSectionVars false
set_option linter.unusedVariables false
set_option linter.unusedSimpArgs false
namespace Zz
open Go.Lg Md
set_option linter.unusedSimpArgs false
set_option linter.unusedVariables false
attribute [local simp] oldO_some oa_nil oa_i oa_y oa_b oa_s oa_st oa_sl oa_own oa_oad oa_nl al_nil al_cons al_i al_y al_b al_s al_st al_sl nxF_some nxF_none rf_nil rf_gen rf_gate hk_newnil hk_make hk_alloc hk_box hk_build hk_bslice hk_call hk_store hk_app cl_nil cl_cons ai_nil ai_cons il_i il_y il_b il_s il_st il_sl il_own il_adr il_oad il_ref il_fr il_tup il_nil il_np il_und il_dead oi_e oi_i oi_y oi_b oi_s oi_st oi_sl oi_own oi_adr oi_oad oi_ref oi_fr oi_tup oi_nil oi_np oi_und oi_dead as_nil as_cons ao_nil ao_cons av_i av_y av_b av_s av_st av_sl av_own av_adr av_oad av_ref av_fr av_tup av_nil av_np av_und av_dead pro_cons ghK_some ks_promote ks_rename ren_own dropO adoptP newP wholeP cutP allOldL ex_skip ex_ret ex_exit ks_region ks_seq ks_cond ks_block seqK_n seqK_e seqK_r regK_some condK_t condK_f blkK_n blkK_r blkK_e endK_n endK_r rr_false rr_true rd_free mo_nil mo_cons drK_some drK_none nxW_some nxW_none rw_nil rw_gen rw_gate ak_newnil ak_make ak_alloc ak_box ak_build ak_bslice ak_call ak_store ak_app iw_mm iw_idxp ef_mmx ef_mmn ef_idxp nxD_some nxD_none ov_i ov_y ov_b ov_s ov_st ov_sl ov_own ov_oad ov_adr ov_nil ov_np ov_und ov_dead ov_tup oldN_some oldN_nil oldN_none so_none so_i so_y so_b so_s so_st so_sl so_adr so_nil so_np so_und so_dead anyM_nil anyM_t anyM_c so_own so_oad rd_nil rd_gen rd_mv rd_gate iw_mv iw_newnil iw_pick iw_bin iw_eqb iw_eqs iw_un iw_len iw_lens iw_chk iw_fld iw_fldv iw_idxa iw_idx iw_load iw_store iw_slice iw_slices iw_make iw_alloc iw_box iw_build iw_bslice iw_app iw_b2i iw_i2b iw_i2i iw_same iw_b2s iw_s2b iw_ext iw_call nm_i nm_y nm_b nm_s nm_st nm_sl nm_own nm_oad nm_adr nm_nil nm_np nm_und nm_dead nm_tup rl_nil rl_gate rl_mv rl_gen opv_t opv_c nx_some nx_none gate_tt gate_tf gate_ft gate_ff gate_u fr_ap em_nil em_i em_y em_b em_s em_st em_sl em_own em_adr em_oad em_ref em_nl em_np em_und em_dead em_tup0 em_tup_i em_tup_b em_tup_s em_tup_sl em_tup_st em_tup_np em_tup_own em_tup_oad mm_i mm_y mm_b mm_s mm_st mm_sl mm_own mm_oad mm_adr mm_nil mm_np mm_und mm_dead ef_mv ef_newnil ef_pickt ef_pickf ef_bin ef_eqb ef_eqs ef_un ef_lens ef_len_sl ef_len_own ef_len_nil ef_chk_adr ef_chk_oad ef_fld_adr ef_fld_oad ef_fldv idxR_some ef_idxa_sl ef_idxa_own ef_idx ef_load_adr_st ef_load_adr_i ef_load_adr_y ef_load_adr_b ef_load_adr_s ef_load_adr_sl atN_nil atN_zero atN_succ ef_load_oad ef_store ef_slice ef_slices ef_make ef_alloc ef_box ef_build ef_bslice ef_app_own ef_app_nil ef_b2i ef_i2b ef_i2i ef_same ef_ext ret1 ret2_some calL_some ef_call retC_i retC_y retC_b retC_s retC_st retC_sl retC_np retC_fr retC_ref retC_tup rk_nil rk_i rk_y rk_b rk_s rk_st rk_sl rk_own rk_oad rk_nl ok_nil ok_i ok_y ok_b ok_s ok_st ok_sl ok_own ok_oad ok_nl lo_nil lo_i lo_y lo_b lo_s lo_st lo_sl lo_own lo_oad lo_nl pr_nil pr_i pr_y pr_b pr_s pr_st pr_sl pr_own pr_nl pr_oad nr_i nr_y nr_b nr_s nr_st nr_sl nr_fr nr_np nr_tup ng_i ng_b ng_s ng_fr ng_nil resV effP_eff binD bi_add bi_sub bi_mul bi_quo bi_rem bi_eql bi_neq bi_lss bi_leq bi_gtr bi_geq bi_shl bi_shr bi_and bi_or bi_xor bi_andNot binY binS unD look put putD LS.get LS.drop killE sweep lookO putO dropO enter leave giveBackL giveBack outs lendArgs lendArg newOuts takeIn takeInL lendL DV.lend adoptL DV.adopt elems apartKs part DV.cells unpart settle settleL over mkId szId fillP fillE tk_e2 tk_i tk_y lt_e2 lt_i lt_y lend_rep al_e2 al_is al_ys al_rep al_app lend_app adopt_app new_app lend_e2 lend_i lend_y adopt_e2 adopt_i adopt_y new_e2 new_i allNewL DV.allNew bounds sliceD sliceS em_w em_q em_r em_fn em_tup_w em_tup_q em_tup_r mm_w mm_q mm_r mm_fn ef_load_adr_w ef_load_adr_q ef_load_adr_r retC_w retC_q retC_r rk_w rk_q rk_r rk_fn ok_w ok_q ok_r ok_fn lo_w lo_q lo_r lo_fn pr_w pr_q pr_r pr_fn nr_w nr_q nr_r ng_w ng_q ng_r oa_w oa_q oa_r oa_fn al_w al_q al_r al_fn ov_w ov_q ov_r ov_fn so_w so_q so_r so_fn il_w il_q il_r il_fn oi_w oi_q oi_r oi_fn av_w av_q av_r av_fn nm_w nm_q nm_r nm_fn ef_i2r ef_r2s ef_mkfn ef_idxp_adr ef_calld capsOk DV.cell List.all_cons List.all_nil rk_own_t lo_own_t lk_f lk_t pr_own_t mutB ak_calld hk_calld iw_calld iw_mkfn iw_i2r iw_r2s bw_and bw_or bw_xor bw_andNot bw_eql bw_neq sw_shl sw_shr sq_shl gEnv_nil rk_adr ok_adr lo_adr pr_adr oa_adr capL capArg DV.cap ak_mkfn hk_mkfn
attribute [local congr] nxF_congr ghK_congr gate_congr nx_congr nxD_congr runL_congr runD_congr eff_congr calL_congr ret2_congr seqK_congr regK_congr condK_congr endK_congr drK_congr nxW_congr
attribute [local simp ↓] nxF_some rf_nil rf_gen rf_gate ks_promote ks_rename ghK_some gate_tt gate_tf gate_ft gate_ff gate_u nx_some nxD_some rl_nil rl_mv rl_gen rl_gate rd_nil rd_mv rd_gen rd_gate rd_free rr_false rr_true drK_some drK_none nxW_some rw_nil rw_gen rw_gate ks_region ks_seq ks_cond ks_block seqK_n seqK_e seqK_r regK_some condK_t condK_f blkK_n blkK_r endK_n endK_r calL_some ret2_some opv_t opv_c
attribute [-simp] DV.cells
attribute [local simp] cells_st cells_sl cells_i cells_y cells_b cells_s
def iN (k : Nat) : Int := k
theorem mem32 {m : Int} (h1 : 1 ≤ m) (h5 : m ≤ 5) {ts : List T} {s o : Nat} (h : o ∈ lpN m ts s) : o < 32 := by
  obtain ⟨p1, p2, p3⟩ := pow5 h1 h5
  have := (mem_lpN.1 h).1
  omega
set_option maxHeartbeats 4000000 in
theorem ti_and (m : Int) (t : List T) (N : List Nat) (n X : Int) (x : Nat) (hN : ∀ o ∈ N, o < 32) (hl : N.length ≤ 32) (hx : x < 32) :
    ex lf F_laws_FnTurnsIn_W0 ⟨[(3, .i m), (4, .own 7698 t.length 0 t.length), (6, .i n), (7, .i x), (8, .own 21512 N.length 0 N.length), (9, .i 0)], [(7698, t.map e2), (21512, (N.map iN).map .i)]⟩ =
    some (.exit 0, ⟨[(3, .i m), (4, .own 7698 t.length 0 t.length), (6, .i n), (7, .i (anN N x)), (8, .own 21512 N.length 0 N.length), (9, .i N.length)], [(7698, t.map e2), (21512, (N.map iN).map .i)]⟩) := by
  have L := loop_count (lf := lf) (L := F_laws_FnTurnsIn_L0) N.length (fun i => ⟨[(3, .i m), (4, .own 7698 t.length 0 t.length), (6, .i n), (7, .i (anN (N.take i) x)), (8, .own 21512 N.length 0 N.length), (9, .i i)], [(7698, t.map e2), (21512, (N.map iN).map .i)]⟩) (x := .exit 0) (R := ⟨[(3, .i m), (4, .own 7698 t.length 0 t.length), (6, .i n), (7, .i (anN (N.take N.length) x)), (8, .own 21512 N.length 0 N.length), (9, .i N.length)], [(7698, t.map e2), (21512, (N.map iN).map .i)]⟩) (fun i hi => by
    have hlt : (i : Int) < N.length := by omega
    have q5 : atN ((N.map iN).map .i) i = some (.i (N[i] : Nat)) := by
      show ((N.map iN).map DV.i)[i]? = _
      rw [List.getElem?_map, List.getElem?_map, List.getElem?_eq_getElem hi]; rfl
    have w1 : wr ((i : Int) + 1) = (i : Int) + 1 := wr_id (by omega) (by omega)
    have o1 := hN _ (List.getElem_mem hi)
    have o2 := anN_le (N.take i) x
    have an := and_nat (a := anN (N.take i) x) (b := N[i]) (by omega) o1
    have e : anN (N.take (i + 1)) x = anN (N.take i) x &&& N[i] := by
      unfold anN; rw [List.take_succ_eq_append_getElem hi, List.foldl_append]; rfl
    have lm : ((N.map iN).map DV.i).length = N.length := by simp
    simp only [e]
    rw [← an]
    generalize (N.map iN).map DV.i = es at *
    generalize N[i] = y at *
    simp [F_laws_FnTurnsIn_L0, hi, hlt, q5, lm, w1]) (by
    simp [F_laws_FnTurnsIn_L0]) (by simp)
  rw [List.take_length] at L
  exact L
set_option maxHeartbeats 4000000 in
theorem law_FnTurnsIn (x : List Nat) (_ : x.length ≤ Go.maxLen) (hb : ∀ y ∈ x, y < 256) : call lf n_laws_FnTurnsIn [bys x] = some (.b true, []) := by
  show call lf n_laws_FnTurnsIn [.sl 0 (x.map .y)] = _
  rw [call_k lf n_laws_FnTurnsIn _ (F := F_laws_FnTurnsIn) rfl rfl]
  by_cases hl : 1048576 < (x.length : Int)
  · simp (config := { maxSteps := 2000000 }) [F_laws_FnTurnsIn, hl]
  · obtain ⟨m, t, s, m1, t1, s1, d⟩ := c_DrawTurnsIn hb (by omega)
    have V1 := c_impl_TurnsIn m t s (by omega)
    have V2 := c_spec_TurnsIn m t s (by omega)
    have lb1 : t.length ≤ bound := by unfold bound; omega
    cases hk : (tmOk m t && stOk m s) with
    | false =>
      have e : tuOf m t s = -1 := by unfold tuOf; rw [hk]; rfl
      rw [e] at V1 V2
      simp (config := { maxSteps := 2000000 }) [F_laws_FnTurnsIn, hl, d, V1, V2, c_alive]
    | true =>
      have e : tuOf m t s = (tabN (tuP t s.toNat) m.toNat : Nat) := by unfold tuOf; rw [hk]; rfl
      rw [e] at V1 V2
      have I1 := c_impl_IdleTests m t (by omega)
      have LP := c_impl_LeastProofs m t s (by omega)
      have elp : lpOf m t s = sel (lpP m t s.toNat) (2 ^ m.toNat) := by unfold lpOf; rw [hk]; rfl
      rw [elp, sel_lpN] at LP
      rw [Bool.and_eq_true] at hk
      have ei : idOf m t = (tabN (idP m t) m.toNat : Nat) := by unfold idOf; rw [hk.1]; rfl
      rw [ei] at I1
      obtain ⟨p1, p2, p3⟩ := pow5 m1.1 m1.2
      obtain ⟨_, s0, s2⟩ := stOk_iff.1 hk.2
      have hs : s.toNat < 2 ^ m.toNat := by omega
      have A := an_turn m1.1 m1.2 (ts := t) hs
      have Z := turn_idle0 m1.1 m1.2 (ts := t) hs
      have nl := lpN_len m t s.toNat
      have U := ti_and m t (lpN m t s.toNat) (tabN (tuP t s.toNat) m.toNat : Nat) 0 (2 ^ m.toNat - 1) (fun o ho => mem32 m1.1 m1.2 ho) (by omega) (by omega)
      rw [A] at U
      have b1 := tabN_lt (tuP t s.toNat) m.toNat
      have b2 := tabN_lt (idP m t) m.toNat
      have an := and_nat (a := tabN (tuP t s.toNat) m.toNat) (b := tabN (idP m t) m.toNat) (by omega) (by omega)
      rw [Z] at an
      have nn : ¬ ((tabN (tuP t s.toNat) m.toNat : Nat) : Int) < 0 := by omega
      have az : andNotI (tabN (tuP t s.toNat) m.toNat : Nat) (tabN (tuP t s.toNat) m.toNat : Nat) = 0 := by
        rw [andn_nat (by omega) (by omega)]
        have : tabN (tuP t s.toNat) m.toNat &&& (31 ^^^ tabN (tuP t s.toNat) m.toNat) = 0 := by
          apply Nat.eq_of_testBit_eq
          intro a
          rw [Nat.testBit_and, Nat.testBit_xor, Nat.zero_testBit]
          by_cases h5 : a < 5
          · rw [show (31 : Nat) = 2 ^ 5 - 1 from rfl, Nat.testBit_two_pow_sub_one]
            cases (tabN (tuP t s.toNat) m.toNat).testBit a <;> simp [h5]
          · rw [Nat.testBit_lt_two_pow (Nat.lt_of_lt_of_le b1 (Nat.le_trans p2 (by rw [show (32 : Nat) = 2 ^ 5 from rfl]; exact Nat.pow_le_pow_right (by omega) (by omega))))]
            simp
        rw [this]; rfl
      have sh := shl1 (k := m) (by omega) (by omega)
      have n1 : ¬ (m < 0) := by omega
      have w1 : wr ((2 : Int) ^ m.toNat - 1) = (2 ^ m.toNat - 1 : Nat) := by rw [wr_id (by omega) (by omega)]; omega
      have lb3 : (lpN m t s.toNat).length ≤ bound := by unfold bound; omega
      have mp : ((lpN m t s.toNat).map fun (k : Nat) => (k : Int)) = (lpN m t s.toNat).map iN := rfl
      rw [mp] at LP
      have lm : ((lpN m t s.toNat).map iN).length = (lpN m t s.toNat).length := by simp
      generalize hT : tabN (tuP t s.toNat) m.toNat = y at *
      generalize tabN (idP m t) m.toNat = z at *
      generalize lpN m t s.toNat = N at *
      generalize N.map iN = Ni at *
      generalize 2 ^ m.toNat - 1 = al at *
      simp (config := { maxSteps := 2000000 }) [F_laws_FnTurnsIn, hl, d, V1, V2, I1, LP, U, an, az, nn, sh, n1, w1, lb1, lb3, lm]
end Zz
